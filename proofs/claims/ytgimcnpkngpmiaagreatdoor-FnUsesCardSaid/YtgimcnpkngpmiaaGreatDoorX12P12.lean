/- Texts on which the proofs of several laws stand, one behind the other (12 of 13). No condition of their own. -/
import Derived.Test.YtgimcnpkngpmiaaGreatDoorX12P11
import Derived.IntWalk
import Derived.Test.YtgimcnpkngpmiaaGreatDoorX12P4
import Derived.Test.YtgimcnpkngpmiaaGreatDoorX12P5
import Derived.Test.YtgimcnpkngpmiaaGreatDoorX12P2
import Derived.Test.YtgimcnpkngpmiaaGreatDoorX12P6
import Derived.Test.YtgimcnpkngpmiaaGreatDoorX12P8
import Derived.Test.YtgimcnpkngpmiaaGreatDoorX12P7
import Derived.Test.YtgimcnpkngpmiaaGreatDoorX12P9
/- Reckoning with the loops of plain functions; lists of valid records with rising ids. No condition. -/
namespace Go.Proofs.YtgimcnpkngpmiaaGreatDoor.QLoop
set_option linter.unusedVariables false
open Go.RowKit
open Go.Proofs.YtgimcnpkngpmiaaGreatDoor.GoP Go.Proofs.YtgimcnpkngpmiaaGreatDoor.QBase

theorem cnt_ex {σ ρ : Type} {f : Nat → σ → (σ → Option ρ) → (σ → Option ρ) → Option ρ} {fin : σ → Option ρ} {Q : ρ → Prop} {n : Nat} (I : Nat → σ → Prop)
    (step : ∀ k s nx, k < n → I k s → (∀ s', I (k + 1) s' → ∃ r, nx s' = some r ∧ Q r) → ∃ r, f k s nx fin = some r ∧ Q r) (done : ∀ s, I n s → ∃ r, fin s = some r ∧ Q r) :
    ∀ m k s, k + m = n → I k s → ∃ r, cntK f m k s fin = some r ∧ Q r := by
  intro m
  induction m with
  | zero => intro k s hk hI; obtain rfl : k = n := by omega
            exact done s hI
  | succ m ih => intro k s hk hI; exact step k s _ (by omega) hI (fun s' h' => ih (k + 1) s' (by omega) h')
theorem cnt_is {σ ρ : Type} {f : Nat → σ → (σ → Option ρ) → (σ → Option ρ) → Option ρ} {fin : σ → Option ρ} {n : Nat} (r : ρ) (I : Nat → σ → Prop)
    (step : ∀ k s nx, k < n → I k s → (∀ s', I (k + 1) s' → nx s' = some r) → f k s nx fin = some r) (done : ∀ s, I n s → fin s = some r) (s : σ) (h0 : I 0 s) : cntK f n 0 s fin = some r := by
  obtain ⟨r', h, rfl⟩ := cnt_ex (Q := fun x => x = r) I (fun k s nx hk hI hn => ⟨r, step k s nx hk hI (fun s' h' => by obtain ⟨_, h, rfl⟩ := hn s' h'; exact h), rfl⟩) (fun s h => ⟨r, done s h, rfl⟩) n 0 s (by omega) h0
  exact h
theorem at_lt {α : Type} {l : List α} {k : Nat} (h : k < l.length) : ∃ x, l[k]? = some x ∧ idx l (k : Int) = some x := ⟨l[k], List.getElem?_eq_getElem h, by rw [idx_nat, List.getElem?_eq_getElem h]⟩
theorem idx_pred {α : Type} {l : List α} {k : Nat} {x : α} (hk : 0 < k) (hb : k ≤ 9223372036854775807) (h : l[k - 1]? = some x) : idx l (IntKind.i64.wrap ((k : Int) - 1)) = some x := by
  rw [IntWalk.i64_in _ (by omega), show ((k : Int) - 1) = ((k - 1 : Nat) : Int) by omega, idx_nat, h]
theorem take_next {α : Type} {l : List α} {k : Nat} {x : α} (h : l[k]? = some x) : l.take (k + 1) = l.take k ++ [x] := by
  obtain ⟨hk, e⟩ := List.getElem?_eq_some_iff.1 h
  rw [List.take_succ_eq_append_getElem hk, e]
theorem all_next {α : Type} {p : α → Bool} {l : List α} {k : Nat} {x : α} (h : l[k]? = some x) : (l.take (k + 1)).all p = ((l.take k).all p && p x) := by
  rw [take_next h]; simp
theorem not_all {α : Type} {p : α → Bool} {l : List α} {k : Nat} {x : α} (h : l[k]? = some x) (hp : p x = false) : l.all p = false := by
  rw [Bool.eq_false_iff]
  intro ha
  have := List.all_eq_true.1 ha x (List.mem_of_getElem? h)
  rw [hp] at this; exact absurd this (by simp)
theorem wrap_in {x : Int} (h1 : -9223372036854775808 ≤ x) (h2 : x ≤ 9223372036854775807) : IntKind.i64.wrap x = x := IntWalk.i64_in _ (by omega)

/-- valid, and above the one ahead of it -/
def upAt {α : Type} (ok : α → Bool) (id : α → Int) (l : List α) (k : Nat) : Bool :=
  match l[k]? with
  | none => true
  | some s => ok s && (decide (k = 0) || (match l[k-1]? with | none => true | some r => decide (id r < id s)))
def upTo {α : Type} (ok : α → Bool) (id : α → Int) (l : List α) (k : Nat) : Bool := (List.range k).all (upAt ok id l)
theorem upTo_zero {α : Type} (ok : α → Bool) (id : α → Int) (l : List α) : upTo ok id l 0 = true := rfl
theorem upTo_succ {α : Type} (ok : α → Bool) (id : α → Int) (l : List α) (k : Nat) : upTo ok id l (k + 1) = (upTo ok id l k && upAt ok id l k) := by simp [upTo, List.range_succ, List.all_append]
theorem upTo_not {α : Type} {ok : α → Bool} {id : α → Int} {l : List α} {k n : Nat} (h : upAt ok id l k = false) (hk : k < n) : upTo ok id l n = false := by
  unfold upTo
  rw [Bool.eq_false_iff]
  intro ha
  have := List.all_eq_true.1 ha k (List.mem_range.2 hk)
  rw [h] at this; exact absurd this (by simp)
/-- a list of at most m valid records with rising ids -/
def upL {α : Type} (m : Nat) (ok : α → Bool) (id : α → Int) (l : List α) : Bool := decide (l.length ≤ m) && upTo ok id l l.length
theorem upAt_bad {α : Type} {ok : α → Bool} {id : α → Int} {l : List α} {k : Nat} {s : α} (hs : l[k]? = some s) (h : ok s = false) : upAt ok id l k = false := by unfold upAt; rw [hs]; simp [h]
theorem upAt_first {α : Type} {ok : α → Bool} {id : α → Int} {l : List α} {s : α} (hs : l[0]? = some s) (h : ok s = true) : upAt ok id l 0 = true := by unfold upAt; rw [hs]; simp [h]
theorem upAt_next {α : Type} {ok : α → Bool} {id : α → Int} {l : List α} {k : Nat} {s r : α} (hs : l[k]? = some s) (hr : l[k-1]? = some r) (hk : 0 < k) (h : ok s = true) : upAt ok id l k = decide (id r < id s) := by
  unfold upAt; rw [hs]; simp only [hr, h, Bool.true_and, decide_eq_false (show ¬ k = 0 by omega), Bool.false_or]
theorem upL_len {α : Type} {m : Nat} {ok : α → Bool} {id : α → Int} {l : List α} (h : upL m ok id l = true) : l.length ≤ m := by unfold upL at h; simp only [Bool.and_eq_true, decide_eq_true_eq] at h; exact h.1
theorem upL_ok {α : Type} {m : Nat} {ok : α → Bool} {id : α → Int} {l : List α} (h : upL m ok id l = true) {k : Nat} {s : α} (hs : l[k]? = some s) : ok s = true := by
  unfold upL at h
  simp only [Bool.and_eq_true, decide_eq_true_eq] at h
  have := List.all_eq_true.1 h.2 k (List.mem_range.2 (List.getElem?_eq_some_iff.1 hs).1)
  unfold upAt at this
  rw [hs] at this
  simp only [Bool.and_eq_true] at this
  exact this.1
theorem upL_mem {α : Type} {m : Nat} {ok : α → Bool} {id : α → Int} {l : List α} (h : upL m ok id l = true) {s : α} (hs : s ∈ l) : ok s = true := by
  obtain ⟨k, hk⟩ := List.getElem?_of_mem hs
  exact upL_ok h hk
/-- a loop that goes through a list of records and stops with 'false' at the first that is bad -/
theorem up_loop {α : Type} {ok : α → Bool} {id : α → Int} {l : List α} {R : Type} {no : R} {f : Nat → Unit → (Unit → Option R) → (Unit → Option R) → Option R} {fin : Unit → Option R}
    (step : ∀ k nx s, l[k]? = some s → (ok s = false → f k () nx fin = some no) ∧ (ok s = true → (k = 0 → f k () nx fin = nx ()) ∧ (0 < k → ∀ r, l[k-1]? = some r → (id r < id s → f k () nx fin = nx ()) ∧ (id s ≤ id r → f k () nx fin = some no)))) :
    cntK f l.length 0 () fin = if upTo ok id l l.length then fin () else some no := by
  have key : ∀ m k, k + m = l.length → upTo ok id l k = true → cntK f m k () fin = if upTo ok id l l.length then fin () else some no := by
    intro m
    induction m with
    | zero => intro k hk hu; obtain rfl : k = l.length := by omega
              rw [hu]; rfl
    | succ m ih =>
      intro k hk hu
      have hlt : k < l.length := by omega
      obtain ⟨s, hs, _⟩ := at_lt hlt
      obtain ⟨h1, h2⟩ := step k (fun s' => cntK f m (k + 1) s' fin) s hs
      show f k () _ fin = _
      cases hok : ok s with
      | false => rw [h1 hok, upTo_not (upAt_bad hs hok) hlt]; rfl
      | true =>
        obtain ⟨h3, h4⟩ := h2 hok
        by_cases hk0 : k = 0
        · rw [h3 hk0]
          subst hk0
          exact ih 1 (by omega) (by rw [upTo_succ, hu, upAt_first hs hok]; rfl)
        · obtain ⟨r, hr, _⟩ := at_lt (l := l) (k := k - 1) (by omega)
          obtain ⟨h5, h6⟩ := h4 (by omega) r hr
          by_cases hlt2 : id r < id s
          · rw [h5 hlt2]
            exact ih (k + 1) (by omega) (by rw [upTo_succ, hu, upAt_next hs hr (by omega) hok]; simpa using hlt2)
          · rw [h6 (by omega), upTo_not (by rw [upAt_next hs hr (by omega) hok]; simpa using hlt2) hlt]; rfl
  exact key l.length 0 (by omega) (upTo_zero ok id l)
end Go.Proofs.YtgimcnpkngpmiaaGreatDoor.QLoop

/- Loops that test each place, and loops without a count. No condition. -/
namespace Go.Proofs.YtgimcnpkngpmiaaGreatDoor.QAll
set_option linter.unusedVariables false
set_option linter.unusedSimpArgs false
open Go.RowKit
open Go.Proofs.YtgimcnpkngpmiaaGreatDoor.GoP Go.Proofs.YtgimcnpkngpmiaaGreatDoor.QBase Go.Proofs.YtgimcnpkngpmiaaGreatDoor.QLoop

/-- each number below n is good -/
def allN (n : Nat) (p : Nat → Bool) : Bool := (List.range n).all p
theorem lp_ex {σ ρ : Type} {f : σ → (σ → Option ρ) → (σ → Option ρ) → Option ρ} {fin : σ → Option ρ} {Q : ρ → Prop} {n : Nat} (I : Nat → σ → Prop)
    (step : ∀ k s nx, k < n → I k s → (∀ s', I (k + 1) s' → ∃ r, nx s' = some r ∧ Q r) → ∃ r, f s nx fin = some r ∧ Q r) (done : ∀ s nx, I n s → ∃ r, f s nx fin = some r ∧ Q r) :
    ∀ fuel k s, k ≤ n → n - k < fuel → I k s → ∃ r, loopK f fuel s fin = some r ∧ Q r := by
  intro fuel
  induction fuel with
  | zero => intro k s hk hf; omega
  | succ m ih =>
    intro k s hk hf hI
    show ∃ r, f s _ fin = some r ∧ Q r
    by_cases he : k = n
    · subst he; exact done s _ hI
    · exact step k s _ (by omega) hI (fun s' h' => ih (k + 1) s' (by omega) (by omega) h')
end Go.Proofs.YtgimcnpkngpmiaaGreatDoor.QAll

/- Rising rows: what a rising row gives; loops that sum; loops from one on. No condition. -/
namespace Go.Proofs.YtgimcnpkngpmiaaGreatDoor.QUp
set_option linter.unusedVariables false
set_option linter.unusedSimpArgs false
open Go.RowKit
open Go.Proofs.YtgimcnpkngpmiaaGreatDoor.GoP Go.Proofs.YtgimcnpkngpmiaaGreatDoor.QBase Go.Proofs.YtgimcnpkngpmiaaGreatDoor.QLoop Go.Proofs.YtgimcnpkngpmiaaGreatDoor.QAll

theorem upTo_at {α : Type} {ok : α → Bool} {id : α → Int} {l : List α} {n : Nat} (h : upTo ok id l n = true) {k : Nat} (hk : k < n) : upAt ok id l k = true := List.all_eq_true.1 h k (List.mem_range.2 hk)
theorem upTo_step {α : Type} {ok : α → Bool} {id : α → Int} {l : List α} {n : Nat} (h : upTo ok id l n = true) {k : Nat} (hk : k + 1 < n) {x y : α} (hx : l[k]? = some x) (hy : l[k + 1]? = some y) : id x < id y := by
  have := upTo_at h hk
  unfold upAt at this
  rw [hy] at this
  simp only [Nat.add_sub_cancel, hx, Bool.and_eq_true, Bool.or_eq_true, decide_eq_true_eq] at this
  rcases this.2 with h0 | h0
  · omega
  · exact h0
theorem upTo_lt {α : Type} {ok : α → Bool} {id : α → Int} {l : List α} {n : Nat} (h : upTo ok id l n = true) (hn : n ≤ l.length) {i : Nat} : ∀ d {x y : α}, i + d + 1 < n → l[i]? = some x → l[i + d + 1]? = some y → id x < id y := by
  intro d
  induction d with
  | zero => intro x y hk hx hy; exact upTo_step h hk hx hy
  | succ d ih =>
    intro x y hk hx hy
    obtain ⟨z, hz, _⟩ := at_lt (l := l) (k := i + d + 1) (by omega)
    have h1 := ih (by omega) hx hz
    have h2 := upTo_step (k := i + d + 1) h (by omega) hz (by rw [← hy]; rfl)
    omega
/-- rising numbers: the later one is greater -/
theorem up_less {α : Type} {ok : α → Bool} {id : α → Int} {l : List α} (h : upTo ok id l l.length = true) {i j : Nat} {x y : α} (hij : i < j) (hx : l[i]? = some x) (hy : l[j]? = some y) : id x < id y := by
  have hj := (List.getElem?_eq_some_iff.1 hy).1
  exact upTo_lt h (Nat.le_refl _) (j - i - 1) (by omega) hx (by rw [← hy]; congr 1; omega)
/-- a loop with fuel, from k on, by an invariant -/
theorem lp_is {σ ρ : Type} {f : σ → (σ → Option ρ) → (σ → Option ρ) → Option ρ} {fin : σ → Option ρ} {n : Nat} (r : ρ) (I : Nat → σ → Prop)
    (step : ∀ k s nx, k < n → I k s → (∀ s', I (k + 1) s' → nx s' = some r) → f s nx fin = some r) (done : ∀ s nx, I n s → f s nx fin = some r) (fuel : Nat) (k : Nat) (s : σ) (hk : k ≤ n) (hf : n - k < fuel) (hI : I k s) : loopK f fuel s fin = some r := by
  obtain ⟨r', h, rfl⟩ := lp_ex (Q := fun x => x = r) I (fun k s nx hk hI hn => ⟨r, step k s nx hk hI (fun s' h' => by obtain ⟨_, h, rfl⟩ := hn s' h'; exact h), rfl⟩) (fun s nx h => ⟨r, done s nx h, rfl⟩) fuel k s hk hf hI
  exact h
theorem most_eq (a b : Int) (h : (if b < a then a else b) = max a b := by omega) : (if b < a then a else b) = max a b := h
end Go.Proofs.YtgimcnpkngpmiaaGreatDoor.QUp

/- Chapter 11: postmarks: the plain functions of the program and of the reference agree, and the laws answer true. (QByte) No condition but those of each theorem. -/
namespace Go.Proofs.YtgimcnpkngpmiaaGreatDoor.QByte
set_option linter.unusedVariables false
set_option linter.unusedSimpArgs false
open Go.RowKit
open Go.Proofs.YtgimcnpkngpmiaaGreatDoor.GoP Go.Proofs.YtgimcnpkngpmiaaGreatDoor.PlainStamp Go.Proofs.YtgimcnpkngpmiaaGreatDoor.QBase Go.Proofs.YtgimcnpkngpmiaaGreatDoor.QLoop

/-- the text of these bytes -/
def bs (l : List UInt8) : ByteArray := ⟨l.toArray⟩
theorem bs_size (l : List UInt8) : (bs l).size = l.length := by unfold bs; show l.toArray.size = _; rw [List.size_toArray]
theorem bs_app (a b : List UInt8) : bs a ++ bs b = bs (a ++ b) := by
  apply ByteArray.ext; simp [bs]
theorem bs_cut (l : List UInt8) (i j : Nat) : (bs l).extract i j = bs ((l.take j).drop i) := by
  apply ByteArray.ext
  simp [bs, List.drop_take]
theorem bs_of (s : ByteArray) : bs s.toList = s := by
  apply ByteArray.ext; rw [Lib.toList_data]; simp [bs]
theorem toList_size (s : ByteArray) : s.toList.length = s.size := by rw [Lib.toList_data]; rfl
def toI (l : List UInt8) : List Int := l.map fun b => (b.toNat : Int)
theorem byte_eq (b c : UInt8) : ((b.toNat : Int) == (c.toNat : Int)) = (b == c) := by
  rw [Bool.eq_iff_iff, beq_iff_eq, beq_iff_eq]
  constructor
  · intro h; exact UInt8.toNat.inj (by omega)
  · intro h; rw [h]
end Go.Proofs.YtgimcnpkngpmiaaGreatDoor.QByte

/- Words: the tests of a word of the program and of the reference as plain functions. (QWord) No condition but those of each theorem. -/
namespace Go.Proofs.YtgimcnpkngpmiaaGreatDoor.QWord
set_option linter.unusedVariables false
set_option linter.unusedSimpArgs false
open Go.RowKit
open Go.Proofs.YtgimcnpkngpmiaaGreatDoor.GoP Go.Proofs.YtgimcnpkngpmiaaGreatDoor.PlainStamp Go.Proofs.YtgimcnpkngpmiaaGreatDoor.QBase Go.Proofs.YtgimcnpkngpmiaaGreatDoor.QLoop

def small (b : UInt8) : Bool := decide (97 ≤ b.toNat ∧ b.toNat ≤ 122)
def wordB (s : ByteArray) : Bool := inB (s.size : Int) 1 10 && s.toList.all small
theorem size_list (s : ByteArray) : s.toList.length = s.size := by rw [Lib.toList_data]; rfl
theorem isLetter_eq (b : UInt8) : GiIsLetter.P (b.toNat : Int) = some (small b) := by
  simp only [GiIsLetter.P, letK, joinK, appK, iteK_if]
  unfold small
  by_cases h1 : 97 ≤ b.toNat
  · by_cases h2 : b.toNat ≤ 122
    · simp [h1, h2, show (97 : Int) ≤ b.toNat by omega, show (b.toNat : Int) ≤ 122 by omega]
    · simp [h1, h2, show (97 : Int) ≤ b.toNat by omega, show ¬ (b.toNat : Int) ≤ 122 by omega]
  · simp [h1, show ¬ (97 : Int) ≤ b.toNat by omega]
theorem isWord_eq (s : ByteArray) : GiIsWord.P s = some (wordB s) := by
  cases hb : inB (s.size : Int) 1 10 with
  | false => simp only [GiIsWord.P, within_eq, hb, Option.bind_some, letK, iteK_if, wordB]; rfl
  | true =>
    have h := inB_of hb
    simp only [GiIsWord.P, within_eq, hb, Option.bind_some, letK, iteK_if]
    rw [if_neg (by simp), guardK_pos (by omega)]
    refine cnt_is _ (fun k _ => (s.toList.take k).all small = true) ?_ ?_ () rfl
    · intro k u nx hk hI hn
      obtain ⟨y, hy, hi⟩ := at_lt (l := s.toList) (k := k) (by rw [size_list]; exact hk)
      simp only [GiIsWord.l0, hi, Option.bind_some, letK, joinK, appK, iteK_if, isLetter_eq]
      cases hs : small y with
      | false =>
        have : wordB s = false := by unfold wordB; rw [not_all hy hs, Bool.and_false]
        simp [this]
      | true => exact hn () (by rw [all_next hy, hI, hs]; rfl)
    · intro u hI
      rw [List.take_of_length_le (by rw [size_list]; exact Nat.le_refl _)] at hI
      simp [GiIsWord.e0, wordB, hb, hI]
theorem l2Word_eq (s : ByteArray) (hz : s.size ≤ 9223372036854775807) : GsL2Word.P s = some (wordB s) := by
  simp only [GsL2Word.P]
  rw [guardK_pos hz]
  refine cnt_is _ (fun k _ => (s.toList.take k).all small = true) ?_ ?_ () rfl
  · intro k u nx hk hI hn
    obtain ⟨y, hy, hi⟩ := at_lt (l := s.toList) (k := k) (by rw [size_list]; exact hk)
    simp only [GsL2Word.l0, hi, Option.bind_some, letK, joinK, appK, iteK_if]
    by_cases h1 : (y.toNat : Int) < 97
    · have : wordB s = false := by unfold wordB; rw [not_all hy (by unfold small; simp; omega), Bool.and_false]
      simp [h1, this]
    · by_cases h2 : (122 : Int) < (y.toNat : Int)
      · have : wordB s = false := by unfold wordB; rw [not_all hy (by unfold small; simp; omega), Bool.and_false]
        simp [h1, h2, this]
      · simp [h1, h2]
        exact hn () (by rw [all_next hy, hI]; unfold small; simp; omega)
  · intro u hI
    rw [List.take_of_length_le (by rw [size_list]; exact Nat.le_refl _)] at hI
    simp [GsL2Word.e0, wordB, l1In_eq, hI]
theorem word_len {s : ByteArray} (h : wordB s = true) : 1 ≤ s.size ∧ s.size ≤ 10 := by
  unfold wordB at h
  simp only [Bool.and_eq_true] at h
  have := inB_of h.1; omega
end Go.Proofs.YtgimcnpkngpmiaaGreatDoor.QWord

/- Chapter 11: postmarks: the plain functions of the program and of the reference agree, and the laws answer true. (Q11Mark) No condition but those of each theorem. -/
namespace Go.Proofs.YtgimcnpkngpmiaaGreatDoor.Q11Mark
set_option linter.unusedVariables false
set_option linter.unusedSimpArgs false
open Go.RowKit
open Go.Proofs.YtgimcnpkngpmiaaGreatDoor.GoP Go.Proofs.YtgimcnpkngpmiaaGreatDoor.PlainStamp Go.Proofs.YtgimcnpkngpmiaaGreatDoor.QBase Go.Proofs.YtgimcnpkngpmiaaGreatDoor.QUp Go.Proofs.YtgimcnpkngpmiaaGreatDoor.QByte Go.Proofs.YtgimcnpkngpmiaaGreatDoor.QWord Go.Proofs.YtgimcnpkngpmiaaGreatDoor.QLoop Go.Proofs.YtgimcnpkngpmiaaGreatDoor.PPostmark

def isSign (b : UInt8) : Bool := b == 46 || b == 120
def lossB (lost town : ByteArray) : Bool := decide (lost.size = town.size) && (lost.toList.all isSign && lost.toList.any fun b => b == 46)
theorem count_split (l : List UInt8) : Lib.countByte l 46 + Lib.countByte l 120 ≤ l.length ∧ (Lib.countByte l 46 + Lib.countByte l 120 = l.length ↔ l.all isSign = true) ∧ (0 < Lib.countByte l 46 ↔ l.any (fun b => b == 46) = true) := by
  induction l with
  | nil => simp [Lib.countByte]
  | cons b l ih =>
    obtain ⟨h1, h2, h3⟩ := ih
    have e : ∀ x : UInt8, Lib.countByte (b :: l) x = Lib.countByte l x + (if b = x then 1 else 0) := by
      intro x
      simp only [Lib.countByte, List.count_cons]
      by_cases hb : b = x <;> simp [hb]
    rw [e, e, List.length_cons, List.all_cons, List.any_cons]
    by_cases ha : b = 46
    · subst ha
      rw [if_pos rfl, if_neg (by decide)]
      refine ⟨by omega, ?_, by simp⟩
      rw [show isSign 46 = true from rfl, Bool.true_and, ← h2]
      omega
    · rw [if_neg ha, show (b == 46) = false by simpa using ha, Bool.false_or, ← h3]
      by_cases hb : b = 120
      · subst hb
        rw [if_pos rfl]
        refine ⟨by omega, ?_, by simp⟩
        rw [show isSign 120 = true from rfl, Bool.true_and, ← h2]
        omega
      · rw [if_neg hb]
        refine ⟨by omega, ?_, by simp⟩
        have : isSign b = false := by simp [isSign, ha, hb]
        rw [this]; simp; omega
theorem isLoss_eq (lost town : ByteArray) (h1 : lost.size ≤ 9223372036854775807) : GiIsLoss.P lost town = some (lossB lost town) := by
  obtain ⟨c1, c2, c3⟩ := count_split lost.toList
  have hsz := size_list lost
  have e1 : GxStringsCount.P lost ⟨#[46]⟩ = some (Lib.countByte lost.toList 46 : Int) := by rw [Lib.toList_data]; rfl
  have e2 : GxStringsCount.P lost ⟨#[120]⟩ = some (Lib.countByte lost.toList 120 : Int) := by rw [Lib.toList_data]; rfl
  have hw := wrap_in (x := (Lib.countByte lost.toList 46 : Int) + (Lib.countByte lost.toList 120 : Int)) (by omega) (by omega)
  simp only [GiIsLoss.P, e1, e2, hw, Option.bind_some, letK, joinK, appK, iteK_if, lossB]
  rw [hsz] at c2
  by_cases h3 : lost.size = town.size
  · rw [if_pos (by simp; omega)]
    by_cases h4 : 0 < Lib.countByte lost.toList 46
    · rw [decide_eq_true (show (0 : Int) < (Lib.countByte lost.toList 46 : Int) by omega), if_pos rfl, c3.1 h4, Bool.and_true, decide_eq_true h3, Bool.true_and]
      congr 1
      rw [Bool.eq_iff_iff, ← c2, beq_iff_eq]; omega
    · have : (lost.toList.any fun b => b == 46) = false := by rw [Bool.eq_false_iff]; exact fun h => h4 (c3.2 h)
      rw [decide_eq_false (show ¬ (0 : Int) < (Lib.countByte lost.toList 46 : Int) by omega), if_neg (by simp), this, Bool.and_false, Bool.and_false]
  · rw [if_neg (by simp; omega), decide_eq_false h3, Bool.false_and]; simp
theorem isDay_eq (n : Int) : GiIsDay.P n = some (inB n 0 4000) := by simp only [GiIsDay.P, within_eq, Option.bind_some]
theorem l2Day_eq (n : Int) : GsL2Day.P n = some (inB n 0 4000) := by simp only [GsL2Day.P, l1In_eq, Option.bind_some]
def okPm (p : Postmark) : Bool := inB p.id 1 999 && wordB p.town && inB p.kind_ 1 5 && inB p.first 0 4000 && inB p.last 0 4000 && decide (p.first ≤ p.last) && lossB p.lost p.town
theorem fits_sz {p : Postmark} (h : p.fits) : p.town.size ≤ 9223372036854775807 ∧ p.lost.size ≤ 9223372036854775807 := by
  obtain ⟨a, b, c, d, e, g⟩ := p
  obtain ⟨_, h1, _, _, _, h2⟩ := h
  unfold maxLen at h1 h2
  exact ⟨h1, h2⟩
theorem isPostmark_eq (p : Postmark) (h : p.lost.size ≤ 9223372036854775807) : GiIsPostmark.P p = some (okPm p) := by
  obtain ⟨a, b, c, d, e, g⟩ := p
  simp only [GiIsPostmark.P, unPostmark, isWord_eq, isDay_eq, isLoss_eq g b h, within_eq, Option.bind_some, letK, joinK, appK, iteK_if, okPm]
  cases inB a 1 999 <;> cases wordB b <;> cases inB c 1 5 <;> cases inB d 0 4000 <;> cases inB e 0 4000 <;> cases decide (d ≤ e) <;> simp
theorem l11One_eq (p : Postmark) (h : p.fits) (fuel : Nat) (hfu : 100 ≤ fuel) : GsL11One.P fuel p = some (okPm p) := by
  obtain ⟨hz, hzl⟩ := fits_sz h
  obtain ⟨a, b, c, d, e, g⟩ := p
  have hx : (inB e 0 4000 && inB d 0 e) = (inB d 0 4000 && inB e 0 4000 && decide (d ≤ e)) := by unfold inB; rw [Bool.eq_iff_iff]; simp; omega
  have hy : okPm ⟨a, b, c, d, e, g⟩ = (inB a 1 999 && wordB b && inB c 1 5 && (inB e 0 4000 && inB d 0 e) && lossB g b) := by rw [hx]; simp [okPm, Bool.and_assoc]
  rw [hy]
  simp only [GsL11One.P, unPostmark, l2Word_eq b hz, l2Day_eq, l1In_eq, Option.bind_some, letK, joinK, appK, iteK_if]
  cases inB a 1 999 with
  | false => simp
  | true =>
    cases hw : wordB b with
    | false => simp
    | true =>
      cases inB c 1 5 with
      | false => simp
      | true =>
        cases inB e 0 4000 with
        | false => simp
        | true =>
          cases inB d 0 e with
          | false => simp
          | true =>
            have hwl := word_len hw
            by_cases h3 : g.size = b.size
            · have hne : ((g.size : Int) != (b.size : Int)) = false := by simp; omega
              simp only [hne, Bool.not_true, Bool.false_eq_true, if_false, Bool.and_true, Bool.true_and, lossB, decide_eq_true h3]
              refine lp_is (n := g.size) _ (fun k (s : Bool × Int) => s = ((g.toList.take k).any (fun b => b == 46), (k : Int)) ∧ (g.toList.take k).all isSign = true) ?_ ?_ fuel 0 _ (by omega) (by omega) ⟨rfl, rfl⟩
              · rintro k s nx hk ⟨rfl, hall⟩ hn
                obtain ⟨y, hy, hi⟩ := at_lt (l := g.toList) (k := k) (by rw [size_list]; exact hk)
                have hw1 := wrap_in (x := (k : Int) + 1) (by omega) (by omega)
                have hany : (g.toList.take (k + 1)).any (fun b => b == 46) = ((g.toList.take k).any (fun b => b == 46) || (y == 46)) := by rw [take_next hy, List.any_append]; simp
                have e46 : ((y.toNat : Int) == 46) = (y == 46) := byte_eq y 46
                have n46 : ((y.toNat : Int) != 46) = !(y == 46) := by rw [← e46]; rfl
                have n120 : ((y.toNat : Int) != 120) = !(y == 120) := by rw [← byte_eq y 120]; rfl
                simp only [GsL11One.l0, unp2, letK, joinK, appK, iteK_if, hi, hw1, Option.bind_some, e46, n46, n120]
                rw [if_pos (by simp; omega)]
                cases hs : isSign y with
                | false =>
                  have h46 : (y == 46) = false := by unfold isSign at hs; simp only [Bool.or_eq_false_iff] at hs; exact hs.1
                  have h120 : (y == 120) = false := by unfold isSign at hs; simp only [Bool.or_eq_false_iff] at hs; exact hs.2
                  rw [not_all hy hs]
                  simp [h46, h120]
                | true =>
                  have hnn := hn ((g.toList.take (k + 1)).any (fun b => b == 46), ((k + 1 : Nat) : Int)) ⟨rfl, by rw [all_next hy, hall, hs]; rfl⟩
                  rw [hany, show ((k + 1 : Nat) : Int) = (k : Int) + 1 by omega] at hnn
                  have hsg : (!(y == 46) && !(y == 120)) = false := by unfold isSign at hs; cases h46 : (y == 46) <;> simp_all
                  cases h46 : (y == 46) with
                  | true =>
                    rw [h46] at hnn
                    cases hh : (g.toList.take k).any (fun b => b == 46) <;> simp_all
                  | false =>
                    rw [h46] at hnn
                    have h120 : (y == 120) = true := by rw [h46] at hsg; simpa using hsg
                    cases hh : (g.toList.take k).any (fun b => b == 46) <;> simp_all
              · rintro s nx ⟨rfl, hall⟩
                have hfull : g.toList.take g.size = g.toList := List.take_of_length_le (by rw [size_list]; exact Nat.le_refl _)
                rw [hfull] at hall
                simp only [GsL11One.l0, unp2, letK, iteK_if, appK, GsL11One.e0]
                rw [if_neg (by simp), hfull, hall]; simp
            · have hne : ((g.size : Int) != (b.size : Int)) = true := by simp; omega
              simp [hne, lossB, h3]
theorem okPm_of {p : Postmark} (h : okPm p = true) : (1 ≤ p.id ∧ p.id ≤ 999) ∧ wordB p.town = true ∧ (1 ≤ p.kind_ ∧ p.kind_ ≤ 5) ∧ (0 ≤ p.first ∧ p.first ≤ 4000) ∧ (0 ≤ p.last ∧ p.last ≤ 4000) ∧ p.first ≤ p.last ∧ lossB p.lost p.town = true := by
  unfold okPm at h
  simp only [Bool.and_eq_true, decide_eq_true_eq] at h
  obtain ⟨⟨⟨⟨⟨⟨h1, h2⟩, h3⟩, h4⟩, h5⟩, h6⟩, h7⟩ := h
  exact ⟨inB_of h1, h2, inB_of h3, inB_of h4, inB_of h5, h6, h7⟩
theorem okPm_size {p : Postmark} (h : okPm p = true) : p.lost.size = p.town.size ∧ 1 ≤ p.town.size ∧ p.town.size ≤ 10 := by
  obtain ⟨_, h2, _, _, _, _, h7⟩ := okPm_of h
  have := word_len h2
  unfold lossB at h7
  simp only [Bool.and_eq_true, decide_eq_true_eq] at h7
  exact ⟨h7.1, this⟩
end Go.Proofs.YtgimcnpkngpmiaaGreatDoor.Q11Mark

/- Chapter 11: postmarks: the plain functions of the program and of the reference agree, and the laws answer true. (Q11List) No condition but those of each theorem. -/
namespace Go.Proofs.YtgimcnpkngpmiaaGreatDoor.Q11List
set_option linter.unusedVariables false
set_option linter.unusedSimpArgs false
open Go.RowKit
open Go.Proofs.YtgimcnpkngpmiaaGreatDoor.GoP Go.Proofs.YtgimcnpkngpmiaaGreatDoor.PlainStamp Go.Proofs.YtgimcnpkngpmiaaGreatDoor.QBase Go.Proofs.YtgimcnpkngpmiaaGreatDoor.Q11Mark Go.Proofs.YtgimcnpkngpmiaaGreatDoor.QUp Go.Proofs.YtgimcnpkngpmiaaGreatDoor.QLoop Go.Proofs.YtgimcnpkngpmiaaGreatDoor.PPostmark

def okPms (l : List Postmark) : Bool := upL 12 okPm Postmark.id l
theorem arePostmarks_eq (l : List Postmark) (hf : ∀ s ∈ l, s.fits) : GiArePostmarks.P l = some (okPms l) := by
  simp only [GiArePostmarks.P, GiAreByKeyPostmarkIntiIsPostmarkiIdOfPostmark.P, letK, iteK_if]
  by_cases hl : l.length ≤ 12
  · rw [if_neg (by simp; omega), up_loop (ok := okPm) (id := Postmark.id) (no := false)]
    · unfold okPms upL; cases upTo okPm Postmark.id l l.length <;> simp [hl, GiAreByKeyPostmarkIntiIsPostmarkiIdOfPostmark.e0]
    · intro k nx s hs
      have hi : idx l (k : Int) = some s := by rw [idx_nat, hs]
      have hk : k < l.length := (List.getElem?_eq_some_iff.1 hs).1
      have hm := isPostmark_eq s (fits_sz (hf s (List.mem_of_getElem? hs))).2
      simp only [GiAreByKeyPostmarkIntiIsPostmarkiIdOfPostmark.l0, hi, Option.bind_some, unPostmark, GiIdOfPostmark.P, letK, joinK, appK, iteK_if]
      rw [hm]
      refine ⟨fun h => by simp [h], fun h => ⟨fun h0 => by subst h0; simp [h], fun h0 r hr => ?_⟩⟩
      rw [idx_pred h0 (by omega) hr]
      have hk0 : (0 : Int) < (k : Int) := by omega
      have hk1 : ¬ k = 0 := by omega
      exact ⟨fun hlt => by (have hc : ¬ s.id ≤ r.id := by omega); simp [h, hk0, hk1, hc], fun hge => by simp [h, hk0, hk1, hge]⟩
  · rw [if_pos (by simp; omega)]; unfold okPms upL; simp [hl]
theorem l11Good_eq (fuel : Nat) (hfu : 100 ≤ fuel) (l : List Postmark) (hf : ∀ s ∈ l, s.fits) (hl : l.length ≤ 9223372036854775807) : GsL11Good.P fuel l = some (okPms l) := by
  simp only [GsL11Good.P]
  rw [up_loop (ok := okPm) (id := Postmark.id) (no := false)]
  · unfold okPms upL; cases upTo okPm Postmark.id l l.length <;> simp [GsL11Good.e0, letK]; omega
  · intro k nx s hs
    have hi : idx l (k : Int) = some s := by rw [idx_nat, hs]
    have hk : k < l.length := (List.getElem?_eq_some_iff.1 hs).1
    have hm := l11One_eq s (hf s (List.mem_of_getElem? hs)) fuel hfu
    simp only [GsL11Good.l0, hi, Option.bind_some, unPostmark, letK, joinK, appK, iteK_if]
    rw [hm]
    refine ⟨fun h => by simp [h], fun h => ⟨fun h0 => by subst h0; simp [h], fun h0 r hr => ?_⟩⟩
    rw [idx_pred h0 (by omega) hr]
    have hk0 : (0 : Int) < (k : Int) := by omega
    have hk1 : ¬ k = 0 := by omega
    exact ⟨fun hlt => by (have hc : ¬ s.id ≤ r.id := by omega); simp [h, hk0, hk1, hc], fun hge => by simp [h, hk0, hk1, hge]⟩
theorem pms_mem {l : List Postmark} (h : okPms l = true) {x : Postmark} (hx : x ∈ l) : okPm x = true := upL_mem h hx
end Go.Proofs.YtgimcnpkngpmiaaGreatDoor.Q11List

/- Chapter 11: postmarks: the plain functions of the program and of the reference agree, and the laws answer true. (Q11Set) No condition but those of each theorem. -/
namespace Go.Proofs.YtgimcnpkngpmiaaGreatDoor.Q11Set
set_option linter.unusedVariables false
set_option linter.unusedSimpArgs false
open Go.RowKit
open Go.Proofs.YtgimcnpkngpmiaaGreatDoor.GoP Go.Proofs.YtgimcnpkngpmiaaGreatDoor.PlainStamp Go.Proofs.YtgimcnpkngpmiaaGreatDoor.QBase Go.Proofs.YtgimcnpkngpmiaaGreatDoor.Q11List Go.Proofs.YtgimcnpkngpmiaaGreatDoor.Q11Mark Go.Proofs.YtgimcnpkngpmiaaGreatDoor.QUp Go.Proofs.YtgimcnpkngpmiaaGreatDoor.QLoop Go.Proofs.YtgimcnpkngpmiaaGreatDoor.PPostmark

theorem upL_set {l : List Postmark} (hc : okPms l = true) {i : Nat} {x y : Postmark} (hx : l[i]? = some x) (hid : y.id = x.id) : okPms (l.set i y) = okPm y := by
  have hil := (List.getElem?_eq_some_iff.1 hx).1
  have hto : upTo okPm Postmark.id l l.length = true := by unfold okPms upL at hc; simp only [Bool.and_eq_true] at hc; exact hc.2
  have hlen : l.length ≤ 12 := upL_len hc
  have hys : (l.set i y)[i]? = some y := List.getElem?_set_self hil
  cases hy : okPm y with
  | false =>
    rw [Bool.eq_false_iff]
    intro h
    have := pms_mem h (List.mem_of_getElem? hys)
    rw [hy] at this; exact absurd this (by simp)
  | true =>
    have hid2 : ∀ (k : Nat) (z : Postmark), (l.set i y)[k]? = some z → ∃ u : Postmark, l[k]? = some u ∧ u.id = z.id ∧ (okPm u = true → okPm z = true) := by
      intro k z hz
      by_cases h : i = k
      · subst h
        rw [hys] at hz; obtain rfl := Option.some.inj hz
        exact ⟨x, hx, hid.symm, fun _ => hy⟩
      · rw [List.getElem?_set_ne h] at hz
        exact ⟨z, hz, rfl, id⟩
    unfold okPms upL
    rw [List.length_set, decide_eq_true hlen, Bool.true_and]
    unfold upTo
    rw [List.all_eq_true]
    intro k hk
    rw [List.mem_range] at hk
    have hak := upTo_at hto hk
    unfold upAt
    cases hz : (l.set i y)[k]? with
    | none => rfl
    | some z =>
      obtain ⟨u, hu, hiu, hou⟩ := hid2 k z hz
      have hok := pms_mem hc (List.mem_of_getElem? hu)
      simp only [hou hok, Bool.true_and]
      by_cases h0 : k = 0
      · simp [h0]
      · rw [decide_eq_false h0, Bool.false_or]
        cases hr : (l.set i y)[k - 1]? with
        | none => simp
        | some r =>
          obtain ⟨v, hv, hiv, _⟩ := hid2 (k - 1) r hr
          have := up_less hto (i := k - 1) (j := k) (by omega) hv hu
          simp only [decide_eq_true_eq]
          omega
end Go.Proofs.YtgimcnpkngpmiaaGreatDoor.Q11Set

/- Chapter 11: postmarks: the plain functions of the program and of the reference agree, and the laws answer true. (Q11Sweep) No condition but those of each theorem. -/
namespace Go.Proofs.YtgimcnpkngpmiaaGreatDoor.Q11Sweep
set_option linter.unusedVariables false
set_option linter.unusedSimpArgs false
open Go.RowKit
open Go.Proofs.YtgimcnpkngpmiaaGreatDoor.GoP Go.Proofs.YtgimcnpkngpmiaaGreatDoor.PlainStamp Go.Proofs.YtgimcnpkngpmiaaGreatDoor.QBase Go.Proofs.YtgimcnpkngpmiaaGreatDoor.QLoop

def cntN (f : Nat → Bool) (n : Nat) : Nat := ((List.range n).filter f).length
theorem cntN_zero (f : Nat → Bool) : cntN f 0 = 0 := rfl
theorem cntN_succ (f : Nat → Bool) (n : Nat) : cntN f (n + 1) = cntN f n + (if f n = true then 1 else 0) := by
  unfold cntN
  rw [List.range_succ, List.filter_append, List.length_append]
  cases h : f n <;> simp [List.filter, h]
theorem cntN_congr {f g : Nat → Bool} {n : Nat} (h : ∀ i, i < n → f i = g i) : cntN f n = cntN g n := by
  induction n with
  | zero => rfl
  | succ n ih => rw [cntN_succ, cntN_succ, ih (fun i hi => h i (by omega)), h n (by omega)]
theorem cntN_le (f : Nat → Bool) (n : Nat) : cntN f n ≤ n := by
  unfold cntN
  have := List.length_filter_le f (List.range n)
  simpa using this
theorem cntN_ext {f : Nat → Bool} {n q : Nat} : ∀ m, (∀ i, n ≤ i → i < n + m → f i = decide (i < q)) → cntN f (n + m) = cntN f n + (min (max q n) (n + m) - n) := by
  intro m
  induction m with
  | zero => intro _; simp; omega
  | succ m ih =>
    intro h
    rw [← Nat.add_assoc, cntN_succ, ih (fun i h1 h2 => h i h1 (by omega)), h (n + m) (by omega) (by omega)]
    by_cases hq : n + m < q
    · simp only [hq, decide_true, if_true]; omega
    · simp only [hq, decide_false, Bool.false_eq_true, if_false]; omega
/-- days (from, until) of the uses; the sweep over them in the order of their first days -/
def covB (l : List (Nat × Nat)) (d : Nat) : Bool := l.any fun p => decide (p.1 ≤ d) && decide (d ≤ p.2)
def sweep (g R : Nat) : List (Nat × Nat) → Nat × Nat
  | [] => (g, R)
  | p :: r => sweep (g + (p.1 - R - 1)) (max R p.2) r
theorem sweep_is (f0 : Nat) : ∀ (r pre : List (Nat × Nat)) (g R : Nat), (∀ p ∈ pre, f0 ≤ p.1 ∧ p.1 ≤ p.2 ∧ p.2 ≤ R) → (∃ p ∈ pre, p.2 = R) → (∀ p ∈ pre, ∀ q ∈ r, p.1 ≤ q.1) → List.Pairwise (fun p q => p.1 ≤ q.1) r → (∀ p ∈ r, p.1 ≤ p.2) →
    g = cntN (fun i => !covB pre (f0 + i)) (R + 1 - f0) →
    (sweep g R r).1 = cntN (fun i => !covB (pre ++ r) (f0 + i)) ((sweep g R r).2 + 1 - f0) ∧ (∀ p ∈ pre ++ r, p.2 ≤ (sweep g R r).2) ∧ (∃ p ∈ pre ++ r, p.2 = (sweep g R r).2) := by
  intro r
  induction r with
  | nil =>
    intro pre g R h1 h2 _ _ _ hg
    simp only [sweep, List.append_nil]
    exact ⟨hg, fun p hp => (h1 p hp).2.2, h2⟩
  | cons q r ih =>
    intro pre g R h1 h2 h3 h4 h5 hg
    have hq := h5 q List.mem_cons_self
    obtain ⟨m, hm, hmR⟩ := h2
    have hm1 := h1 m hm
    have hmq := h3 m hm q List.mem_cons_self
    have e : pre ++ q :: r = (pre ++ [q]) ++ r := by simp
    rw [e]
    simp only [sweep]
    have hcov : ∀ d, covB (pre ++ [q]) d = (covB pre d || (decide (q.1 ≤ d) && decide (d ≤ q.2))) := by intro d; simp [covB]
    refine ih (pre ++ [q]) _ _ ?_ ?_ ?_ (List.pairwise_cons.1 h4).2 (fun p hp => h5 p (List.mem_cons_of_mem _ hp)) ?_
    · intro p hp
      rcases List.mem_append.1 hp with hp | hp
      · have := h1 p hp; omega
      · rw [List.mem_singleton] at hp; subst hp; omega
    · by_cases hR : q.2 ≤ R
      · exact ⟨m, List.mem_append_left _ hm, by omega⟩
      · exact ⟨q, List.mem_append_right _ (List.mem_singleton.2 rfl), by omega⟩
    · intro p hp s hs
      rcases List.mem_append.1 hp with hp | hp
      · exact h3 p hp s (List.mem_cons_of_mem _ hs)
      · rw [List.mem_singleton] at hp; subst hp; exact (List.pairwise_cons.1 h4).1 s hs
    · have hlow : ∀ i, i < R + 1 - f0 → (!covB (pre ++ [q]) (f0 + i)) = (!covB pre (f0 + i)) := by
        intro i hi
        rw [hcov]
        by_cases hc : q.1 ≤ f0 + i ∧ f0 + i ≤ q.2
        · have : covB pre (f0 + i) = true := by
            unfold covB
            rw [List.any_eq_true]
            exact ⟨m, hm, by simp; omega⟩
          simp [this]
        · have : (decide (q.1 ≤ f0 + i) && decide (f0 + i ≤ q.2)) = false := by simp; omega
          rw [this, Bool.or_false]
      have hhi : ∀ i, R + 1 - f0 ≤ i → i < R + 1 - f0 + (max R q.2 - R) → (!covB (pre ++ [q]) (f0 + i)) = decide (i < q.1 - f0) := by
        intro i h6 h7
        have hno : covB pre (f0 + i) = false := by
          unfold covB
          rw [List.any_eq_false]
          intro p hp
          have := h1 p hp
          simp; omega
        rw [hcov, hno, Bool.false_or, Bool.eq_iff_iff]
        simp; omega
      have hsum := cntN_ext (f := fun i => !covB (pre ++ [q]) (f0 + i)) (n := R + 1 - f0) (q := q.1 - f0) (max R q.2 - R) hhi
      rw [show R + 1 - f0 + (max R q.2 - R) = max R q.2 + 1 - f0 by omega] at hsum
      rw [hsum, cntN_congr hlow, ← hg]
      omega
theorem cntN_none {f : Nat → Bool} {n : Nat} (h : ∀ i, i < n → f i = false) : cntN f n = 0 := by
  induction n with
  | zero => rfl
  | succ n ih => rw [cntN_succ, ih (fun i hi => h i (by omega)), h n (by omega)]; rfl
theorem covB_perm {l m : List (Nat × Nat)} (h : l.Perm m) (d : Nat) : covB l d = covB m d := by
  unfold covB
  rw [Bool.eq_iff_iff, List.any_eq_true, List.any_eq_true]
  constructor
  · rintro ⟨x, hx, hp⟩; exact ⟨x, h.mem_iff.1 hx, hp⟩
  · rintro ⟨x, hx, hp⟩; exact ⟨x, h.mem_iff.2 hx, hp⟩
end Go.Proofs.YtgimcnpkngpmiaaGreatDoor.Q11Sweep

/- Chapter 11: postmarks: the plain functions of the program and of the reference agree, and the laws answer true. (Q11Used) No condition but those of each theorem. -/
namespace Go.Proofs.YtgimcnpkngpmiaaGreatDoor.Q11Used
set_option linter.unusedVariables false
set_option linter.unusedSimpArgs false
open Go.RowKit
open Go.Proofs.YtgimcnpkngpmiaaGreatDoor.GoP Go.Proofs.YtgimcnpkngpmiaaGreatDoor.PlainStamp Go.Proofs.YtgimcnpkngpmiaaGreatDoor.QBase Go.Proofs.YtgimcnpkngpmiaaGreatDoor.Q11Mark Go.Proofs.YtgimcnpkngpmiaaGreatDoor.QLoop Go.Proofs.YtgimcnpkngpmiaaGreatDoor.PPostmark

def usedB (day : Int) (x : Postmark) : Bool := inB day x.first x.last
theorem used_impl (x : Postmark) (day : Int) : GiWasUsedOn.P x day = some (usedB day x) := by
  obtain ⟨a, b, c, d, e, g⟩ := x
  simp only [GiWasUsedOn.P, unPostmark, within_eq, Option.bind_some, usedB]
theorem used_spec (x : Postmark) (day : Int) : GsL11Used.P (Postmark.mk x.id x.town x.kind_ x.first x.last x.lost) day = some (usedB day x) := by
  simp only [GsL11Used.P, unPostmark, l1In_eq, Option.bind_some, usedB]
end Go.Proofs.YtgimcnpkngpmiaaGreatDoor.Q11Used

/- Chapter 9: mails and routes: the plain functions of the program and of the reference agree, and the laws answer true. (QFoldS) No condition but those of each theorem. -/
namespace Go.Proofs.YtgimcnpkngpmiaaGreatDoor.QFoldS
set_option linter.unusedVariables false
set_option linter.unusedSimpArgs false
open Go.RowKit
open Go.Proofs.YtgimcnpkngpmiaaGreatDoor.GoP Go.Proofs.YtgimcnpkngpmiaaGreatDoor.PlainStamp Go.Proofs.YtgimcnpkngpmiaaGreatDoor.QBase Go.Proofs.YtgimcnpkngpmiaaGreatDoor.QLoop

/-- a counted loop that carries a state through a list -/
theorem fold_cnt {α σ ρ : Type} {l : List α} {g : σ → α → σ} {J : σ → Prop} {f : Nat → σ → (σ → Option ρ) → (σ → Option ρ) → Option ρ} {fin : σ → Option ρ}
    (step : ∀ k x s nx, l[k]? = some x → J s → f k s nx fin = nx (g s x) ∧ J (g s x)) {s : σ} (hs : J s) : cntK f l.length 0 s fin = fin (l.foldl g s) := by
  have key : ∀ m k s, k + m = l.length → J s → cntK f m k s fin = fin ((l.drop k).foldl g s) := by
    intro m
    induction m with
    | zero => intro k s hk _; rw [List.drop_eq_nil_of_le (by omega)]; rfl
    | succ m ih =>
      intro k s hk hJ
      have hlt : k < l.length := by omega
      have hx : l[k]? = some l[k] := List.getElem?_eq_getElem hlt
      obtain ⟨h1, h2⟩ := step k l[k] s (fun s' => cntK f m (k + 1) s' fin) hx hJ
      show f k s _ fin = _
      rw [h1, ih (k + 1) _ (by omega) h2, List.drop_eq_getElem_cons hlt, List.foldl_cons]
  exact key l.length 0 s (by omega) hs
end Go.Proofs.YtgimcnpkngpmiaaGreatDoor.QFoldS

/- Lists of valid records in strictly rising order of any kind; texts in the order of their bytes. (QOrd) No condition but those of each theorem. -/
namespace Go.Proofs.YtgimcnpkngpmiaaGreatDoor.QOrd
set_option linter.unusedVariables false
set_option linter.unusedSimpArgs false
open Go.RowKit
open Go.Proofs.YtgimcnpkngpmiaaGreatDoor.GoP Go.Proofs.YtgimcnpkngpmiaaGreatDoor.PlainStamp Go.Proofs.YtgimcnpkngpmiaaGreatDoor.QBase Go.Proofs.YtgimcnpkngpmiaaGreatDoor.QLoop

/-- texts in the order of their bytes -/
def bl (a b : ByteArray) : Bool := Op.bytesLess a.toList b.toList
theorem bl_self' : ∀ x, Op.bytesLess x x = false
  | [] => rfl
  | a :: x => by
    have h1 : ¬ a < a := fun k => by rw [UInt8.lt_iff_toNat_lt] at k; omega
    simp [Op.bytesLess, h1, bl_self' x]
theorem bl_total' : ∀ x y, x ≠ y → Op.bytesLess x y = !(Op.bytesLess y x)
  | [], [], h => absurd rfl h
  | [], b :: y, _ => by simp [Op.bytesLess]
  | a :: x, [], _ => by simp [Op.bytesLess]
  | a :: x, b :: y, h => by
    by_cases hab : a = b
    · subst hab
      have h1 : ¬ a < a := fun k => by rw [UInt8.lt_iff_toNat_lt] at k; omega
      have := bl_total' x y (fun e => h (by rw [e]))
      simp [Op.bytesLess, h1, this]
    · have hne : a.toNat ≠ b.toNat := fun e => hab (UInt8.toNat_inj.1 e)
      by_cases hlt : a < b
      · have h2 : ¬ b < a := fun k => by rw [UInt8.lt_iff_toNat_lt] at k hlt; omega
        simp [Op.bytesLess, hlt, h2, Ne.symm hab]
      · have h2 : b < a := by rw [UInt8.lt_iff_toNat_lt] at hlt ⊢; omega
        simp [Op.bytesLess, hlt, h2, hab]
theorem bl_trans' : ∀ x y z, Op.bytesLess x y = true → Op.bytesLess y z = true → Op.bytesLess x z = true
  | [], _, [], h1, h2 => by rename_i y; cases y <;> simp [Op.bytesLess] at h1 h2
  | [], _, c :: z, _, _ => by simp [Op.bytesLess]
  | a :: x, [], _, h1, _ => by simp [Op.bytesLess] at h1
  | a :: x, b :: y, [], _, h2 => by simp [Op.bytesLess] at h2
  | a :: x, b :: y, c :: z, h1, h2 => by
    simp only [Op.bytesLess, Bool.or_eq_true, decide_eq_true_eq, Bool.and_eq_true, beq_iff_eq] at h1 h2 ⊢
    rcases h1 with h1 | ⟨rfl, h1⟩
    · rcases h2 with h2 | ⟨rfl, h2⟩
      · left; rw [UInt8.lt_iff_toNat_lt] at h1 h2 ⊢; omega
      · left; exact h1
    · rcases h2 with h2 | ⟨rfl, h2⟩
      · left; exact h2
      · right; exact ⟨rfl, bl_trans' x y z h1 h2⟩
theorem list_inj {a b : ByteArray} (h : a.toList = b.toList) : a = b := by
  rw [Lib.toList_data, Lib.toList_data] at h
  cases a; cases b; congr 1; exact Array.toList_inj.1 h
theorem bl_self (a : ByteArray) : bl a a = false := bl_self' _
theorem bl_total {a b : ByteArray} (h : a ≠ b) : bl a b = !(bl b a) := bl_total' _ _ (fun e => h (list_inj e))
theorem bl_trans {a b c : ByteArray} (h1 : bl a b = true) (h2 : bl b c = true) : bl a c = true := bl_trans' _ _ _ h1 h2
theorem bl_asymm {a b : ByteArray} (h : bl a b = true) : bl b a = false := by
  by_cases e : a = b
  · rw [e]; exact bl_self b
  · rw [bl_total e] at h; simpa using h
theorem bl_lt (a b : ByteArray) : Op.bytesLess a.toList b.toList = bl a b := rfl
theorem eq_list (a b : ByteArray) : (a.toList == b.toList) = decide (a = b) := by
  by_cases e : a = b
  · subst e; simp
  · rw [decide_eq_false e, beq_eq_false_iff_ne]; exact fun h => e (list_inj h)

/-- valid, and behind the one ahead of it -/
def riseAt {α : Type} (ok : α → Bool) (lt : α → α → Bool) (l : List α) (k : Nat) : Bool :=
  match l[k]? with
  | none => true
  | some s => ok s && (decide (k = 0) || (match l[k-1]? with | none => true | some r => lt r s))
def riseTo {α : Type} (ok : α → Bool) (lt : α → α → Bool) (l : List α) (k : Nat) : Bool := (List.range k).all (riseAt ok lt l)
def riseL {α : Type} (m : Nat) (ok : α → Bool) (lt : α → α → Bool) (l : List α) : Bool := decide (l.length ≤ m) && riseTo ok lt l l.length
end Go.Proofs.YtgimcnpkngpmiaaGreatDoor.QOrd

/- Watermarks of papers: the plain functions of the program and of the reference agree, and the law answers true. (QTexts) No condition but those of each theorem. -/
namespace Go.Proofs.YtgimcnpkngpmiaaGreatDoor.QTexts
set_option linter.unusedVariables false
set_option linter.unusedSimpArgs false
open Go.RowKit
open Go.Proofs.YtgimcnpkngpmiaaGreatDoor.GoP Go.Proofs.YtgimcnpkngpmiaaGreatDoor.PlainStamp Go.Proofs.YtgimcnpkngpmiaaGreatDoor.QBase Go.Proofs.YtgimcnpkngpmiaaGreatDoor.QOrd Go.Proofs.YtgimcnpkngpmiaaGreatDoor.QLoop

theorem list_le (x y : List UInt8) : decide (x ≤ y) = !(Op.bytesLess y x) := by
  rw [bytesLess_eq, Bool.eq_iff_iff]
  simp [List.not_lt]
/-- in strictly rising order -/
def strict (l : List ByteArray) : Prop := List.Pairwise (fun a b => bl a b = true) l
theorem bl_asymm {a b : ByteArray} (h : bl a b = true) : bl b a = false := by
  cases hb : bl b a with
  | false => rfl
  | true => have := bl_trans h hb; rw [bl_self] at this; exact absurd this (by simp)
/-- two strictly rising lists of the same texts are the same -/
theorem strict_ext : ∀ {l m : List ByteArray}, strict l → strict m → (∀ x, x ∈ l ↔ x ∈ m) → l = m := by
  intro l
  induction l with
  | nil =>
    intro m _ _ h
    cases m with
    | nil => rfl
    | cons y m => exact absurd ((h y).2 (by simp)) (by simp)
  | cons x l ih =>
    intro m hl hm h
    cases m with
    | nil => exact absurd ((h x).1 (by simp)) (by simp)
    | cons y m =>
      unfold strict at hl hm
      rw [List.pairwise_cons] at hl hm
      have hxy : x = y := by
        rcases List.mem_cons.1 ((h x).1 (by simp)) with e | hx
        · exact e
        · rcases List.mem_cons.1 ((h y).2 (by simp)) with e | hy
          · exact e.symm
          · have h1 := hm.1 x hx
            have h2 := hl.1 y hy
            rw [bl_asymm h1] at h2; exact absurd h2 (by simp)
      subst hxy
      have hnx : ∀ {k : List ByteArray}, (∀ z ∈ k, bl x z = true) → ¬ x ∈ k := by
        intro k hk hx
        have := hk x hx
        rw [bl_self] at this; exact absurd this (by simp)
      rw [ih hl.2 hm.2 (fun z => ?_)]
      constructor
      · intro hz
        rcases List.mem_cons.1 ((h z).1 (by simp [hz])) with e | h1
        · subst e; exact absurd hz (hnx hl.1)
        · exact h1
      · intro hz
        rcases List.mem_cons.1 ((h z).2 (by simp [hz])) with e | h1
        · subst e; exact absurd hz (hnx hm.1)
        · exact h1
theorem comp_keyS (l : List (List UInt8)) (hs : List.Pairwise (fun a b => Op.bytesLess b a = false) l) : ∀ m, m ≤ l.length → List.Pairwise (fun a b => Op.bytesLess a b = true) (Lib.compactUpTo l.toArray m) ∧ (∀ x, x ∈ Lib.compactUpTo l.toArray m ↔ ∃ j, j < m ∧ l[j]? = some x) := by
  intro m
  induction m with
  | zero => intro _; simp [Lib.compactUpTo]
  | succ m ih =>
    intro hm
    obtain ⟨h1, h2⟩ := ih (by omega)
    have hle : ∀ {i j : Nat} {x y : List UInt8}, i ≤ j → l[i]? = some x → l[j]? = some y → Op.bytesLess y x = false := by
      intro i j x y hij hx hy
      obtain ⟨a1, a2⟩ := List.getElem?_eq_some_iff.1 hx
      obtain ⟨b1, b2⟩ := List.getElem?_eq_some_iff.1 hy
      by_cases he : i = j
      · subst he; rw [hx] at hy; obtain rfl := Option.some.inj hy; exact bl_self' _
      · have := List.pairwise_iff_getElem.1 hs i j a1 b1 (by omega)
        rw [a2, b2] at this; exact this
    have hx : l[m]? = some l[m] := List.getElem?_eq_getElem (by omega)
    have g : l.toArray[m]! = l[m] := by simp [hx]
    rw [Lib.compactUpTo_succ]
    by_cases hk : Lib.keeps l.toArray m = true
    · rw [if_pos hk, g]
      have hlt : ∀ x, x ∈ Lib.compactUpTo l.toArray m → Op.bytesLess x l[m] = true := by
        intro x hxm
        obtain ⟨j, hj, hjx⟩ := (h2 x).1 hxm
        have hp : m - 1 < l.length := by omega
        have h3 := hle (i := j) (j := m - 1) (by omega) hjx (List.getElem?_eq_getElem hp)
        have h4 := hle (i := m - 1) (j := m) (by omega) (List.getElem?_eq_getElem hp) hx
        have h5 : l[m-1] ≠ l[m] := by
          unfold Lib.keeps at hk
          rw [decide_eq_true_eq] at hk
          rcases hk with h0 | h0
          · omega
          · rw [g] at h0
            have : l.toArray[m-1]! = l[m-1] := by simp [List.getElem?_eq_getElem hp]
            rw [this] at h0; exact fun e => h0 e.symm
        have h6 : Op.bytesLess l[m-1] l[m] = true := by rw [bl_total' _ _ h5, h4]; rfl
        by_cases e : x = l[m-1]
        · rw [e]; exact h6
        · exact bl_trans' _ _ _ (by rw [bl_total' _ _ e, h3]; rfl) h6
      refine ⟨List.pairwise_append.2 ⟨h1, by simp, fun a ha b hb => by simp at hb; subst hb; exact hlt a ha⟩, fun x => ?_⟩
      rw [List.mem_append, h2, List.mem_singleton]
      constructor
      · rintro (⟨j, hj, hjx⟩ | rfl)
        · exact ⟨j, by omega, hjx⟩
        · exact ⟨m, by omega, hx⟩
      · rintro ⟨j, hj, hjx⟩
        by_cases he : j = m
        · subst he; rw [hx] at hjx; simp at hjx; exact Or.inr hjx.symm
        · exact Or.inl ⟨j, by omega, hjx⟩
    · rw [if_neg hk, List.append_nil]
      refine ⟨h1, fun x => ?_⟩
      rw [h2]
      constructor
      · rintro ⟨j, hj, hjx⟩; exact ⟨j, by omega, hjx⟩
      · rintro ⟨j, hj, hjx⟩
        by_cases he : j = m
        · subst he
          have hm0 : ¬ (j = 0) ∧ l.toArray[j]! = l.toArray[j-1]! := by
            unfold Lib.keeps at hk
            simpa using hk
          have hp : j - 1 < l.length := by omega
          have h6 : l.toArray[j-1]! = l[j-1] := by simp [List.getElem?_eq_getElem hp]
          rw [hx] at hjx
          refine ⟨j - 1, by omega, ?_⟩
          rw [List.getElem?_eq_getElem hp, ← hjx, ← g, hm0.2, h6]
        · exact ⟨j, by omega, hjx⟩
/-- sorted, and each text once -/
def sorted (l : List ByteArray) : List ByteArray := GoS.unb (Lib.compact (GoS.bts (GoS.unb ((GoS.bts l).mergeSort fun x y => decide (x ≤ y)))))
theorem bts_unb (l : List (List UInt8)) : GoS.bts (GoS.unb l) = l := by
  unfold GoS.bts GoS.unb
  rw [List.map_map]
  have : ((fun x : ByteArray => x.data.toList) ∘ fun x : List UInt8 => (⟨x.toArray⟩ : ByteArray)) = id := by funext x; rfl
  rw [this, List.map_id]
theorem sorted_facts (l : List ByteArray) : strict (sorted l) ∧ (∀ x, x ∈ sorted l ↔ x ∈ l) ∧ (sorted l).length ≤ l.length := by
  unfold sorted
  rw [bts_unb]
  obtain ⟨ss, hss⟩ : ∃ ss, ((GoS.bts l).mergeSort fun x y => decide (x ≤ y)) = ss := ⟨_, rfl⟩
  have hlen : ss.length = l.length := by rw [← hss, List.length_mergeSort, GoS.bts_len]
  have hmem : ∀ x, x ∈ ss ↔ x ∈ GoS.bts l := fun x => by rw [← hss]; exact List.mem_mergeSort
  have hs : List.Pairwise (fun a b => Op.bytesLess b a = false) ss := by
    have h := List.pairwise_mergeSort (le := fun x y : List UInt8 => decide (x ≤ y)) (fun a b c h1 h2 => by
      rw [list_le] at h1 h2 ⊢
      simp only [Bool.not_eq_true'] at h1 h2 ⊢
      cases h3 : Op.bytesLess c a with
      | false => rfl
      | true =>
        by_cases e : b = c
        · subst e; rw [h3] at h1; exact absurd h1 (by simp)
        · have h4 : Op.bytesLess b c = true := by rw [bl_total' _ _ e, h2]; rfl
          have := bl_trans' _ _ _ h4 h3
          rw [this] at h1; exact absurd h1 (by simp)) (fun a b => by
      rw [list_le, list_le]
      by_cases e : a = b
      · subst e; rw [bl_self']; rfl
      · rw [bl_total' _ _ e]; cases Op.bytesLess b a <;> rfl) (GoS.bts l)
    rw [hss] at h
    exact h.imp (fun h => by rw [list_le] at h; simpa using h)
  rw [hss]
  obtain ⟨k1, k2⟩ := comp_keyS ss hs ss.length (Nat.le_refl _)
  refine ⟨?_, fun x => ?_, ?_⟩
  · unfold strict GoS.unb
    rw [List.pairwise_map]
    exact k1.imp (fun {a b} h => by unfold bl; rw [ByteArray.toList_eq, ByteArray.toList_eq]; exact h)
  · unfold GoS.unb
    rw [List.mem_map]
    constructor
    · rintro ⟨y, hy, rfl⟩
      obtain ⟨j, _, hj⟩ := (k2 y).1 hy
      have h3 := (hmem y).1 (List.mem_of_getElem? hj)
      unfold GoS.bts at h3
      obtain ⟨z, hz, rfl⟩ := List.mem_map.1 h3
      exact hz
    · intro hx
      have h3 : x.data.toList ∈ ss := (hmem _).2 (List.mem_map.2 ⟨x, hx, rfl⟩)
      obtain ⟨j, hj⟩ := List.getElem?_of_mem h3
      exact ⟨x.data.toList, (k2 _).2 ⟨j, (List.getElem?_eq_some_iff.1 hj).1, hj⟩, rfl⟩
  · rw [GoS.unb_len]
    have := Lib.compact_length_le ss
    omega
theorem sort_comp {l : List ByteArray} (h : l.length ≤ 1000000) : (Option.bind (GxSlicesSortStringString.P l) fun m => GxSlicesCompactStringString.P m) = some (sorted l) := by
  unfold GxSlicesSortStringString.P
  rw [if_pos (by omega)]; rfl
end Go.Proofs.YtgimcnpkngpmiaaGreatDoor.QTexts

/- A loop that gathers what a test lets through: the plain loop's answer. (QGath) No condition but those of each theorem. -/
namespace Go.Proofs.YtgimcnpkngpmiaaGreatDoor.QGath
set_option linter.unusedVariables false
open Go.RowKit
open Go.Proofs.YtgimcnpkngpmiaaGreatDoor.GoP Go.Proofs.YtgimcnpkngpmiaaGreatDoor.QBase Go.Proofs.YtgimcnpkngpmiaaGreatDoor.QLoop

theorem gather {α β R : Type} {l : List α} {p : α → Bool} {g : α → β} {f : Nat → List β → (List β → Option R) → (List β → Option R) → Option R} {fin : List β → Option R} (hl : l.length ≤ 1099511627776)
    (step : ∀ k nx x s, l[k]? = some x → s.length ≤ 1099511627776 → f k s nx fin = nx (if p x then s ++ [g x] else s)) : cntK f l.length 0 [] fin = fin ((l.filter p).map g) := by
  have key : ∀ m k, k + m = l.length → cntK f m k (((l.take k).filter p).map g) fin = fin ((l.filter p).map g) := by
    intro m
    induction m with
    | zero => intro k hk; obtain rfl : k = l.length := by omega
              rw [List.take_of_length_le (Nat.le_refl _)]; rfl
    | succ m ih =>
      intro k hk
      obtain ⟨x, hx, _⟩ := at_lt (l := l) (k := k) (by omega)
      show f k _ _ fin = _
      have hle : (((l.take k).filter p).map g).length ≤ 1099511627776 := by
        rw [List.length_map]
        have := List.length_filter_le p (l.take k)
        rw [List.length_take] at this
        omega
      rw [step k _ x _ hx hle, ← ih (k + 1) (by omega), take_next hx, List.filter_append, List.map_append]
      cases hp : p x <;> simp [List.filter, hp]
  exact key l.length 0 (by omega)
end Go.Proofs.YtgimcnpkngpmiaaGreatDoor.QGath

/- Chapter 11: postmarks: the plain functions of the program and of the reference agree, and the laws answer true. (Q11Towns) No condition but those of each theorem. -/
namespace Go.Proofs.YtgimcnpkngpmiaaGreatDoor.Q11Towns
set_option linter.unusedVariables false
set_option linter.unusedSimpArgs false
open Go.RowKit
open Go.Proofs.YtgimcnpkngpmiaaGreatDoor.GoP Go.Proofs.YtgimcnpkngpmiaaGreatDoor.PlainStamp Go.Proofs.YtgimcnpkngpmiaaGreatDoor.QBase Go.Proofs.YtgimcnpkngpmiaaGreatDoor.Q11Used Go.Proofs.YtgimcnpkngpmiaaGreatDoor.QTexts Go.Proofs.YtgimcnpkngpmiaaGreatDoor.QOrd Go.Proofs.YtgimcnpkngpmiaaGreatDoor.QAll Go.Proofs.YtgimcnpkngpmiaaGreatDoor.Q11List Go.Proofs.YtgimcnpkngpmiaaGreatDoor.Q11Mark Go.Proofs.YtgimcnpkngpmiaaGreatDoor.QUp Go.Proofs.YtgimcnpkngpmiaaGreatDoor.QLoop Go.Proofs.YtgimcnpkngpmiaaGreatDoor.PPostmark Go.Proofs.YtgimcnpkngpmiaaGreatDoor.QGath

def towns (day : Int) (l : List Postmark) : List ByteArray := (l.filter (usedB day)).map Postmark.town
def townsRes (l : List Postmark) (day : Int) : List ByteArray × Bool := if (okPms l && inB day 0 4000) = true then (sorted (towns day l), true) else ([], false)
theorem towns_len (day : Int) (l : List Postmark) : (towns day l).length ≤ l.length := by unfold towns; rw [List.length_map]; exact List.length_filter_le _ _
theorem towns_impl (l : List Postmark) (hf : ∀ s ∈ l, s.fits) (day : Int) : GiTownsOn.P l day = some (townsRes l day) := by
  simp only [GiTownsOn.P, arePostmarks_eq l hf, isDay_eq, Option.bind_some, letK, joinK, appK, iteK_if, townsRes]
  cases hc : okPms l with
  | false => simp
  | true =>
    cases hd : inB day 0 4000 with
    | false => simp
    | true =>
      have h12 : l.length ≤ 12 := upL_len hc
      have hk : GiKeysWherePostmarkStringiTownOfPostmarkiTownsOn1.P l day = some (towns day l) := by
        simp only [GiKeysWherePostmarkStringiTownOfPostmarkiTownsOn1.P]
        rw [gather (p := usedB day) (g := Postmark.town) (by omega)]
        · rfl
        · intro k nx x s hx hs
          have hi : idx l (k : Int) = some x := by rw [idx_nat, hx]
          have hu := used_impl x day
          simp only [GiKeysWherePostmarkStringiTownOfPostmarkiTownsOn1.l0, letK, hi, Option.bind_some, unPostmark, GiTownsOn1.P, GiTownOfPostmark.P, hu, appK, iteK_if]
          rw [guardK_pos hs]
          cases usedB day x <;> rfl
      have hl := towns_len day l
      have hsc := sort_comp (l := towns day l) (by omega)
      simp only [hk, Option.bind_some, Bool.not_true, Bool.and_true, Bool.false_eq_true, if_false, if_true]
      cases hs : GxSlicesSortStringString.P (towns day l) with
      | none => rw [hs] at hsc; simp at hsc
      | some m =>
        rw [hs, Option.bind_some] at hsc
        simp only [Option.bind_some, hsc]
theorem find_any {l : List ByteArray} {n : ByteArray} {R : Type} (e : Bool → Option R) (f : Nat → Bool → (Bool → Option R) → (Bool → Option R) → Option R) (b : Bool)
    (step : ∀ k nx x b, l[k]? = some x → f k b nx e = nx (b || decide (x = n))) : cntK f l.length 0 b e = e (b || l.any fun x => decide (x = n)) := by
  have key : ∀ m k b, k + m = l.length → cntK f m k b e = e (b || (l.drop k).any fun x => decide (x = n)) := by
    intro m
    induction m with
    | zero => intro k b hk; rw [List.drop_of_length_le (by omega)]; simp [cntK]
    | succ m ih =>
      intro k b hk
      obtain ⟨x, hx, _⟩ := at_lt (l := l) (k := k) (by omega)
      obtain ⟨hlt, e1⟩ := List.getElem?_eq_some_iff.1 hx
      show f k b _ e = _
      rw [step k _ x b hx, ih (k + 1) _ (by omega), List.drop_eq_getElem_cons hlt, e1, List.any_cons, Bool.or_assoc]
  exact key l.length 0 b (by omega)
theorem towns_spec (fuel : Nat) (hfu : 100 ≤ fuel) (l : List Postmark) (hf : ∀ s ∈ l, s.fits) (hl : l.length ≤ 9223372036854775807) (day : Int) : GsTownsOn.P fuel l day = some (townsRes l day) := by
  simp only [GsTownsOn.P, l11Good_eq fuel hfu l hf hl, l2Day_eq, Option.bind_some, letK, joinK, appK, iteK_if, townsRes]
  cases hc : okPms l with
  | false => simp
  | true =>
   cases hd : inB day 0 4000 with
   | false => simp
   | true =>
    have h12 : l.length ≤ 12 := upL_len hc
    simp only [Bool.not_true, Bool.and_true, Bool.false_eq_true, if_false, if_true]
    refine cnt_is _ (fun k (s : List ByteArray) => strict s ∧ (∀ x, x ∈ s ↔ x ∈ towns day (l.take k)) ∧ s.length ≤ k) ?_ ?_ _ ⟨List.Pairwise.nil, fun x => by simp [towns], by simp⟩
    · intro k s nx hk ⟨h1, h2, h3⟩ hn
      obtain ⟨p, hp, hi⟩ := at_lt (l := l) (k := k) hk
      obtain ⟨nm, hnm⟩ : ∃ nm, p.town = nm := ⟨_, rfl⟩
      have hmk : ∀ x, x ∈ towns day (l.take (k + 1)) ↔ x ∈ towns day (l.take k) ∨ (usedB day p = true ∧ x = nm) := by
        intro x
        unfold towns
        rw [take_next hp, List.filter_append, List.map_append, List.mem_append]
        cases he : usedB day p with
        | true => simp [List.filter, hnm, he]
        | false => simp [List.filter, hnm, he]
      simp only [GsTownsOn.l0, letK, hi, Option.bind_some, unPostmark, used_spec, hnm]
      rw [find_any (n := nm) (GsTownsOn.e1 fuel nx s nm) (GsTownsOn.l1 s nm) (!usedB day p) (by
        intro k1 nx1 x b hx
        have hi1 : idx s (k1 : Int) = some x := by rw [idx_nat, hx]
        simp only [GsTownsOn.l1, letK, hi1, Option.bind_some, joinK, appK, iteK_if, eq_list]
        cases b <;> simp)]
      obtain ⟨kn, hkn⟩ : ∃ kn, (!usedB day p || s.any fun x => decide (x = nm)) = kn := ⟨_, rfl⟩
      rw [hkn]
      simp only [GsTownsOn.e1, letK]
      have fin : ∀ q : Nat, q ≤ s.length → (∀ i x, q ≤ i → s[i]? = some x → bl nm x = true) → (∀ x, 0 < q → s[q-1]? = some x → bl nm x = false) → GsTownsOn.e2 nx s nm kn (q : Int) = some (sorted (towns day l), true) := by
        intro q hq hup hlo
        simp only [GsTownsOn.e2, letK, iteK_if]
        cases kn with
        | true =>
          simp only [Bool.not_true, Bool.false_eq_true, if_false, appK]
          refine hn _ ⟨h1, fun x => ?_, by omega⟩
          rw [hmk, ← h2]
          constructor
          · exact Or.inl
          · rintro (h | ⟨he, rfl⟩)
            · exact h
            · rw [he, Bool.not_true, Bool.false_or, List.any_eq_true] at hkn
              obtain ⟨y, hy, e⟩ := hkn
              simp only [decide_eq_true_eq] at e
              rw [← e]; exact hy
        | false =>
          simp only [Bool.or_eq_false_iff] at hkn
          obtain ⟨hne0, hni⟩ := hkn
          have hne : usedB day p = true := by simpa using hne0
          have hnin : ¬ nm ∈ s := by
            intro hm
            rw [List.any_eq_false] at hni
            exact hni nm hm (by simp)
          simp only [Bool.not_false, if_true, appK, List.nil_append, Int.toNat_natCast]
          rw [guardK_pos (by omega), guardK_pos (by simp; omega), guardK_pos (by simp; omega), guardK_pos (by omega), guardK_pos (by simp; omega)]
          have hlow : ∀ x ∈ s.take q, bl x nm = true := by
            intro x hx
            obtain ⟨i, hi⟩ := List.getElem?_of_mem hx
            have hil := (List.getElem?_eq_some_iff.1 hi).1
            rw [List.length_take] at hil
            rw [List.getElem?_take_of_lt (by omega)] at hi
            obtain ⟨y, hy, _⟩ := at_lt (l := s) (k := q - 1) (by omega)
            have hny := hlo y (by omega) hy
            have hyn : bl y nm = true := by
              have hne2 : y ≠ nm := fun e => hnin (e ▸ List.mem_of_getElem? hy)
              rw [bl_total hne2, hny]; rfl
            by_cases e : i = q - 1
            · subst e; rw [hi] at hy; obtain rfl := Option.some.inj hy; exact hyn
            · obtain ⟨a1, a2⟩ := List.getElem?_eq_some_iff.1 hi
              obtain ⟨b1, b2⟩ := List.getElem?_eq_some_iff.1 hy
              have := List.pairwise_iff_getElem.1 h1 i (q - 1) a1 b1 (by omega)
              rw [a2, b2] at this
              exact bl_trans this hyn
          have hhigh : ∀ x ∈ s.drop q, bl nm x = true := by
            intro x hx
            obtain ⟨i, hi⟩ := List.getElem?_of_mem hx
            rw [List.getElem?_drop] at hi
            exact hup (q + i) x (by omega) hi
          refine hn _ ⟨?_, fun x => ?_, ?_⟩
          · refine List.pairwise_append.2 ⟨List.pairwise_append.2 ⟨List.Pairwise.sublist (List.take_sublist _ _) h1, by simp, fun a ha b hb => by simp at hb; subst hb; exact hlow a ha⟩, List.Pairwise.sublist (List.drop_sublist _ _) h1, fun a ha b hb => ?_⟩
            rw [List.mem_append, List.mem_singleton] at ha
            rcases ha with ha | rfl
            · exact bl_trans (hlow a ha) (hhigh b hb)
            · exact hhigh b hb
          · rw [hmk, ← h2, List.mem_append, List.mem_append, List.mem_singleton]
            have hs : x ∈ s ↔ x ∈ s.take q ∨ x ∈ s.drop q := by rw [← List.mem_append, List.take_append_drop]
            rw [hs]
            constructor
            · rintro ((h | rfl) | h)
              · exact .inl (.inl h)
              · exact .inr ⟨hne, rfl⟩
              · exact .inl (.inr h)
            · rintro ((h | h) | ⟨_, rfl⟩)
              · exact .inl (.inl h)
              · exact .inr h
              · exact .inl (.inr rfl)
          · simp; omega
      refine lp_is (n := s.length) _ (fun j (i : Int) => ∃ q : Nat, i = (q : Int) ∧ q + j = s.length ∧ ∀ i' x, q ≤ i' → s[i']? = some x → bl nm x = true) ?_ ?_ fuel 0 _ (by omega) (by omega) ⟨s.length, rfl, by omega, fun i' x h hx => by have := (List.getElem?_eq_some_iff.1 hx).1; omega⟩
      · rintro j i nx2 hj ⟨q, rfl, hq, hup⟩ hn2
        obtain ⟨y, hy, _⟩ := at_lt (l := s) (k := q - 1) (by omega)
        have hq0 : (0 : Int) < (q : Int) := by omega
        have hw : IntKind.i64.wrap ((q : Int) - 1) = ((q - 1 : Nat) : Int) := by rw [wrap_in (by omega) (by omega)]; omega
        have hiq : idx s ((q - 1 : Nat) : Int) = some y := by rw [idx_nat, hy]
        simp only [GsTownsOn.l2, letK, decide_eq_true hq0, joinK, appK, iteK_if, if_true, hw, hiq, Option.bind_some, bl_lt]
        cases hb : bl nm y with
        | true =>
          simp only [if_true]
          refine hn2 _ ⟨q - 1, rfl, by omega, fun i' x h hx => ?_⟩
          by_cases e : i' = q - 1
          · subst e; rw [hy] at hx; obtain rfl := Option.some.inj hx; exact hb
          · exact hup i' x (by omega) hx
        | false =>
          simp only [Bool.false_eq_true, if_false]
          exact fin q (by omega) hup (fun x _ hx => by rw [hy] at hx; obtain rfl := Option.some.inj hx; exact hb)
      · rintro i nx2 ⟨q, rfl, hq, hup⟩
        obtain rfl : q = 0 := by omega
        have hq0 : ¬ ((0 : Int) < ((0 : Nat) : Int)) := by omega
        simp only [GsTownsOn.l2, letK, decide_eq_false hq0, joinK, appK, iteK_if, Bool.false_eq_true, if_false]
        exact fin 0 (by omega) hup (fun x h _ => by omega)
    · intro s ⟨h1, h2, _⟩
      rw [List.take_of_length_le (Nat.le_refl _)] at h2
      obtain ⟨k1, k2, _⟩ := sorted_facts (towns day l)
      simp only [GsTownsOn.e0, letK]
      rw [strict_ext h1 k1 (fun x => (h2 x).trans (k2 x).symm)]
end Go.Proofs.YtgimcnpkngpmiaaGreatDoor.Q11Towns

/- Chapter 11: postmarks: the plain functions of the program and of the reference agree, and the laws answer true. (Q11Help) No condition but those of each theorem. -/
namespace Go.Proofs.YtgimcnpkngpmiaaGreatDoor.Q11Help
set_option linter.unusedVariables false
set_option linter.unusedSimpArgs false
open Go.RowKit
open Go.Proofs.YtgimcnpkngpmiaaGreatDoor.GoP Go.Proofs.YtgimcnpkngpmiaaGreatDoor.PlainStamp Go.Proofs.YtgimcnpkngpmiaaGreatDoor.QBase Go.Proofs.YtgimcnpkngpmiaaGreatDoor.QLoop Go.Proofs.YtgimcnpkngpmiaaGreatDoor.PPostmark

theorem most_eq (a b : Int) : GsL1Most.P a b = some (max a b) := by
  simp only [GsL1Most.P, letK, iteK_if]
  by_cases h : b < a
  · rw [if_pos (by simpa using h)]; congr 1; omega
  · rw [if_neg (by simpa using h)]; congr 1; omega
theorem least_eq (a b : Int) : GsL1Least.P a b = some (min a b) := by
  simp only [GsL1Least.P, letK, iteK_if]
  by_cases h : a < b
  · rw [if_pos (by simpa using h)]; congr 1; omega
  · rw [if_neg (by simpa using h)]; congr 1; omega
theorem clone_eq {l : List Postmark} (h : l.length ≤ 1000000) : GxSlicesCloneLoopExampleG01062ImplPostmarkLoopExampleG01062ImplPostmark.P l = some l := by
  simp only [GxSlicesCloneLoopExampleG01062ImplPostmarkLoopExampleG01062ImplPostmark.P, Go.Proofs.YtgimcnpkngpmiaaGreatDoor.GoK.nilK, iteK_if, letK]
  rw [if_neg (by simp), guardK_pos (by simp; omega)]; simp
end Go.Proofs.YtgimcnpkngpmiaaGreatDoor.Q11Help

/- Loops that count, that search, and that gather behind what is there already: the plain loops' answers. (QCount) No condition but those of each theorem. -/
namespace Go.Proofs.YtgimcnpkngpmiaaGreatDoor.QCount
set_option linter.unusedVariables false
set_option linter.unusedSimpArgs false
open Go.RowKit
open Go.Proofs.YtgimcnpkngpmiaaGreatDoor.GoP Go.Proofs.YtgimcnpkngpmiaaGreatDoor.PlainStamp Go.Proofs.YtgimcnpkngpmiaaGreatDoor.QBase Go.Proofs.YtgimcnpkngpmiaaGreatDoor.QLoop

/-- the first place at which the test holds -/
def firstI {α : Type} (p : α → Bool) (l : List α) : Int := match l.findIdx? p with | some i => (i : Int) | none => -1
theorem find_loop {α R : Type} {l : List α} {p : α → Bool} {f : Nat → Unit → (Unit → Option R) → (Unit → Option R) → Option R} {fin : Unit → Option R} {yes : Nat → Option R}
    (step : ∀ k nx x, l[k]? = some x → f k () nx fin = if p x = true then yes k else nx ()) : cntK f l.length 0 () fin = match l.findIdx? p with | some i => yes i | none => fin () := by
  have key : ∀ m k, k + m = l.length → (∀ i x, i < k → l[i]? = some x → p x = false) → cntK f m k () fin = match l.findIdx? p with | some i => yes i | none => fin () := by
    intro m
    induction m with
    | zero =>
      intro k hk hu; obtain rfl : k = l.length := by omega
      have : l.findIdx? p = none := by
        rw [List.findIdx?_eq_none_iff]
        intro x hx
        obtain ⟨i, hi⟩ := List.getElem?_of_mem hx
        exact hu i x (List.getElem?_eq_some_iff.1 hi).1 hi
      rw [this]; rfl
    | succ m ih =>
      intro k hk hu
      obtain ⟨x, hx, _⟩ := at_lt (l := l) (k := k) (by omega)
      show f k () _ fin = _
      rw [step k _ x hx]
      cases hp : p x with
      | true =>
        have : l.findIdx? p = some k := by
          rw [List.findIdx?_eq_some_iff_getElem]
          obtain ⟨hlt, e⟩ := List.getElem?_eq_some_iff.1 hx
          refine ⟨hlt, by rw [e]; exact hp, fun j hj => ?_⟩
          rw [hu j l[j] hj (List.getElem?_eq_getElem (by omega))]; simp
        rw [this, if_pos rfl]
      | false =>
        rw [if_neg (by simp)]
        refine ih (k + 1) (by omega) (fun i y hi hy => ?_)
        by_cases he : i = k
        · subst he; rw [hx] at hy; obtain rfl := Option.some.inj hy; exact hp
        · exact hu i y (by omega) hy
  exact key l.length 0 (by omega) (fun i x hi _ => by omega)
end Go.Proofs.YtgimcnpkngpmiaaGreatDoor.QCount

/- Chapter 11: postmarks: the plain functions of the program and of the reference agree, and the laws answer true. (Q11Find) No condition but those of each theorem. -/
namespace Go.Proofs.YtgimcnpkngpmiaaGreatDoor.Q11Find
set_option linter.unusedVariables false
set_option linter.unusedSimpArgs false
open Go.RowKit
open Go.Proofs.YtgimcnpkngpmiaaGreatDoor.GoP Go.Proofs.YtgimcnpkngpmiaaGreatDoor.PlainStamp Go.Proofs.YtgimcnpkngpmiaaGreatDoor.QBase Go.Proofs.YtgimcnpkngpmiaaGreatDoor.QCount Go.Proofs.YtgimcnpkngpmiaaGreatDoor.QOrd Go.Proofs.YtgimcnpkngpmiaaGreatDoor.Q11List Go.Proofs.YtgimcnpkngpmiaaGreatDoor.Q11Mark Go.Proofs.YtgimcnpkngpmiaaGreatDoor.QUp Go.Proofs.YtgimcnpkngpmiaaGreatDoor.QLoop Go.Proofs.YtgimcnpkngpmiaaGreatDoor.PPostmark

def isId (id : Int) (x : Postmark) : Bool := decide (x.id = id)
/-- the postmark with an id, and its place -/
def fnd (l : List Postmark) (id : Int) : Option (Nat × Postmark) := match l.findIdx? (isId id) with | none => none | some i => l[i]?.map fun x => (i, x)
theorem fnd_some {l : List Postmark} {id : Int} {i : Nat} {x : Postmark} (h : fnd l id = some (i, x)) : firstI (isId id) l = (i : Int) ∧ l[i]? = some x ∧ x.id = id ∧ i < l.length := by
  unfold fnd at h
  unfold firstI
  cases hq : l.findIdx? (isId id) with
  | none => rw [hq] at h; simp at h
  | some q =>
    rw [hq] at h
    simp only [Option.map_eq_some_iff, Prod.mk.injEq] at h
    obtain ⟨y, hy, rfl, rfl⟩ := h
    rw [List.findIdx?_eq_some_iff_getElem] at hq
    obtain ⟨hql, hqp, _⟩ := hq
    obtain ⟨h1, h2⟩ := List.getElem?_eq_some_iff.1 hy
    refine ⟨rfl, hy, ?_, hql⟩
    rw [h2] at hqp
    unfold isId at hqp; simpa using hqp
theorem fnd_none {l : List Postmark} {id : Int} (h : fnd l id = none) : firstI (isId id) l = -1 ∧ ∀ x ∈ l, x.id ≠ id := by
  unfold fnd at h
  unfold firstI
  cases hq : l.findIdx? (isId id) with
  | none =>
    refine ⟨rfl, fun x hx => ?_⟩
    rw [List.findIdx?_eq_none_iff] at hq
    have := hq x hx
    unfold isId at this; simpa using this
  | some q =>
    rw [hq] at h
    have hq2 := hq
    rw [List.findIdx?_eq_some_iff_getElem] at hq
    obtain ⟨hql, _⟩ := hq
    simp [List.getElem?_eq_getElem hql] at h
theorem find_impl (l : List Postmark) (id : Int) : GxSlicesIndexFuncLoopExampleG01062ImplPostmarkLoopExampleG01062ImplPostmarkiIndexOfPostmark1.P l id = some (firstI (isId id) l) := by
  simp only [GxSlicesIndexFuncLoopExampleG01062ImplPostmarkLoopExampleG01062ImplPostmarkiIndexOfPostmark1.P]
  rw [find_loop (p := isId id) (yes := fun i => some (i : Int))]
  · unfold firstI
    cases l.findIdx? (isId id) <;> rfl
  · intro k nx x hx
    have hi : idx l (k : Int) = some x := by rw [idx_nat, hx]
    simp only [GxSlicesIndexFuncLoopExampleG01062ImplPostmarkLoopExampleG01062ImplPostmarkiIndexOfPostmark1.l0, hi, Option.bind_some, unPostmark, GiIndexOfPostmark1.P, letK, appK, iteK_if]
    rfl
theorem indexOf_eq (l : List Postmark) (hf : ∀ s ∈ l, s.fits) (id : Int) : GiIndexOfPostmark.P l id = some (if okPms l = true then firstI (isId id) l else -1) := by
  simp only [GiIndexOfPostmark.P, arePostmarks_eq l hf, find_impl, Option.bind_some, letK, iteK_if]
  cases okPms l <;> simp
theorem l11Find_eq (l : List Postmark) (id : Int) : GsL11Find.P l id = some (firstI (isId id) l) := by
  simp only [GsL11Find.P]
  rw [find_loop (p := isId id) (yes := fun i => some (i : Int))]
  · unfold firstI
    cases l.findIdx? (isId id) <;> rfl
  · intro k nx x hx
    have hi : idx l (k : Int) = some x := by rw [idx_nat, hx]
    simp only [GsL11Find.l0, hi, Option.bind_some, unPostmark, letK, appK, iteK_if]
    rfl
end Go.Proofs.YtgimcnpkngpmiaaGreatDoor.Q11Find

/- Chapter 11: postmarks: the plain functions of the program and of the reference agree, and the laws answer true. (Q11Marks) No condition but those of each theorem. -/
namespace Go.Proofs.YtgimcnpkngpmiaaGreatDoor.Q11Marks
set_option linter.unusedVariables false
set_option linter.unusedSimpArgs false
open Go.RowKit
open Go.Proofs.YtgimcnpkngpmiaaGreatDoor.GoP Go.Proofs.YtgimcnpkngpmiaaGreatDoor.PlainStamp Go.Proofs.YtgimcnpkngpmiaaGreatDoor.QBase Go.Proofs.YtgimcnpkngpmiaaGreatDoor.QWord Go.Proofs.YtgimcnpkngpmiaaGreatDoor.Q11Help Go.Proofs.YtgimcnpkngpmiaaGreatDoor.Q11Find Go.Proofs.YtgimcnpkngpmiaaGreatDoor.QCount Go.Proofs.YtgimcnpkngpmiaaGreatDoor.QOrd Go.Proofs.YtgimcnpkngpmiaaGreatDoor.Q11List Go.Proofs.YtgimcnpkngpmiaaGreatDoor.Q11Mark Go.Proofs.YtgimcnpkngpmiaaGreatDoor.QUp Go.Proofs.YtgimcnpkngpmiaaGreatDoor.QAll Go.Proofs.YtgimcnpkngpmiaaGreatDoor.QLoop Go.Proofs.YtgimcnpkngpmiaaGreatDoor.PPostmark

def ofT (town : ByteArray) (x : Postmark) : Bool := decide (x.town = town)
theorem not1_eq (x : Postmark) (town : ByteArray) : GiMarksOf1.P x town = some (!ofT town x) := by
  obtain ⟨a, b, c, d, e, g⟩ := x
  simp only [GiMarksOf1.P, unPostmark, letK, eq_list, ofT]
theorem filter_eq {l : List Postmark} (h12 : l.length ≤ 12) (town : ByteArray) (fuel : Nat) (hfu : 100 ≤ fuel) :
    GxSlicesDeleteFuncLoopExampleG01062ImplPostmarkLoopExampleG01062ImplPostmarkiMarksOf1.P fuel l town = some (l.filter (ofT town)) := by
  simp only [GxSlicesDeleteFuncLoopExampleG01062ImplPostmarkLoopExampleG01062ImplPostmarkiMarksOf1.P, GxSlicesIndexFuncLoopExampleG01062ImplPostmarkLoopExampleG01062ImplPostmarkiMarksOf1.P]
  rw [find_loop (p := fun x => !ofT town x) (yes := fun i => some (i : Int))]
  · cases hq : l.findIdx? fun x => !ofT town x with
    | none =>
      rw [List.findIdx?_eq_none_iff] at hq
      have hall : l.filter (ofT town) = l := List.filter_eq_self.2 (fun x hx => by have := hq x hx; simpa using this)
      simp [GxSlicesIndexFuncLoopExampleG01062ImplPostmarkLoopExampleG01062ImplPostmarkiMarksOf1.e0, letK, iteK_if, hall]
    | some q =>
      rw [List.findIdx?_eq_some_iff_getElem] at hq
      obtain ⟨hql, hqp, hqb⟩ := hq
      simp only [Option.bind_some, letK, iteK_if]
      rw [if_neg (by simp), wrap_in (by omega) (by omega)]
      refine lp_is (n := l.length) _ (fun k (s : List Postmark × Int × Int) => s.2.2 = (k : Int) ∧ s.1.length = l.length ∧ q < k ∧ s.2.1 = (((l.take k).filter (ofT town)).length : Int) ∧ ((l.take k).filter (ofT town)).length < k ∧ s.1.take ((l.take k).filter (ofT town)).length = (l.take k).filter (ofT town) ∧ ∀ j : Nat, k ≤ j → s.1[j]? = l[j]?) ?_ ?_ fuel (q + 1) _ (by omega) (by omega) ?_
      · rintro k ⟨s, i, j⟩ nx hk ⟨h1, h2, h3, h4, h5, h6, h7⟩ hn
        dsimp only at h1 h2 h4 h6 h7
        subst h1
        obtain ⟨x, hx, _⟩ := at_lt (l := l) (k := k) hk
        have hsx : s[k]? = some x := by rw [h7 k (Nat.le_refl _), hx]
        have hnt := not1_eq x town
        simp only [GxSlicesDeleteFuncLoopExampleG01062ImplPostmarkLoopExampleG01062ImplPostmarkiMarksOf1.l0, unp3, letK, iteK_if]
        rw [if_pos (by simp; omega)]
        simp only [idx_nat, hsx, Option.bind_some, unPostmark]
        rw [show GiMarksOf1.P (Postmark.mk x.id x.town x.kind_ x.first x.last x.lost) town = some (!ofT town x) from hnt]
        simp only [Option.bind_some, Bool.not_not, appK]
        cases ht : ofT town x with
        | true =>
          obtain ⟨y, hy, hyi⟩ := at_lt (l := s) (k := ((l.take k).filter (ofT town)).length) (by omega)
          rw [if_pos rfl, h4, hyi]
          simp only [Option.bind_some]
          rw [wrap_in (by omega) (by omega), wrap_in (by omega) (by omega)]
          have hf1 : (l.take (k + 1)).filter (ofT town) = (l.take k).filter (ofT town) ++ [x] := by rw [take_next hx, List.filter_append]; simp [List.filter, ht]
          refine hn _ ⟨by dsimp only; omega, by dsimp only; rw [List.length_set]; exact h2, by omega, by dsimp only; rw [hf1, List.length_append, List.length_singleton]; omega, by rw [hf1, List.length_append, List.length_singleton]; omega, ?_, ?_⟩
          · dsimp only
            rw [hf1, List.length_append, List.length_singleton, Int.toNat_natCast]
            rw [take_next (x := x) (by rw [List.getElem?_set_self (by omega)]), List.take_set_of_le (Nat.le_refl _), h6]
          · intro j hj
            dsimp only
            rw [Int.toNat_natCast, List.getElem?_set_ne (by omega)]
            exact h7 j (by omega)
        | false =>
          rw [if_neg (by simp), wrap_in (by omega) (by omega)]
          have hf1 : (l.take (k + 1)).filter (ofT town) = (l.take k).filter (ofT town) := by rw [take_next hx, List.filter_append]; simp [List.filter, ht]
          refine hn _ ⟨by dsimp only; omega, h2, by omega, by rw [hf1]; exact h4, by rw [hf1]; omega, by rw [hf1]; exact h6, fun j hj => h7 j (by omega)⟩
      · rintro ⟨s, i, j⟩ nx ⟨h1, h2, h3, h4, h5, h6, h7⟩
        dsimp only at h1 h2 h4 h6 h7
        rw [List.take_of_length_le (Nat.le_refl _)] at h4 h5 h6
        simp only [GxSlicesDeleteFuncLoopExampleG01062ImplPostmarkLoopExampleG01062ImplPostmarkiMarksOf1.l0, unp3, letK, iteK_if, h1, h2, appK, GxSlicesDeleteFuncLoopExampleG01062ImplPostmarkLoopExampleG01062ImplPostmarkiMarksOf1.e0, h4]
        rw [if_neg (by simp), guardK_pos (by omega), guardK_pos (by rw [List.length_append, List.length_take, List.length_replicate]; omega), Int.toNat_natCast]
        rw [List.take_append_of_le_length (by rw [List.length_take]; omega), List.take_take, Nat.min_self, h6]
      · refine ⟨by dsimp only; omega, rfl, by omega, ?_, ?_, ?_, fun j hj => rfl⟩
        all_goals
          have hpre : (l.take q).filter (ofT town) = l.take q := List.filter_eq_self.2 (fun x hx => by
            obtain ⟨i, hi⟩ := List.getElem?_of_mem hx
            obtain ⟨hi1, hi2⟩ := List.getElem?_eq_some_iff.1 hi
            rw [List.length_take] at hi1
            rw [List.getElem_take] at hi2
            have := hqb i (by omega)
            rw [hi2] at this
            simpa using this)
          have hat : l[q]? = some l[q] := List.getElem?_eq_getElem hql
          have hpre2 : (l.take (q + 1)).filter (ofT town) = l.take q := by
            rw [take_next hat, List.filter_append, hpre]
            have : ofT town l[q] = false := by simpa using hqp
            simp [List.filter, this]
        · dsimp only; rw [hpre2, List.length_take]; omega
        · rw [hpre2, List.length_take]; omega
        · dsimp only; rw [hpre2, List.length_take, Nat.min_eq_left (by omega)]
  · intro k nx x hx
    have hi : idx l (k : Int) = some x := by rw [idx_nat, hx]
    have hnt := not1_eq x town
    simp only [GxSlicesIndexFuncLoopExampleG01062ImplPostmarkLoopExampleG01062ImplPostmarkiMarksOf1.l0, hi, Option.bind_some, unPostmark]
    rw [show GiMarksOf1.P (Postmark.mk x.id x.town x.kind_ x.first x.last x.lost) town = some (!ofT town x) from hnt]
    simp only [Option.bind_some, appK, iteK_if]
def ofTown (l : List Postmark) (town : ByteArray) : List Postmark := if okPms l = true then l.filter (ofT town) else []
theorem ofTown_len (l : List Postmark) (town : ByteArray) : (ofTown l town).length ≤ 12 := by
  unfold ofTown
  split
  · rename_i hc
    have h12 : l.length ≤ 12 := upL_len hc
    have := List.length_filter_le (ofT town) l
    omega
  · simp
theorem ofTown_mem {l : List Postmark} {town : ByteArray} {x : Postmark} (h : x ∈ ofTown l town) : okPms l = true ∧ okPm x = true ∧ x ∈ l ∧ x.town = town := by
  unfold ofTown at h
  split at h
  · rename_i hc
    rw [List.mem_filter] at h
    refine ⟨hc, pms_mem hc h.1, h.1, ?_⟩
    have := h.2
    unfold ofT at this; simpa using this
  · simp at h
/-- of a town that is no word there is none -/
theorem ofTown_word {l : List Postmark} {town : ByteArray} (h : wordB town = false) : ofTown l town = [] := by
  rw [List.eq_nil_iff_forall_not_mem]
  intro x hx
  obtain ⟨_, h2, _, rfl⟩ := ofTown_mem hx
  have := (okPm_of h2).2.1
  rw [h] at this; exact absurd this (by simp)
theorem marksOf_eq (l : List Postmark) (hf : ∀ s ∈ l, s.fits) (town : ByteArray) (fuel : Nat) (hfu : 100 ≤ fuel) : GiMarksOf.P fuel l town = some (ofTown l town) := by
  simp only [GiMarksOf.P, arePostmarks_eq l hf, Option.bind_some, letK, iteK_if, ofTown]
  cases hc : okPms l with
  | false => simp
  | true =>
    have h12 : l.length ≤ 12 := upL_len hc
    simp [clone_eq (show l.length ≤ 1000000 by omega), filter_eq h12 town fuel hfu]
end Go.Proofs.YtgimcnpkngpmiaaGreatDoor.Q11Marks

/- Chapter 11: postmarks: the plain functions of the program and of the reference agree, and the laws answer true. (Q11Gap) No condition but those of each theorem. -/
namespace Go.Proofs.YtgimcnpkngpmiaaGreatDoor.Q11Gap
set_option linter.unusedVariables false
set_option linter.unusedSimpArgs false
open Go.RowKit
open Go.Proofs.YtgimcnpkngpmiaaGreatDoor.GoP Go.Proofs.YtgimcnpkngpmiaaGreatDoor.PlainStamp Go.Proofs.YtgimcnpkngpmiaaGreatDoor.QBase Go.Proofs.YtgimcnpkngpmiaaGreatDoor.Q11Used Go.Proofs.YtgimcnpkngpmiaaGreatDoor.QWord Go.Proofs.YtgimcnpkngpmiaaGreatDoor.Q11Sweep Go.Proofs.YtgimcnpkngpmiaaGreatDoor.QFoldS Go.Proofs.YtgimcnpkngpmiaaGreatDoor.Q11Towns Go.Proofs.YtgimcnpkngpmiaaGreatDoor.Q11Marks Go.Proofs.YtgimcnpkngpmiaaGreatDoor.Q11Help Go.Proofs.YtgimcnpkngpmiaaGreatDoor.Q11Find Go.Proofs.YtgimcnpkngpmiaaGreatDoor.QCount Go.Proofs.YtgimcnpkngpmiaaGreatDoor.QOrd Go.Proofs.YtgimcnpkngpmiaaGreatDoor.Q11List Go.Proofs.YtgimcnpkngpmiaaGreatDoor.Q11Mark Go.Proofs.YtgimcnpkngpmiaaGreatDoor.QUp Go.Proofs.YtgimcnpkngpmiaaGreatDoor.QAll Go.Proofs.YtgimcnpkngpmiaaGreatDoor.QLoop Go.Proofs.YtgimcnpkngpmiaaGreatDoor.PPostmark

/-- the days of a use -/
def pr (x : Postmark) : Nat × Nat := (x.first.toNat, x.last.toNat)
def flStep (s : Int × Int) (x : Postmark) : Int × Int := (min s.1 x.first, max s.2 x.last)
/-- the first and the last day of any use -/
def fl (M : List Postmark) : Int × Int := M.foldl flStep (4000, -1)
theorem fl_key : ∀ (M : List Postmark) (s : Int × Int), ((M.foldl flStep s).1 ≤ s.1 ∧ ∀ x ∈ M, (M.foldl flStep s).1 ≤ x.first) ∧ (s.2 ≤ (M.foldl flStep s).2 ∧ ∀ x ∈ M, x.last ≤ (M.foldl flStep s).2) ∧ ((M.foldl flStep s).1 = s.1 ∨ ∃ x ∈ M, x.first = (M.foldl flStep s).1) ∧ ((M.foldl flStep s).2 = s.2 ∨ ∃ x ∈ M, x.last = (M.foldl flStep s).2) := by
  intro M
  induction M with
  | nil => intro s; simp
  | cons a r ih =>
    intro s
    obtain ⟨⟨h1, h2⟩, ⟨h3, h4⟩, h5, h6⟩ := ih (flStep s a)
    rw [List.foldl_cons]
    have e1 : (flStep s a).1 = min s.1 a.first := rfl
    have e2 : (flStep s a).2 = max s.2 a.last := rfl
    refine ⟨⟨by omega, fun x hx => ?_⟩, ⟨by omega, fun x hx => ?_⟩, ?_, ?_⟩
    · rcases List.mem_cons.1 hx with rfl | hx
      · omega
      · exact h2 x hx
    · rcases List.mem_cons.1 hx with rfl | hx
      · omega
      · exact h4 x hx
    · rcases h5 with h5 | ⟨x, hx, h5⟩
      · by_cases h : s.1 ≤ a.first
        · exact Or.inl (by omega)
        · exact Or.inr ⟨a, List.mem_cons_self, by omega⟩
      · exact Or.inr ⟨x, List.mem_cons_of_mem _ hx, h5⟩
    · rcases h6 with h6 | ⟨x, hx, h6⟩
      · by_cases h : a.last ≤ s.2
        · exact Or.inl (by omega)
        · exact Or.inr ⟨a, List.mem_cons_self, by omega⟩
      · exact Or.inr ⟨x, List.mem_cons_of_mem _ hx, h6⟩
/-- a use of days 0 to 4000 -/
def goodD (x : Postmark) : Prop := 0 ≤ x.first ∧ x.first ≤ x.last ∧ x.last ≤ 4000
theorem fl_facts {M : List Postmark} (hg : ∀ x ∈ M, goodD x) (hne : M ≠ []) : (∀ x ∈ M, (fl M).1 ≤ x.first) ∧ (∃ x ∈ M, x.first = (fl M).1) ∧ (∀ x ∈ M, x.last ≤ (fl M).2) ∧ (∃ x ∈ M, x.last = (fl M).2) := by
  obtain ⟨⟨h1, h2⟩, ⟨h3, h4⟩, h5, h6⟩ := fl_key M (4000, -1)
  obtain ⟨a, ha⟩ := List.exists_mem_of_ne_nil M hne
  have hga := hg a ha
  unfold goodD at hga
  refine ⟨h2, ?_, h4, ?_⟩
  · rcases h5 with h5 | h5
    · have := h2 a ha
      exact ⟨a, ha, by unfold fl; dsimp only at h5; omega⟩
    · exact h5
  · rcases h6 with h6 | h6
    · have := h4 a ha
      dsimp only at h6; omega
    · exact h6
def gapV (M : List Postmark) : Nat := cntN (fun i => !covB (M.map pr) ((fl M).1.toNat + i)) ((fl M).2.toNat + 1 - (fl M).1.toNat)
def gapRes (l : List Postmark) (town : ByteArray) : Int × Bool := if (ofTown l town).isEmpty = true then (0, false) else ((gapV (ofTown l town) : Int), true)
def swI (s : Int × Int) (x : Postmark) : Int × Int := (s.1 + max (x.first - s.2 - 1) 0, max s.2 x.last)
theorem sw_eq : ∀ (r : List Postmark) (g R : Nat), (∀ x ∈ r, goodD x) → r.foldl swI ((g : Int), (R : Int)) = (((sweep g R (r.map pr)).1 : Int), ((sweep g R (r.map pr)).2 : Int)) := by
  intro r
  induction r with
  | nil => intro g R _; rfl
  | cons a r ih =>
    intro g R hg
    have ha := hg a List.mem_cons_self
    unfold goodD at ha
    rw [List.foldl_cons, List.map_cons]
    simp only [sweep, pr]
    rw [← ih _ _ (fun x hx => hg x (List.mem_cons_of_mem _ hx))]
    congr 1
    unfold swI
    dsimp only
    rw [Prod.mk.injEq]; omega
theorem gap_sorted {M : List Postmark} (hg : ∀ x ∈ M, goodD x) {a : Postmark} {r : List Postmark} (hp : (a :: r).Perm M) (hs : List.Pairwise (fun x y : Postmark => x.first ≤ y.first) (a :: r)) : (r.foldl swI (0, a.last)).1 = (gapV M : Int) := by
  have hm : ∀ x, x ∈ a :: r ↔ x ∈ M := fun x => hp.mem_iff
  have haM := (hm a).1 List.mem_cons_self
  have hga := hg a haM
  obtain ⟨f1, ⟨u, hu, hu2⟩, f3, ⟨v, hv, hv2⟩⟩ := fl_facts hg (fun e => by rw [e] at haM; simp at haM)
  have hgr : ∀ x ∈ r, goodD x := fun x hx => hg x ((hm x).1 (List.mem_cons_of_mem _ hx))
  have hfirst : (fl M).1 = a.first := by
    have h1 := f1 a haM
    rcases List.mem_cons.1 ((hm u).2 hu) with rfl | h
    · omega
    · have := (List.pairwise_cons.1 hs).1 u h; omega
  unfold goodD at hga hgr
  have e0 : ((0 : Int), a.last) = (((0 : Nat) : Int), ((a.last.toNat : Nat) : Int)) := by rw [Prod.mk.injEq]; omega
  rw [e0, sw_eq r 0 a.last.toNat hgr]
  obtain ⟨s1, s2, s3⟩ := sweep_is a.first.toNat (r.map pr) [pr a] 0 a.last.toNat (by
      intro p hp; rw [List.mem_singleton] at hp; subst hp; unfold pr; dsimp only; omega)
    ⟨pr a, List.mem_singleton.2 rfl, rfl⟩ (by
      intro p hp q hq
      rw [List.mem_singleton] at hp; subst hp
      obtain ⟨x, hx, rfl⟩ := List.mem_map.1 hq
      have h1 := (List.pairwise_cons.1 hs).1 x hx
      have h2 := hgr x hx
      unfold pr; dsimp only; omega) (by
      rw [List.pairwise_map]
      have h0 := (List.pairwise_cons.1 hs).2
      exact h0.imp (fun {x y} h => by unfold pr; dsimp only; omega)) (by
      intro p hp
      obtain ⟨x, hx, rfl⟩ := List.mem_map.1 hp
      have h2 := hgr x hx
      unfold pr; dsimp only; omega) (by
      rw [cntN_none]
      intro i hi
      unfold covB pr
      simp; omega)
  have hlast : (sweep 0 a.last.toNat (r.map pr)).2 = (fl M).2.toNat := by
    have hall : ∀ x ∈ M, x.last.toNat ≤ (sweep 0 a.last.toNat (r.map pr)).2 := by
      intro x hx
      refine s2 (pr x) ?_
      rcases List.mem_cons.1 ((hm x).2 hx) with rfl | h
      · exact List.mem_append_left _ (List.mem_singleton.2 rfl)
      · exact List.mem_append_right _ (List.mem_map.2 ⟨x, h, rfl⟩)
    obtain ⟨q, hq, hq2⟩ := s3
    have hex : ∃ x ∈ M, pr x = q := by
      rcases List.mem_append.1 hq with h | h
      · rw [List.mem_singleton] at h; exact ⟨a, haM, h.symm⟩
      · obtain ⟨x, hx, rfl⟩ := List.mem_map.1 h
        exact ⟨x, (hm x).1 (List.mem_cons_of_mem _ hx), rfl⟩
    obtain ⟨x, hx, rfl⟩ := hex
    have h1 := f3 x hx
    have h2 := hall v hv
    have hq3 : (pr x).2 = x.last.toNat := rfl
    rw [hq3] at hq2
    omega
  have hcov : ∀ d, covB ([pr a] ++ r.map pr) d = covB (M.map pr) d := fun d => covB_perm (hp.map pr) d
  rw [s1]
  dsimp only
  unfold gapV
  rw [hlast, hfirst, cntN_congr (g := fun i => !covB (M.map pr) (a.first.toNat + i)) (fun i _ => by show (!covB _ _) = (!covB _ _); rw [hcov])]
theorem gap_impl (l : List Postmark) (hf : ∀ s ∈ l, s.fits) (town : ByteArray) (fuel : Nat) (hfu : 100 ≤ fuel) : GiGapBetween.P fuel l town = some (gapRes l town) := by
  have hlen := ofTown_len l town
  have hgood : ∀ x ∈ ofTown l town, goodD x := by
    intro x hx
    have h := okPm_of (ofTown_mem hx).2.1
    unfold goodD; omega
  simp only [GiGapBetween.P, marksOf_eq l hf town fuel hfu, Option.bind_some, letK, iteK_if, gapRes]
  cases hM : ofTown l town with
  | nil => simp
  | cons y ys =>
    rw [hM] at hlen hgood
    have hpm := GxSlicesSortFuncLoopExampleG01062ImplPostmarkLoopExampleG01062ImplPostmarkiGapBetween1.sortF_perm (y :: ys)
    have hst := GxSlicesSortFuncLoopExampleG01062ImplPostmarkLoopExampleG01062ImplPostmarkiGapBetween1.sortF_sorted (y :: ys)
    have hsl := GxSlicesSortFuncLoopExampleG01062ImplPostmarkLoopExampleG01062ImplPostmarkiGapBetween1.sortF_len (y :: ys)
    obtain ⟨m, hm⟩ : ∃ m, GxSlicesSortFuncLoopExampleG01062ImplPostmarkLoopExampleG01062ImplPostmarkiGapBetween1.sortF (y :: ys) = m := ⟨_, rfl⟩
    rw [hm] at hpm hst hsl
    cases m with
    | nil => simp at hsl
    | cons a r =>
      have hP : GxSlicesSortFuncLoopExampleG01062ImplPostmarkLoopExampleG01062ImplPostmarkiGapBetween1.P (y :: ys) = some (a :: r) := by
        unfold GxSlicesSortFuncLoopExampleG01062ImplPostmarkLoopExampleG01062ImplPostmarkiGapBetween1.P
        rw [if_pos ⟨by simp, hlen⟩, hm]
      have hi0 : idx (a :: r) 0 = some a := rfl
      have hgm : ∀ x ∈ a :: r, goodD x := fun x hx => hgood x (hpm.mem_iff.1 hx)
      have hga := hgm a List.mem_cons_self
      unfold goodD at hga
      have hr12 : r.length ≤ 12 := by have := hpm.length_eq; simp only [List.length_cons] at this hlen; omega
      have key := gap_sorted hgood hpm hst
      have hnz : ¬ ((y :: ys).length : Int) = 0 := by simp; omega
      rw [if_neg (by simpa using hnz)]
      simp only [hP, hi0, Option.bind_some, unPostmark]
      rw [guardK_pos (by simp; omega), show List.drop (Int.toNat 1) (a :: r) = r from rfl]
      rw [fold_cnt (g := swI) (J := fun s => 0 ≤ s.1 ∧ s.1 ≤ s.2 ∧ 0 ≤ s.2 ∧ s.2 ≤ 4000)]
      · obtain ⟨⟨u, v⟩, huv⟩ : ∃ z, r.foldl swI (0, a.last) = z := ⟨_, rfl⟩
        rw [huv] at key ⊢
        dsimp only at key
        simp only [GiGapBetween.e0, unp2, key]
        simp
      · rintro k x ⟨u, v⟩ nx hx ⟨j1, j2, j3, j4⟩
        have hgx := hgm x (List.mem_cons_of_mem _ (List.mem_of_getElem? hx))
        unfold goodD at hgx
        dsimp only at j1 j2 j3 j4
        have w1 := wrap_in (x := x.first - v) (by omega) (by omega)
        have w2 := wrap_in (x := x.first - v - 1) (by omega) (by omega)
        have w3 := wrap_in (x := u + max (x.first - v - 1) 0) (by omega) (by omega)
        refine ⟨?_, ?_⟩
        · simp only [GiGapBetween.l0, unp2, letK, idx_nat, hx, Option.bind_some, unPostmark, w1, w2, w3, appK, swI]
        · unfold swI; dsimp only; omega
      · dsimp only; omega
theorem foldl_or {α : Type} (p : α → Bool) : ∀ (l : List α) (b : Bool), l.foldl (fun s x => s || p x) b = (b || l.any p) := by
  intro l
  induction l with
  | nil => intro b; simp
  | cons a l ih => intro b; rw [List.foldl_cons, ih, List.any_cons, Bool.or_assoc]
theorem cov_any {l : List Postmark} (hok : ∀ x ∈ l, okPm x = true) (town : ByteArray) (d : Nat) : (l.any fun x => ofT town x && usedB (d : Int) x) = covB ((l.filter (ofT town)).map pr) d := by
  unfold covB
  rw [Bool.eq_iff_iff, List.any_eq_true, List.any_eq_true]
  constructor
  · rintro ⟨x, hx, hp⟩
    simp only [Bool.and_eq_true] at hp
    have h := okPm_of (hok x hx)
    have hu := inB_of hp.2
    exact ⟨pr x, List.mem_map.2 ⟨x, List.mem_filter.2 ⟨hx, hp.1⟩, rfl⟩, by unfold pr; simp; omega⟩
  · rintro ⟨q, hq, hp⟩
    obtain ⟨x, hx, rfl⟩ := List.mem_map.1 hq
    rw [List.mem_filter] at hx
    have h := okPm_of (hok x hx.1)
    refine ⟨x, hx.1, ?_⟩
    unfold pr at hp
    simp only [Bool.and_eq_true, decide_eq_true_eq] at hp
    rw [hx.2, Bool.true_and]
    unfold usedB inB
    simp; omega
theorem gap_spec (fuel : Nat) (hfu : 5000 ≤ fuel) (l : List Postmark) (hf : ∀ s ∈ l, s.fits) (hl : l.length ≤ 9223372036854775807) (town : ByteArray) (hz : town.size ≤ 9223372036854775807) : GsGapBetween.P fuel l town = some (gapRes l town) := by
  simp only [GsGapBetween.P, l11Good_eq fuel (by omega) l hf hl, l2Word_eq town hz, Option.bind_some, letK, joinK, appK, iteK_if]
  cases hc : okPms l with
  | false => simp [gapRes, ofTown, hc]
  | true =>
    cases hw : wordB town with
    | false => simp [gapRes, ofTown_word hw]
    | true =>
      have hok : ∀ x ∈ l, okPm x = true := fun x hx => pms_mem hc hx
      have hM : ofTown l town = l.filter (ofT town) := by unfold ofTown; rw [if_pos hc]
      have hgood : ∀ x ∈ ofTown l town, goodD x := by
        intro x hx
        have h := okPm_of (ofTown_mem hx).2.1
        unfold goodD; omega
      simp only [Bool.not_true, Bool.false_eq_true, if_false]
      rw [fold_cnt (g := fun s x => if ofT town x = true then flStep s x else s) (J := fun _ => True)]
      · have hfold : l.foldl (fun s x => if ofT town x = true then flStep s x else s) (4000, -1) = fl (ofTown l town) := by
          rw [hM]; unfold fl; rw [List.foldl_filter]
        rw [hfold]
        simp only [GsGapBetween.e0, unp2, letK, iteK_if, gapRes]
        cases hMM : ofTown l town with
        | nil => simp [fl]
        | cons y ys =>
          rw [← hMM]
          have hne : ofTown l town ≠ [] := by rw [hMM]; simp
          obtain ⟨f1, ⟨u, hu, hu2⟩, f3, ⟨v, hv, hv2⟩⟩ := fl_facts hgood hne
          have gu := hgood u hu
          have gv := hgood v hv
          unfold goodD at gu gv
          have hge : ¬ (fl (ofTown l town)).2 < 0 := by omega
          have hle := f3 u hu
          rw [if_neg (by simpa using hge)]
          have hemp : (ofTown l town).isEmpty = false := by rw [hMM]; rfl
          rw [hemp]
          simp only [Bool.false_eq_true, if_false]
          refine lp_is (n := (fl (ofTown l town)).2.toNat + 1 - (fl (ofTown l town)).1.toNat) _ (fun k (s : Int × Int) => s = ((cntN (fun i => !covB ((ofTown l town).map pr) ((fl (ofTown l town)).1.toNat + i)) k : Int), (fl (ofTown l town)).1 + (k : Int))) ?_ ?_ fuel 0 _ (by omega) (by omega) (by simp [cntN])
          · rintro k s nx hk rfl hn
            have hcl := cntN_le (fun i => !covB ((ofTown l town).map pr) ((fl (ofTown l town)).1.toNat + i)) k
            have w1 := wrap_in (x := (fl (ofTown l town)).1 + (k : Int) + 1) (by omega) (by omega)
            have w2 := wrap_in (x := (cntN (fun i => !covB ((ofTown l town).map pr) ((fl (ofTown l town)).1.toNat + i)) k : Int) + 1) (by omega) (by omega)
            have hday : (fl (ofTown l town)).1 + (k : Int) = (((fl (ofTown l town)).1.toNat + k : Nat) : Int) := by omega
            simp only [GsGapBetween.l1, unp2, letK, iteK_if]
            rw [if_pos (by simp; omega)]
            rw [fold_cnt (g := fun s x => s || (ofT town x && usedB ((fl (ofTown l town)).1 + (k : Int)) x)) (J := fun _ => True)]
            · rw [foldl_or, Bool.false_or, hday, cov_any hok, ← hM, ← hday]
              simp only [GsGapBetween.e2, letK, iteK_if, w1, w2, appK]
              have hcs := cntN_succ (fun i => !covB ((ofTown l town).map pr) ((fl (ofTown l town)).1.toNat + i)) k
              cases hcv : covB ((ofTown l town).map pr) ((fl (ofTown l town)).1.toNat + k) with
              | true =>
                simp only [Bool.not_true, Bool.false_eq_true, if_false]
                refine hn _ ?_
                rw [hcs]
                simp only [hcv, Bool.not_true, Bool.false_eq_true, if_false]
                rw [Prod.mk.injEq]; omega
              | false =>
                simp only [Bool.not_false, if_true]
                refine hn _ ?_
                rw [hcs]
                simp only [hcv, Bool.not_false, if_true]
                rw [Prod.mk.injEq]; omega
            · intro k2 x s nx2 hx _
              refine ⟨?_, trivial⟩
              simp only [GsGapBetween.l2, letK, joinK, appK, iteK_if, idx_nat, hx, Option.bind_some, unPostmark, used_spec, eq_list]
              have ho : decide (x.town = town) = ofT town x := rfl
              rw [ho]
              cases s <;> cases ofT town x <;> simp
            · trivial
          · rintro s nx rfl
            simp only [GsGapBetween.l1, unp2, letK, iteK_if, appK, GsGapBetween.e1]
            rw [if_neg (by simp; omega)]
            rfl
      · intro k x s nx hx _
        refine ⟨?_, trivial⟩
        obtain ⟨u, v⟩ := s
        simp only [GsGapBetween.l0, unp2, letK, appK, iteK_if, idx_nat, hx, Option.bind_some, unPostmark, least_eq, Go.Proofs.YtgimcnpkngpmiaaGreatDoor.Q11Help.most_eq, eq_list]
        have ho : decide (x.town = town) = ofT town x := rfl
        rw [ho]
        cases ofT town x <;> simp [flStep]
      · trivial
end Go.Proofs.YtgimcnpkngpmiaaGreatDoor.Q11Gap

/- Chapter 11: postmarks: the plain functions of the program and of the reference agree, and the laws answer true. (Q11Extend) No condition but those of each theorem. -/
namespace Go.Proofs.YtgimcnpkngpmiaaGreatDoor.Q11Extend
set_option linter.unusedVariables false
set_option linter.unusedSimpArgs false
open Go.RowKit
open Go.Proofs.YtgimcnpkngpmiaaGreatDoor.GoP Go.Proofs.YtgimcnpkngpmiaaGreatDoor.PlainStamp Go.Proofs.YtgimcnpkngpmiaaGreatDoor.QBase Go.Proofs.YtgimcnpkngpmiaaGreatDoor.Q11Help Go.Proofs.YtgimcnpkngpmiaaGreatDoor.Q11Find Go.Proofs.YtgimcnpkngpmiaaGreatDoor.QCount Go.Proofs.YtgimcnpkngpmiaaGreatDoor.QOrd Go.Proofs.YtgimcnpkngpmiaaGreatDoor.Q11List Go.Proofs.YtgimcnpkngpmiaaGreatDoor.Q11Mark Go.Proofs.YtgimcnpkngpmiaaGreatDoor.QUp Go.Proofs.YtgimcnpkngpmiaaGreatDoor.QLoop Go.Proofs.YtgimcnpkngpmiaaGreatDoor.PPostmark

def extR (l : List Postmark) (id day : Int) : List Postmark × Int × Bool := if okPms l = true then (match fnd l id with | none => ([], 0, false) | some (i, x) => if inB day 0 4000 = true then (l.set i ⟨x.id, x.town, x.kind_, min x.first day, max x.last day, x.lost⟩, max 0 (x.first - day) + max 0 (day - x.last), true) else ([], 0, false)) else ([], 0, false)
theorem ext_impl (l : List Postmark) (hf : ∀ s ∈ l, s.fits) (id day : Int) : GiExtendUse.P l id day = some (extR l id day) := by
  simp only [GiExtendUse.P, indexOf_eq l hf, isDay_eq, Option.bind_some, letK, joinK, appK, iteK_if, extR]
  cases hc : okPms l with
  | false => simp
  | true =>
    have h12 : l.length ≤ 12 := upL_len hc
    simp only [if_true]
    cases ha : fnd l id with
    | none => simp [(fnd_none ha).1]
    | some p =>
      obtain ⟨i, x⟩ := p
      obtain ⟨e1, hx, _, hil⟩ := fnd_some ha
      have hnx : ¬ ((i : Int) < 0) := by omega
      have hok := okPm_of (pms_mem hc (List.mem_of_getElem? hx))
      cases hd : inB day 0 4000 with
      | false => simp [e1, hnx]
      | true =>
        have hd' := inB_of hd
        have hw1 := wrap_in (x := max x.last day - min x.first day) (by omega) (by omega)
        have hw2 := wrap_in (x := x.last - x.first) (by omega) (by omega)
        have hw3 := wrap_in (x := max x.last day - min x.first day - (x.last - x.first)) (by omega) (by omega)
        simp only [e1, decide_eq_false hnx, Bool.not_true, Bool.false_eq_true, if_false, if_true, idx_nat, hx, Option.bind_some, unPostmark, clone_eq (show l.length ≤ 1000000 by omega), hw1, hw2, hw3, Int.toNat_natCast]
        congr 3; omega
theorem ext_spec (fuel : Nat) (hfu : 100 ≤ fuel) (l : List Postmark) (hf : ∀ s ∈ l, s.fits) (hl : l.length ≤ 9223372036854775807) (id day : Int) : GsExtendUse.P fuel l id day = some (extR l id day) := by
  simp only [GsExtendUse.P, l11Good_eq fuel hfu l hf hl, l11Find_eq, l2Day_eq, Option.bind_some, letK, joinK, appK, iteK_if, extR, List.nil_append]
  cases hc : okPms l with
  | false => simp
  | true =>
    have h12 : l.length ≤ 12 := upL_len hc
    cases ha : fnd l id with
    | none => simp [(fnd_none ha).1]
    | some p =>
      obtain ⟨i, x⟩ := p
      obtain ⟨e1, hx, _, hil⟩ := fnd_some ha
      have hnx : ¬ ((i : Int) < 0) := by omega
      have hok := okPm_of (pms_mem hc (List.mem_of_getElem? hx))
      cases hd : inB day 0 4000 with
      | false => simp [e1, hnx]
      | true =>
        have hd' := inB_of hd
        have hw1 := wrap_in (x := x.first - day) (by omega) (by omega)
        have hw2 := wrap_in (x := day - x.last) (by omega) (by omega)
        have hw3 := wrap_in (x := max 0 (x.first - day) + max 0 (day - x.last)) (by omega) (by omega)
        simp only [e1, decide_eq_false hnx, Bool.not_true, Bool.false_eq_true, if_false, if_true]
        rw [guardK_pos (by simp; omega)]
        simp only [idx_nat, hx, Option.bind_some, unPostmark, hw1, hw2, Go.Proofs.YtgimcnpkngpmiaaGreatDoor.Q11Help.most_eq, least_eq, hw3, Int.toNat_natCast]
end Go.Proofs.YtgimcnpkngpmiaaGreatDoor.Q11Extend

