/- Texts on which the proofs of several laws stand, one behind the other (15 of 17). No condition of their own. -/
import Derived.Test.YtihibckijdfidaaGreatX12P14
import Derived.IntWalk
import Derived.Test.YtihibckijdfidaaGreatX12P9
import Derived.Test.YtihibckijdfidaaGreatX12P1
import Derived.Test.YtihibckijdfidaaGreatX12P5
import Derived.Test.YtihibckijdfidaaGreatX12P6
import Derived.Test.YtihibckijdfidaaGreatX12P13
import Derived.Test.YtihibckijdfidaaGreatX12P12
import Derived.Test.YtihibckijdfidaaGreatX12P10
import Derived.Test.YtihibckijdfidaaGreatX12P7
import Derived.Test.YtihibckijdfidaaGreatX12P8
import Derived.Test.YtihibckijdfidaaGreatX12P11
set_option linter.unusedVariables false
set_option linter.unusedSimpArgs false
namespace Go.Proofs.YtihibckijdfidaaGreat.QLoop
open Go.RowKit
open Go.Proofs.YtihibckijdfidaaGreat.GoP Go.Proofs.YtihibckijdfidaaGreat.QBase

theorem cnt_ex {σ ρ : Type} {f : Nat → σ → (σ → Option ρ) → (σ → Option ρ) → Option ρ} {fin : σ → Option ρ} {Q : ρ → Prop} {n : Nat} (I : Nat → σ → Prop)
    (step : ∀ k s nx, k < n → I k s → (∀ s', I (k + 1) s' → ∃ r, nx s' = some r ∧ Q r) → ∃ r, f k s nx fin = some r ∧ Q r) (done : ∀ s, I n s → ∃ r, fin s = some r ∧ Q r) :
    ∀ m k s, k + m = n → I k s → ∃ r, cntK f m k s fin = some r ∧ Q r := by
  intro m
  induction m with
  | zero => intro k s hk hI; obtain rfl : k = n := by omega
            exact done s hI
  | succ m ih => intro k s hk hI; exact step k s _ (by omega) hI (fun s' h' => ih (k + 1) s' (by omega) h')
theorem cnt_is {σ ρ : Type} {f : Nat → σ → (σ → Option ρ) → (σ → Option ρ) → Option ρ} {fin : σ → Option ρ} {n : Nat} (r : ρ) (I : Nat → σ → Prop)
    (step : ∀ k s nx, k < n → I k s → (∀ s', I (k + 1) s' → nx s' = some r) → f k s nx fin = some r) (done : ∀ s, I n s → fin s = some r) (s : σ) (h0 : I 0 s) : cntK f n 0 s fin = some r := by
  obtain ⟨r', h, rfl⟩ := cnt_ex (Q := fun x => x = r) I (fun k s nx hk hI hn => ⟨r, step k s nx hk hI (fun s' h' => by obtain ⟨_, h, rfl⟩ := hn s' h'; exact h), rfl⟩) (fun s h => ⟨r, done s h, rfl⟩) n 0 s (by omega) h0
  exact h
theorem at_lt {α : Type} {l : List α} {k : Nat} (h : k < l.length) : ∃ x, l[k]? = some x ∧ idx l (k : Int) = some x := ⟨l[k], List.getElem?_eq_getElem h, by rw [idx_nat, List.getElem?_eq_getElem h]⟩
theorem idx_pred {α : Type} {l : List α} {k : Nat} {x : α} (hk : 0 < k) (hb : k ≤ 9223372036854775807) (h : l[k - 1]? = some x) : idx l (IntKind.i64.wrap ((k : Int) - 1)) = some x := by
  rw [IntWalk.i64_in _ (by omega), show ((k : Int) - 1) = ((k - 1 : Nat) : Int) by omega, idx_nat, h]
theorem take_next {α : Type} {l : List α} {k : Nat} {x : α} (h : l[k]? = some x) : l.take (k + 1) = l.take k ++ [x] := by
  obtain ⟨hk, e⟩ := List.getElem?_eq_some_iff.1 h
  rw [List.take_succ_eq_append_getElem hk, e]
theorem wrap_in {x : Int} (h1 : -9223372036854775808 ≤ x) (h2 : x ≤ 9223372036854775807) : IntKind.i64.wrap x = x := IntWalk.i64_in _ (by omega)

/-- valid, and above the one ahead of it -/
def upAt {α : Type} (ok : α → Bool) (id : α → Int) (l : List α) (k : Nat) : Bool :=
  match l[k]? with
  | none => true
  | some s => ok s && (decide (k = 0) || (match l[k-1]? with | none => true | some r => decide (id r < id s)))
def upTo {α : Type} (ok : α → Bool) (id : α → Int) (l : List α) (k : Nat) : Bool := (List.range k).all (upAt ok id l)
/-- a list of at most m valid records with rising ids -/
def upL {α : Type} (m : Nat) (ok : α → Bool) (id : α → Int) (l : List α) : Bool := decide (l.length ≤ m) && upTo ok id l l.length
end Go.Proofs.YtihibckijdfidaaGreat.QLoop

namespace Go.Proofs.YtihibckijdfidaaGreat.Q12Bits
open Go.RowKit
open Go.Proofs.YtihibckijdfidaaGreat.GoP Go.Proofs.YtihibckijdfidaaGreat.PlainStamp Go.Proofs.YtihibckijdfidaaGreat.QBase Go.Proofs.YtihibckijdfidaaGreat.QLoop

/-- whether a change has one of the numbers 1, 2, 4, 8 -/
def hb (c : Int) (i : Nat) : Bool := c / 2 ^ i % 2 == 1
theorem ch16 {p : Int → Bool} (h : (List.range 16).all (fun n => p (n : Int)) = true) {c : Int} (h0 : 0 ≤ c ∧ c ≤ 15) : p c = true := by
  have := List.all_eq_true.1 h c.toNat (List.mem_range.2 (by omega))
  rwa [Int.toNat_of_nonneg h0.1] at this
def hasOk (c : Int) : Bool := decide (GsL12Has.P c 1 = some (hb c 0)) && decide (GsL12Has.P c 2 = some (hb c 1)) && decide (GsL12Has.P c 4 = some (hb c 2)) && decide (GsL12Has.P c 8 = some (hb c 3))
theorem hasOk_yes : (List.range 16).all (fun n => hasOk (n : Int)) = true := by kernel_rfl
theorem has_eq {c : Int} (h : 0 ≤ c ∧ c ≤ 15) : GsL12Has.P c 1 = some (hb c 0) ∧ GsL12Has.P c 2 = some (hb c 1) ∧ GsL12Has.P c 4 = some (hb c 2) ∧ GsL12Has.P c 8 = some (hb c 3) := by
  have := ch16 hasOk_yes h
  simp only [hasOk, Bool.and_eq_true, decide_eq_true_eq] at this
  exact ⟨this.1.1.1, this.1.1.2, this.1.2, this.2⟩
def andOk (c : Int) : Bool := ((bits .and IntKind.i64 (c / 2 ^ 0) 1 == 1) == hb c 0) && ((bits .and IntKind.i64 (c / 2 ^ 1) 1 == 1) == hb c 1) && ((bits .and IntKind.i64 (c / 2 ^ 2) 1 == 1) == hb c 2) && ((bits .and IntKind.i64 (c / 2 ^ 3) 1 == 1) == hb c 3)
  && ((bits .and IntKind.i64 c 1 == 0) == !hb c 0) && ((bits .and IntKind.i64 c 2 == 0) == !hb c 1) && ((bits .and IntKind.i64 c 4 == 0) == !hb c 2) && ((bits .and IntKind.i64 c 8 != 0) == hb c 3)
theorem andOk_yes : (List.range 16).all (fun n => andOk (n : Int)) = true := by kernel_rfl
theorem shr_eq {c : Int} (h : 0 ≤ c ∧ c ≤ 15) : (bits .and IntKind.i64 (c / 2 ^ 0) 1 == 1) = hb c 0 ∧ (bits .and IntKind.i64 (c / 2 ^ 1) 1 == 1) = hb c 1 ∧ (bits .and IntKind.i64 (c / 2 ^ 2) 1 == 1) = hb c 2 ∧ (bits .and IntKind.i64 (c / 2 ^ 3) 1 == 1) = hb c 3 := by
  have := ch16 andOk_yes h
  unfold andOk at this
  rw [Bool.and_eq_true, Bool.and_eq_true, Bool.and_eq_true, Bool.and_eq_true, Bool.and_eq_true, Bool.and_eq_true, Bool.and_eq_true] at this
  obtain ⟨⟨⟨⟨⟨⟨⟨h0, h1⟩, h2⟩, h3⟩, _⟩, _⟩, _⟩, _⟩ := this
  exact ⟨eq_of_beq h0, eq_of_beq h1, eq_of_beq h2, eq_of_beq h3⟩
theorem and_eq {c : Int} (h : 0 ≤ c ∧ c ≤ 15) : (bits .and IntKind.i64 c 1 == 0) = (!hb c 0) ∧ (bits .and IntKind.i64 c 2 == 0) = (!hb c 1) ∧ (bits .and IntKind.i64 c 4 == 0) = (!hb c 2) ∧ (bits .and IntKind.i64 c 8 != 0) = hb c 3 := by
  have := ch16 andOk_yes h
  unfold andOk at this
  rw [Bool.and_eq_true, Bool.and_eq_true, Bool.and_eq_true, Bool.and_eq_true] at this
  obtain ⟨⟨⟨⟨_, h1⟩, h2⟩, h3⟩, h4⟩ := this
  exact ⟨eq_of_beq h1, eq_of_beq h2, eq_of_beq h3, eq_of_beq h4⟩
def onesV (c : Int) : Int := (if hb c 0 = true then 1 else 0) + (if hb c 1 = true then 1 else 0) + (if hb c 2 = true then 1 else 0) + (if hb c 3 = true then 1 else 0)
def onesOk (c : Int) : Bool := decide (GxMathBitsOnesCount.P (IntKind.u64.wrap c) = some (onesV c))
theorem onesOk_yes : (List.range 16).all (fun n => onesOk (n : Int)) = true := by kernel_rfl
theorem ones_eq {c : Int} (h : 0 ≤ c ∧ c ≤ 15) : GxMathBitsOnesCount.P (IntKind.u64.wrap c) = some (onesV c) := of_decide_eq_true (ch16 onesOk_yes h)
def and2 (m c : Int) : Bool := decide (0 ≤ bits .and IntKind.i64 m c) && decide (bits .and IntKind.i64 m c ≤ 15) && (hb (bits .and IntKind.i64 m c) 0 == (hb m 0 && hb c 0)) && (hb (bits .and IntKind.i64 m c) 1 == (hb m 1 && hb c 1)) && (hb (bits .and IntKind.i64 m c) 2 == (hb m 2 && hb c 2)) && (hb (bits .and IntKind.i64 m c) 3 == (hb m 3 && hb c 3))
theorem and2_yes : (List.range 16).all (fun n => (List.range 16).all (fun k => and2 (n : Int) (k : Int))) = true := by kernel_rfl
theorem both_eq {m c : Int} (hm : 0 ≤ m ∧ m ≤ 15) (hc : 0 ≤ c ∧ c ≤ 15) : (0 ≤ bits .and IntKind.i64 m c ∧ bits .and IntKind.i64 m c ≤ 15) ∧ hb (bits .and IntKind.i64 m c) 0 = (hb m 0 && hb c 0) ∧ hb (bits .and IntKind.i64 m c) 1 = (hb m 1 && hb c 1) ∧ hb (bits .and IntKind.i64 m c) 2 = (hb m 2 && hb c 2) ∧ hb (bits .and IntKind.i64 m c) 3 = (hb m 3 && hb c 3) := by
  have h1 := ch16 (p := fun m => (List.range 16).all (fun k => and2 m (k : Int))) and2_yes hm
  have h2 := ch16 (p := fun c => and2 m c) h1 hc
  unfold and2 at h2
  rw [Bool.and_eq_true, Bool.and_eq_true, Bool.and_eq_true, Bool.and_eq_true, Bool.and_eq_true] at h2
  obtain ⟨⟨⟨⟨⟨h1, h2⟩, h3⟩, h4⟩, h5⟩, h6⟩ := h2
  exact ⟨⟨of_decide_eq_true h1, of_decide_eq_true h2⟩, eq_of_beq h3, eq_of_beq h4, eq_of_beq h5, eq_of_beq h6⟩
/-- the sum of some of the numbers -/
def sumB (a b c d : Bool) : Int := (if a = true then 1 else 0) + (if b = true then 2 else 0) + (if c = true then 4 else 0) + (if d = true then 8 else 0)
def sumOk (c : Int) : Bool := decide (sumB (hb c 0) (hb c 1) (hb c 2) (hb c 3) = c)
theorem sumOk_yes : (List.range 16).all (fun n => sumOk (n : Int)) = true := by kernel_rfl
theorem sum_hb {c : Int} (h : 0 ≤ c ∧ c ≤ 15) : sumB (hb c 0) (hb c 1) (hb c 2) (hb c 3) = c := of_decide_eq_true (ch16 sumOk_yes h)
theorem hb_sum (a b c d : Bool) : hb (sumB a b c d) 0 = a ∧ hb (sumB a b c d) 1 = b ∧ hb (sumB a b c d) 2 = c ∧ hb (sumB a b c d) 3 = d ∧ 0 ≤ sumB a b c d ∧ sumB a b c d ≤ 15 := by
  cases a <;> cases b <;> cases c <;> cases d <;> decide
end Go.Proofs.YtihibckijdfidaaGreat.Q12Bits

namespace Go.Proofs.YtihibckijdfidaaGreat.Q8Rate
open Go.RowKit
open Go.Proofs.YtihibckijdfidaaGreat.GoP Go.Proofs.YtihibckijdfidaaGreat.PlainStamp Go.Proofs.YtihibckijdfidaaGreat.QBase Go.Proofs.YtihibckijdfidaaGreat.QLoop Go.Proofs.YtihibckijdfidaaGreat.PRate Go.Proofs.YtihibckijdfidaaGreat.PrateClass

theorem isZone_eq (n : Int) : GiIsZone.P n = some (inB n 0 9) := by simp only [GiIsZone.P, within_eq, Option.bind_some]
theorem isWeight_eq (n : Int) : GiIsWeight.P n = some (inB n 1 2000) := by simp only [GiIsWeight.P, within_eq, Option.bind_some]
theorem isRateCents_eq (n : Int) : GiIsRateCents.P n = some (inB n 1 9999) := by simp only [GiIsRateCents.P, within_eq, Option.bind_some]
theorem isDay_eq (n : Int) : GiIsDay.P n = some (inB n 0 4000) := by simp only [GiIsDay.P, within_eq, Option.bind_some]
theorem l8Zone_eq (n : Int) : GsL8Zone.P n = some (inB n 0 9) := by simp only [GsL8Zone.P, l1In_eq, Option.bind_some]
theorem l8Grams_eq (n : Int) : GsL8Grams.P n = some (inB n 1 2000) := by simp only [GsL8Grams.P, l1In_eq, Option.bind_some]
theorem l8Cents_eq (n : Int) : GsL8Cents.P n = some (inB n 1 9999) := by simp only [GsL8Cents.P, l1In_eq, Option.bind_some]
theorem l2Day_eq (n : Int) : GsL2Day.P n = some (inB n 0 4000) := by simp only [GsL2Day.P, l1In_eq, Option.bind_some]
def okR (x : Rate) : Bool := inB x.zone 0 9 && inB x.grams 1 2000 && inB x.cents 1 9999 && inB x.from_ 0 4000 && inB x.until_ 0 4000 && decide (x.from_ ≤ x.until_)
theorem isRate_eq (x : Rate) : GiIsRate.P x = some (okR x) := by
  obtain ⟨a, b, c, d, e⟩ := x
  simp only [GiIsRate.P, unRate, isZone_eq, isWeight_eq, isRateCents_eq, isDay_eq, Option.bind_some, letK, joinK, appK, iteK_if, okR]
  cases inB a 0 9 <;> cases inB b 1 2000 <;> cases inB e 1 9999 <;> cases inB c 0 4000 <;> cases inB d 0 4000 <;> simp
theorem l8One_eq (x : Rate) : GsL8One.P x = some (okR x) := by
  obtain ⟨a, b, c, d, e⟩ := x
  have hx : (inB d 0 4000 && inB c 0 d) = (inB c 0 4000 && inB d 0 4000 && decide (c ≤ d)) := by unfold inB; rw [Bool.eq_iff_iff]; simp; omega
  have hy : okR ⟨a, b, c, d, e⟩ = (inB a 0 9 && inB b 1 2000 && (inB d 0 4000 && inB c 0 d) && inB e 1 9999) := by
    rw [hx]; unfold okR
    cases inB a 0 9 <;> cases inB b 1 2000 <;> cases inB e 1 9999 <;> simp
  rw [hy]
  simp only [GsL8One.P, unRate, l8Zone_eq, l8Grams_eq, l8Cents_eq, l2Day_eq, l1In_eq, Option.bind_some, letK, joinK, appK, iteK_if]
  cases inB a 0 9 <;> cases inB b 1 2000 <;> cases inB d 0 4000 <;> cases inB c 0 d <;> simp
theorem okR_of {x : Rate} (h : okR x = true) : (0 ≤ x.zone ∧ x.zone ≤ 9) ∧ (1 ≤ x.grams ∧ x.grams ≤ 2000) ∧ (1 ≤ x.cents ∧ x.cents ≤ 9999) ∧ (0 ≤ x.from_ ∧ x.from_ ≤ x.until_ ∧ x.until_ ≤ 4000) := by
  unfold okR at h
  simp only [Bool.and_eq_true, decide_eq_true_eq] at h
  have h1 := inB_of h.1.1.1.1.1
  have h2 := inB_of h.1.1.1.1.2
  have h3 := inB_of h.1.1.1.2
  have h4 := inB_of h.1.1.2
  have h5 := inB_of h.1.2
  omega
def linkR (a b : Rate) : Bool := if a.zone = b.zone ∧ a.grams = b.grams then decide (a.until_ < b.from_) else decide (a.zone < b.zone ∨ a.zone = b.zone ∧ a.grams < b.grams)
theorem compare_eq (x y : Int) : GxCmpCompareInt.P x y = some (if x < y then -1 else if y < x then 1 else 0) := by
  simp only [GxCmpCompareInt.P, GxCmpIsNaNInt.P, Option.bind_some, letK, iteK_if]
  by_cases h : x < y <;> by_cases h2 : y < x <;> simp [h, h2]
theorem or_eq (a b : Int) : GxCmpOrInt.P [a, b] = some (if a = 0 then b else a) := by
  have h0 : idx [a, b] ((0 : Nat) : Int) = some a := rfl
  have h1 : idx [a, b] ((1 : Nat) : Int) = some b := rfl
  show cntK (GxCmpOrInt.l0 [a, b]) 2 0 () GxCmpOrInt.e0 = _
  simp only [cntK, GxCmpOrInt.l0, h0, h1, Option.bind_some, letK, iteK_if, appK, GxCmpOrInt.e0, Nat.zero_add]
  by_cases ha : a = 0 <;> by_cases hb : b = 0 <;> simp [ha, hb]
theorem canFollow_eq (b a : Rate) : GiCanFollow.P b a = some (linkR a b) := by
  obtain ⟨z, g, f, u, c⟩ := b
  obtain ⟨z2, g2, f2, u2, c2⟩ := a
  simp only [GiCanFollow.P, unRate, unrateClass, GiClassOf.P, Option.bind_some, letK, iteK_if, compare_eq, or_eq, linkR]
  by_cases h1 : z = z2
  · subst h1
    by_cases h2 : g = g2
    · subst h2; simp
    · have h3 : ¬ g2 = g := fun h => h2 h.symm
      by_cases h4 : g2 < g
      · simp [h2, h3, h4]
      · by_cases h5 : g < g2
        · simp [h2, h3, h4, h5]
        · omega
  · have h3 : ¬ z2 = z := fun h => h1 h.symm
    by_cases h4 : z2 < z
    · simp [h1, h3, h4]
    · by_cases h5 : z < z2
      · simp [h1, h3, h4, h5]
      · omega
def codeR (x : Rate) : Int := (10000 * x.zone + x.grams) * 10000 + x.from_
theorem l8Code_eq {x : Rate} (h : okR x = true) : GsL8Code.P x = some (codeR x) := by
  have h1 := okR_of h
  obtain ⟨a, b, c, d, e⟩ := x
  dsimp only at h1
  simp only [GsL8Code.P, unRate, letK, codeR]
  rw [wrap_in (x := 10000 * a) (by omega) (by omega), wrap_in (x := 10000 * a + b) (by omega) (by omega), wrap_in (x := (10000 * a + b) * 10000) (by omega) (by omega), wrap_in (by omega) (by omega)]
theorem link_code {a b : Rate} (ha : okR a = true) (hb : okR b = true) : linkR a b = (decide (codeR a < codeR b) && !(decide (a.zone = b.zone) && decide (a.grams = b.grams) && decide (b.from_ ≤ a.until_))) := by
  have h1 := okR_of ha
  have h2 := okR_of hb
  unfold linkR codeR
  rw [Bool.eq_iff_iff]
  split
  · simp; omega
  · simp; omega
end Go.Proofs.YtihibckijdfidaaGreat.Q8Rate

namespace Go.Proofs.YtihibckijdfidaaGreat.Q12Cost
open Go.RowKit
open Go.Proofs.YtihibckijdfidaaGreat.GoP Go.Proofs.YtihibckijdfidaaGreat.PlainStamp Go.Proofs.YtihibckijdfidaaGreat.QBase Go.Proofs.YtihibckijdfidaaGreat.Q12Bits Go.Proofs.YtihibckijdfidaaGreat.Q8Rate Go.Proofs.YtihibckijdfidaaGreat.QLoop Go.Proofs.YtihibckijdfidaaGreat.PIntA4

def okS (s : IntA4) : Bool := inB s.x0 0 1000 && inB s.x1 0 1000 && inB s.x2 0 1000 && inB s.x3 0 1000
theorem okS_of {s : IntA4} (h : okS s = true) : (0 ≤ s.x0 ∧ s.x0 ≤ 1000) ∧ (0 ≤ s.x1 ∧ s.x1 ≤ 1000) ∧ (0 ≤ s.x2 ∧ s.x2 ≤ 1000) ∧ (0 ≤ s.x3 ∧ s.x3 ≤ 1000) := by
  simp only [okS, Bool.and_eq_true] at h
  exact ⟨inB_of h.1.1.1, inB_of h.1.1.2, inB_of h.1.2, inB_of h.2⟩
theorem areCosts_eq (s : IntA4) : GiAreCosts.P s = some (okS s) := by
  obtain ⟨a, b, c, d⟩ := s
  have i0 : idx [a, b, c, d] ((0 : Nat) : Int) = some a := rfl
  have i1 : idx [a, b, c, d] ((1 : Nat) : Int) = some b := rfl
  have i2 : idx [a, b, c, d] ((2 : Nat) : Int) = some c := rfl
  have i3 : idx [a, b, c, d] ((3 : Nat) : Int) = some d := rfl
  simp only [GiAreCosts.P, unIntA4, cntK, GiAreCosts.l0, Nat.zero_add, Nat.reduceAdd, i0, i1, i2, i3, within_eq, Option.bind_some, letK, appK, iteK_if, GiAreCosts.e0, okS]
  cases inB a 0 1000 <;> cases inB b 0 1000 <;> cases inB c 0 1000 <;> cases inB d 0 1000 <;> simp
def costV (c : Int) (s : IntA4) : Int := (if hb c 0 = true then s.x0 else 0) + (if hb c 1 = true then s.x1 else 0) + (if hb c 2 = true then s.x2 else 0) + (if hb c 3 = true then s.x3 else 0)
theorem cost_ones (c : Int) : costV c ⟨1, 1, 1, 1⟩ = onesV c := rfl
theorem cost_impl {c : Int} (h : 0 ≤ c ∧ c ≤ 15) {s : IntA4} (hs : okS s = true) : GiCostOf.P c s = some (costV c s) := by
  have hr := okS_of hs
  obtain ⟨h0, h1, h2, h3⟩ := shr_eq h
  obtain ⟨a, b, d, e⟩ := s
  dsimp only at hr
  have i0 : idx [a, b, d, e] ((0 : Nat) : Int) = some a := rfl
  have i1 : idx [a, b, d, e] ((1 : Nat) : Int) = some b := rfl
  have i2 : idx [a, b, d, e] ((2 : Nat) : Int) = some d := rfl
  have i3 : idx [a, b, d, e] ((3 : Nat) : Int) = some e := rfl
  simp only [GiCostOf.P, unIntA4, cntK, GiCostOf.l0, Nat.zero_add, Nat.reduceAdd, i0, i1, i2, i3, h0, h1, h2, h3, Option.bind_some, letK, appK, iteK_if, GiCostOf.e0, costV]
  cases hb c 0 <;> cases hb c 1 <;> cases hb c 2 <;> cases hb c 3 <;> simp (disch := omega) only [wrap_in, Bool.false_eq_true, if_true, if_false] <;> (congr 1 <;> omega)
theorem cost_spec {c : Int} (h : 0 ≤ c ∧ c ≤ 15) {s : IntA4} (hs : okS s = true) : GsL12Cost.P c s = some (costV c s) := by
  have hr := okS_of hs
  obtain ⟨h0, h1, h2, h3⟩ := has_eq h
  obtain ⟨a, b, d, e⟩ := s
  dsimp only at hr
  have i0 : idx [a, b, d, e] ((0 : Nat) : Int) = some a := rfl
  have i1 : idx [a, b, d, e] ((1 : Nat) : Int) = some b := rfl
  have i2 : idx [a, b, d, e] ((2 : Nat) : Int) = some d := rfl
  have i3 : idx [a, b, d, e] ((3 : Nat) : Int) = some e := rfl
  have k0 : idx ([1, 2, 4, 8] : List Int) ((0 : Nat) : Int) = some 1 := rfl
  have k1 : idx ([1, 2, 4, 8] : List Int) ((1 : Nat) : Int) = some 2 := rfl
  have k2 : idx ([1, 2, 4, 8] : List Int) ((2 : Nat) : Int) = some 4 := rfl
  have k3 : idx ([1, 2, 4, 8] : List Int) ((3 : Nat) : Int) = some 8 := rfl
  simp only [GsL12Cost.P, unIntA4, cntK, GsL12Cost.l0, Nat.zero_add, Nat.reduceAdd, i0, i1, i2, i3, k0, k1, k2, k3, h0, h1, h2, h3, Option.bind_some, letK, appK, iteK_if, GsL12Cost.e0, costV]
  cases hb c 0 <;> cases hb c 1 <;> cases hb c 2 <;> cases hb c 3 <;> simp (disch := omega) only [wrap_in, Bool.false_eq_true, if_true, if_false] <;> (congr 1 <;> omega)
/-- a change is smaller -/
def lessV (a b : Int) : Bool := decide (onesV a < onesV b) || (onesV a == onesV b && decide (a < b))
theorem okOnes : okS ⟨1, 1, 1, 1⟩ = true := by decide
theorem smaller_eq {a b : Int} (ha : 0 ≤ a ∧ a ≤ 15) (hb : 0 ≤ b ∧ b ≤ 15) : GsL12Smaller.P a b = some (lessV a b) := by
  simp only [GsL12Smaller.P, cost_spec ha okOnes, cost_spec hb okOnes, cost_ones, Option.bind_some, letK, joinK, appK, iteK_if, lessV]
  by_cases h1 : onesV a < onesV b
  · simp [h1]
  · by_cases h2 : onesV a = onesV b <;> simp [h1, h2]
theorem compare_ch {a b : Int} (ha : 0 ≤ a ∧ a ≤ 15) (hb : 0 ≤ b ∧ b ≤ 15) : ∃ c, GiCompareChanges.P a b = some c ∧ decide (c < 0) = lessV a b := by
  simp only [GiCompareChanges.P, ones_eq ha, ones_eq hb, compare_eq, or_eq, Option.bind_some, letK, lessV]
  refine ⟨_, rfl, ?_⟩
  by_cases h1 : onesV a < onesV b
  · simp [h1]
  · by_cases h2 : onesV b < onesV a
    · have h3 : ¬ onesV a = onesV b := by omega
      simp [h1, h2, h3]
    · have h3 : onesV a = onesV b := by omega
      by_cases h4 : a < b
      · simp [h3, h4]
      · by_cases h5 : b < a <;> simp [h3, h4, h5]
/-- a change is cheaper, or as cheap and smaller -/
def lessC (s : IntA4) (a b : Int) : Bool := decide (costV a s < costV b s) || (costV a s == costV b s && lessV a b)
theorem lessC_ones (a b : Int) : lessC ⟨1, 1, 1, 1⟩ a b = lessV a b := by
  unfold lessC
  rw [cost_ones, cost_ones]
  unfold lessV
  by_cases h1 : onesV a < onesV b
  · simp [h1]
  · by_cases h2 : onesV a = onesV b <;> simp [h1, h2]
def minC (s : IntA4) (m x : Int) : Int := if lessC s x m = true then x else m
def bestC (s : IntA4) (l : List Int) : Int := match l with | [] => 0 | a :: r => r.foldl (minC s) a
theorem bestC_snoc (s : IntA4) {l : List Int} (hl : l ≠ []) (x : Int) : bestC s (l ++ [x]) = minC s (bestC s l) x := by
  cases l with
  | nil => exact absurd rfl hl
  | cons a r => simp [bestC]
theorem bestC_mem (s : IntA4) {l : List Int} (hl : l ≠ []) : bestC s l ∈ l := by
  cases l with
  | nil => exact absurd rfl hl
  | cons a r =>
    show r.foldl (minC s) a ∈ a :: r
    have key : ∀ (r : List Int) (a : Int), r.foldl (minC s) a = a ∨ r.foldl (minC s) a ∈ r := by
      intro r
      induction r with
      | nil => intro a; exact .inl rfl
      | cons x r ih =>
        intro a
        rw [List.foldl_cons]
        rcases ih (minC s a x) with h | h
        · rw [h]; unfold minC; split
          · exact .inr (by simp)
          · exact .inl rfl
        · exact .inr (List.mem_cons_of_mem _ h)
    rcases key r a with h | h
    · rw [h]; simp
    · exact List.mem_cons_of_mem _ h
end Go.Proofs.YtihibckijdfidaaGreat.Q12Cost

namespace Go.Proofs.YtihibckijdfidaaGreat.Q12Rank
open Go.RowKit
open Go.Proofs.YtihibckijdfidaaGreat.GoP Go.Proofs.YtihibckijdfidaaGreat.PlainStamp Go.Proofs.YtihibckijdfidaaGreat.QBase Go.Proofs.YtihibckijdfidaaGreat.Q12Cost Go.Proofs.YtihibckijdfidaaGreat.Q12Bits Go.Proofs.YtihibckijdfidaaGreat.Q8Rate Go.Proofs.YtihibckijdfidaaGreat.QLoop Go.Proofs.YtihibckijdfidaaGreat.PIntA4

theorem ones_range (c : Int) : 0 ≤ onesV c ∧ onesV c ≤ 4 := by
  unfold onesV
  cases hb c 0 <;> cases hb c 1 <;> cases hb c 2 <;> cases hb c 3 <;> simp
/-- a change's place in the order of costs, counts and numbers -/
def rk (s : IntA4) (c : Int) : Int := costV c s * 1000 + onesV c * 100 + c
theorem less_rk {s : IntA4} {a b : Int} (ha : 0 ≤ a ∧ a ≤ 15) (hb : 0 ≤ b ∧ b ≤ 15) : lessC s a b = decide (rk s a < rk s b) := by
  have h1 := ones_range a
  have h2 := ones_range b
  unfold lessC lessV rk
  rw [Bool.eq_iff_iff]
  simp only [Bool.or_eq_true, Bool.and_eq_true, decide_eq_true_eq, beq_iff_eq]
  omega
theorem fold_rk {s : IntA4} : ∀ (r : List Int) (a : Int), (0 ≤ a ∧ a ≤ 15) → (∀ x ∈ r, 0 ≤ x ∧ x ≤ 15) → rk s (r.foldl (minC s) a) ≤ rk s a ∧ ∀ x ∈ r, rk s (r.foldl (minC s) a) ≤ rk s x := by
  intro r
  induction r with
  | nil => intro a _ _; exact ⟨Int.le_refl _, by simp⟩
  | cons y r ih =>
    intro a ha hr
    have hy := hr y (by simp)
    have hm : 0 ≤ minC s a y ∧ minC s a y ≤ 15 := by unfold minC; split <;> assumption
    obtain ⟨h1, h2⟩ := ih (minC s a y) hm (fun x hx => hr x (List.mem_cons_of_mem _ hx))
    have h3 : rk s (minC s a y) ≤ rk s a ∧ rk s (minC s a y) ≤ rk s y := by
      unfold minC
      rw [less_rk hy ha]
      by_cases h : rk s y < rk s a
      · rw [if_pos (by simpa using h)]; omega
      · rw [if_neg (by simpa using h)]; omega
    rw [List.foldl_cons]
    refine ⟨by omega, fun x hx => ?_⟩
    rcases List.mem_cons.1 hx with rfl | hx
    · omega
    · exact h2 x hx
theorem best_rk {s : IntA4} {l : List Int} (h0 : l ≠ []) (hl : ∀ x ∈ l, 0 ≤ x ∧ x ≤ 15) : ∀ x ∈ l, rk s (bestC s l) ≤ rk s x := by
  cases l with
  | nil => exact absurd rfl h0
  | cons a r =>
    obtain ⟨h1, h2⟩ := fold_rk (s := s) r a (hl a (by simp)) (fun x hx => hl x (List.mem_cons_of_mem _ hx))
    intro x hx
    rcases List.mem_cons.1 hx with rfl | hx
    · exact h1
    · exact h2 x hx
/-- none has fewer numbers -/
theorem best_ones {l : List Int} (h0 : l ≠ []) (hl : ∀ x ∈ l, 0 ≤ x ∧ x ≤ 15) {c : Int} (hc : c ∈ l) : onesV (bestC ⟨1, 1, 1, 1⟩ l) ≤ onesV c := by
  have h1 := best_rk (s := ⟨1, 1, 1, 1⟩) h0 hl c hc
  have h2 := hl c hc
  have h3 := hl _ (bestC_mem ⟨1, 1, 1, 1⟩ h0)
  unfold rk at h1
  rw [cost_ones, cost_ones] at h1
  omega
def posOk (c : Int) : Bool := decide (onesV c = 0) == decide (c = 0)
theorem posOk_yes : (List.range 16).all (fun n => posOk (n : Int)) = true := by kernel_rfl
theorem ones_zero {c : Int} (h : 0 ≤ c ∧ c ≤ 15) : onesV c = 0 ↔ c = 0 := by
  have := ch16 posOk_yes h
  unfold posOk at this
  have := eq_of_beq this
  rw [decide_eq_decide] at this
  exact this
theorem best_zero {l : List Int} (hl : ∀ x ∈ l, 0 ≤ x ∧ x ≤ 15) (hz : (0 : Int) ∈ l) : bestC ⟨1, 1, 1, 1⟩ l = 0 := by
  have h0 : l ≠ [] := fun e => by rw [e] at hz; simp at hz
  have h1 := best_ones h0 hl hz
  have h2 := hl _ (bestC_mem ⟨1, 1, 1, 1⟩ h0)
  have h3 := ones_range (bestC ⟨1, 1, 1, 1⟩ l)
  have h4 := (ones_zero (c := 0) (by omega)).2 rfl
  exact (ones_zero h2).1 (by omega)
end Go.Proofs.YtihibckijdfidaaGreat.Q12Rank

namespace Go.Proofs.YtihibckijdfidaaGreat.Q12Find
open Go.RowKit
open Go.Proofs.YtihibckijdfidaaGreat.GoP Go.Proofs.YtihibckijdfidaaGreat.PlainStamp Go.Proofs.YtihibckijdfidaaGreat.QBase Go.Proofs.YtihibckijdfidaaGreat.QLoop

/-- the first of a list for which there is an answer -/
theorem some_loop {α β σ R : Type} {l : List α} {g : α → Option β} (s0 : σ) {f : Nat → σ → (σ → Option R) → (σ → Option R) → Option R} {fin : σ → Option R} (yes : β → Option R)
    (step : ∀ k nx x, l[k]? = some x → f k s0 nx fin = match g x with | some y => yes y | none => nx s0) : cntK f l.length 0 s0 fin = match l.findSome? g with | some y => yes y | none => fin s0 := by
  have key : ∀ m k, k + m = l.length → cntK f m k s0 fin = match (l.drop k).findSome? g with | some y => yes y | none => fin s0 := by
    intro m
    induction m with
    | zero => intro k hk; rw [List.drop_of_length_le (by omega)]; rfl
    | succ m ih =>
      intro k hk
      obtain ⟨x, hx, _⟩ := at_lt (l := l) (k := k) (by omega)
      obtain ⟨hlt, e⟩ := List.getElem?_eq_some_iff.1 hx
      show f k s0 _ fin = _
      rw [step k _ x hx, List.drop_eq_getElem_cons hlt, e, List.findSome?_cons]
      cases hp : g x with
      | some y => rfl
      | none => exact ih (k + 1) (by omega)
  exact key l.length 0 (by omega)
theorem up_ext {l m : List Int} (hl : List.Pairwise (fun a b => a < b) l) (hm : List.Pairwise (fun a b => a < b) m) (h : ∀ x, x ∈ l ↔ x ∈ m) : l = m := by
  induction l generalizing m with
  | nil =>
    cases m with
    | nil => rfl
    | cons y m => exact absurd ((h y).2 (by simp)) (by simp)
  | cons x l ih =>
    cases m with
    | nil => exact absurd ((h x).1 (by simp)) (by simp)
    | cons y m =>
      rw [List.pairwise_cons] at hl hm
      have hxy : x = y := by
        rcases List.mem_cons.1 ((h x).1 (by simp)) with h1 | h1
        · exact h1
        · rcases List.mem_cons.1 ((h y).2 (by simp)) with h2 | h2
          · exact h2.symm
          · have := hl.1 y h2; have := hm.1 x h1; omega
      subst hxy
      rw [ih hl.2 hm.2]
      intro z
      constructor
      · intro hz
        have h1 := hl.1 z hz
        rcases List.mem_cons.1 ((h z).1 (List.mem_cons_of_mem _ hz)) with h2 | h2
        · omega
        · exact h2
      · intro hz
        have h1 := hm.1 z hz
        rcases List.mem_cons.1 ((h z).2 (List.mem_cons_of_mem _ hz)) with h2 | h2
        · omega
        · exact h2
theorem fs_filter {β : Type} (l : List Int) (f : Int → Option β) : l.findSome? f = (l.filter fun x => (f x).isSome).findSome? f := by
  induction l with
  | nil => rfl
  | cons x l ih =>
    rw [List.findSome?_cons, List.filter_cons]
    cases hf : f x with
    | some y => simp [hf]
    | none => simp [ih]
/-- two rising lists that differ in nothing for which there is an answer have the same first answer -/
theorem fs_same {β : Type} {l m : List Int} (hl : List.Pairwise (fun a b => a < b) l) (hm : List.Pairwise (fun a b => a < b) m) {f : Int → Option β} (h : ∀ x, (f x).isSome = true → (x ∈ l ↔ x ∈ m)) : l.findSome? f = m.findSome? f := by
  rw [fs_filter l, fs_filter m, up_ext (hl.filter _) (hm.filter _)]
  intro x
  rw [List.mem_filter, List.mem_filter]
  constructor
  · rintro ⟨h1, h2⟩; exact ⟨(h x h2).1 h1, h2⟩
  · rintro ⟨h1, h2⟩; exact ⟨(h x h2).2 h1, h2⟩
end Go.Proofs.YtihibckijdfidaaGreat.Q12Find

namespace Go.Proofs.YtihibckijdfidaaGreat.QAll
open Go.RowKit
open Go.Proofs.YtihibckijdfidaaGreat.GoP Go.Proofs.YtihibckijdfidaaGreat.QBase Go.Proofs.YtihibckijdfidaaGreat.QLoop

/-- each number below n is good -/
def allN (n : Nat) (p : Nat → Bool) : Bool := (List.range n).all p
theorem lp_ex {σ ρ : Type} {f : σ → (σ → Option ρ) → (σ → Option ρ) → Option ρ} {fin : σ → Option ρ} {Q : ρ → Prop} {n : Nat} (I : Nat → σ → Prop)
    (step : ∀ k s nx, k < n → I k s → (∀ s', I (k + 1) s' → ∃ r, nx s' = some r ∧ Q r) → ∃ r, f s nx fin = some r ∧ Q r) (done : ∀ s nx, I n s → ∃ r, f s nx fin = some r ∧ Q r) :
    ∀ fuel k s, k ≤ n → n - k < fuel → I k s → ∃ r, loopK f fuel s fin = some r ∧ Q r := by
  intro fuel
  induction fuel with
  | zero => intro k s hk hf; omega
  | succ m ih =>
    intro k s hk hf hI
    show ∃ r, f s _ fin = some r ∧ Q r
    by_cases he : k = n
    · subst he; exact done s _ hI
    · exact step k s _ (by omega) hI (fun s' h' => ih (k + 1) s' (by omega) (by omega) h')
end Go.Proofs.YtihibckijdfidaaGreat.QAll

namespace Go.Proofs.YtihibckijdfidaaGreat.QUp
open Go.RowKit
open Go.Proofs.YtihibckijdfidaaGreat.GoP Go.Proofs.YtihibckijdfidaaGreat.QBase Go.Proofs.YtihibckijdfidaaGreat.QLoop Go.Proofs.YtihibckijdfidaaGreat.QAll

/-- a loop with fuel, from k on, by an invariant -/
theorem lp_is {σ ρ : Type} {f : σ → (σ → Option ρ) → (σ → Option ρ) → Option ρ} {fin : σ → Option ρ} {n : Nat} (r : ρ) (I : Nat → σ → Prop)
    (step : ∀ k s nx, k < n → I k s → (∀ s', I (k + 1) s' → nx s' = some r) → f s nx fin = some r) (done : ∀ s nx, I n s → f s nx fin = some r) (fuel : Nat) (k : Nat) (s : σ) (hk : k ≤ n) (hf : n - k < fuel) (hI : I k s) : loopK f fuel s fin = some r := by
  obtain ⟨r', h, rfl⟩ := lp_ex (Q := fun x => x = r) I (fun k s nx hk hI hn => ⟨r, step k s nx hk hI (fun s' h' => by obtain ⟨_, h, rfl⟩ := hn s' h'; exact h), rfl⟩) (fun s nx h => ⟨r, done s nx h, rfl⟩) fuel k s hk hf hI
  exact h
end Go.Proofs.YtihibckijdfidaaGreat.QUp

namespace Go.Proofs.YtihibckijdfidaaGreat.Q12Put
open Go.RowKit
open Go.Proofs.YtihibckijdfidaaGreat.GoP Go.Proofs.YtihibckijdfidaaGreat.PlainStamp Go.Proofs.YtihibckijdfidaaGreat.QBase Go.Proofs.YtihibckijdfidaaGreat.QUp Go.Proofs.YtihibckijdfidaaGreat.QLoop

theorem cut_at (l : List Int) (n : Int) : ∃ k, k ≤ l.length ∧ (∀ i y, i < k → l[i]? = some y → y < n) ∧ (∀ y, l[k]? = some y → n ≤ y) := by
  induction l with
  | nil => exact ⟨0, by simp, by simp, by simp⟩
  | cons x l ih =>
    by_cases hx : x < n
    · obtain ⟨k, h1, h2, h3⟩ := ih
      refine ⟨k + 1, by simp; omega, ?_, ?_⟩
      · intro i y hi hy
        cases i with
        | zero => simp at hy; omega
        | succ i => exact h2 i y (by omega) (by simpa using hy)
      · intro y hy; exact h3 y (by simpa using hy)
    · exact ⟨0, by simp, by simp, by intro y hy; simp at hy; omega⟩
theorem put_eq {fuel : Nat} {l : List Int} (hl : l.length ≤ 1000) (hu : List.Pairwise (fun a b => a < b) l) (n : Int) (hf : l.length < fuel) : ∃ m, GsL1Put.P fuel l n = some m ∧ List.Pairwise (fun a b => a < b) m ∧ (∀ x, x ∈ m ↔ x = n ∨ x ∈ l) ∧ m.length ≤ l.length + 1 := by
  obtain ⟨k, hk, hlo, hhi⟩ := cut_at l n
  have htk : ∀ x ∈ l.take k, x < n := by
    intro x hx
    obtain ⟨i, hi⟩ := List.getElem?_of_mem hx
    rw [List.getElem?_take] at hi
    split at hi
    · rename_i h; exact hlo i x h hi
    · simp at hi
  have hnext : ∀ r : List Int, GsL1Put.e0 l n (k : Int) = some r → GsL1Put.P fuel l n = some r := by
    intro r hr
    simp only [GsL1Put.P]
    refine lp_is (n := k) _ (fun i (s : Int) => s = (i : Int)) ?_ ?_ fuel 0 _ (by omega) (by omega) rfl
    · rintro i s nx hi rfl hn
      obtain ⟨x, hx, hxi⟩ := at_lt (l := l) (k := i) (by omega)
      have hlt := hlo i x hi hx
      have h1 : (i : Int) < (l.length : Int) := by omega
      simp only [GsL1Put.l0, letK, joinK, appK, iteK_if, decide_eq_true h1, if_true, hxi, Option.bind_some, decide_eq_true hlt]
      exact hn _ (by rw [wrap_in (by omega) (by omega)]; omega)
    · rintro s nx rfl
      by_cases hkl : k < l.length
      · obtain ⟨x, hx, hxi⟩ := at_lt (l := l) (k := k) hkl
        have hge := hhi x hx
        have h1 : (k : Int) < (l.length : Int) := by omega
        have h2 : ¬ x < n := by omega
        simp only [GsL1Put.l0, letK, joinK, appK, iteK_if, decide_eq_true h1, if_true, hxi, Option.bind_some, decide_eq_false h2, Bool.false_eq_true, if_false]
        exact hr
      · have h1 : ¬ (k : Int) < (l.length : Int) := by omega
        simp only [GsL1Put.l0, letK, joinK, appK, iteK_if, decide_eq_false h1, Bool.false_eq_true, if_false]
        exact hr
  have hsplit : l.take k ++ l.drop k = l := List.take_append_drop k l
  have hput : (∀ x, l[k]? = some x → x ≠ n) → ∃ m, GsL1Put.e0 l n (k : Int) = some m ∧ List.Pairwise (fun a b => a < b) m ∧ (∀ x, x ∈ m ↔ x = n ∨ x ∈ l) ∧ m.length ≤ l.length + 1 := by
    intro hne
    have hdr : ∀ x ∈ l.drop k, n < x := by
      intro x hx
      by_cases hkl : k < l.length
      · rw [List.drop_eq_getElem_cons hkl] at hx
        have h0 : l[k]? = some l[k] := List.getElem?_eq_getElem hkl
        have h1 := hhi _ h0
        have h2 := hne _ h0
        rcases List.mem_cons.1 hx with rfl | hx
        · omega
        · rw [← hsplit, List.drop_eq_getElem_cons hkl, List.pairwise_append, List.pairwise_cons] at hu
          have := hu.2.1.1 x hx
          omega
      · rw [List.drop_of_length_le (by omega)] at hx; simp at hx
    refine ⟨l.take k ++ [n] ++ l.drop k, ?_, ?_, ?_, ?_⟩
    · have h5 : (l.take k).length ≤ 1000 := by rw [List.length_take]; omega
      have h6 : (l.drop k).length ≤ 1000 := by rw [List.length_drop]; omega
      have hres : (guardK ((0 : Int) ≤ (k : Int) ∧ (k : Int) ≤ (l.length : Int)) <|
          guardK (([] : List Int).length + (List.take (Int.toNat (k : Int)) l).length ≤ 1099511627776) <|
          guardK ((([] : List Int) ++ List.take (Int.toNat (k : Int)) l).length ≤ 1099511627776) <|
          guardK ((0 : Int) ≤ (k : Int) ∧ (k : Int) ≤ (l.length : Int)) <|
          guardK ((([] : List Int) ++ List.take (Int.toNat (k : Int)) l ++ [n]).length + (List.drop (Int.toNat (k : Int)) l).length ≤ 1099511627776) <|
          some (([] : List Int) ++ List.take (Int.toNat (k : Int)) l ++ [n] ++ List.drop (Int.toNat (k : Int)) l)) = some (l.take k ++ [n] ++ l.drop k) := by
        rw [Int.toNat_natCast, guardK_pos (by omega), guardK_pos (by simp; omega), guardK_pos (by simp; omega), guardK_pos (by omega), guardK_pos (by simp only [List.nil_append, List.length_append, List.length_singleton]; omega), List.nil_append]
      by_cases hkl : k < l.length
      · obtain ⟨x, hx, hxi⟩ := at_lt (l := l) (k := k) hkl
        have h1 : (k : Int) < (l.length : Int) := by omega
        have h2 : (x == n) = false := by simpa using hne x hx
        simp only [GsL1Put.e0, letK, joinK, appK, iteK_if, decide_eq_true h1, if_true, hxi, Option.bind_some, h2, Bool.false_eq_true, if_false]
        exact hres
      · have h1 : ¬ (k : Int) < (l.length : Int) := by omega
        simp only [GsL1Put.e0, letK, joinK, appK, iteK_if, decide_eq_false h1, Bool.false_eq_true, if_false]
        exact hres
    · rw [← hsplit, List.pairwise_append] at hu
      rw [List.append_assoc, List.pairwise_append]
      refine ⟨hu.1, ?_, ?_⟩
      · rw [List.singleton_append, List.pairwise_cons]; exact ⟨hdr, hu.2.1⟩
      · intro a ha b hb
        rw [List.singleton_append, List.mem_cons] at hb
        have h1 := htk a ha
        rcases hb with rfl | hb
        · exact h1
        · have := hdr b hb; omega
    · intro x
      have hm : x ∈ l ↔ x ∈ l.take k ∨ x ∈ l.drop k := by rw [← List.mem_append, hsplit]
      rw [hm, List.mem_append, List.mem_append, List.mem_singleton]
      constructor
      · rintro ((h | h) | h)
        · exact .inr (.inl h)
        · exact .inl h
        · exact .inr (.inr h)
      · rintro (h | h | h)
        · exact .inl (.inr h)
        · exact .inl (.inl h)
        · exact .inr h
    · simp only [List.length_append, List.length_take, List.length_drop, List.length_singleton]; omega
  by_cases hin : ∃ x, l[k]? = some x ∧ x = n
  · obtain ⟨x, hx, rfl⟩ := hin
    refine ⟨l, hnext l ?_, hu, ?_, by omega⟩
    · have hkl := (List.getElem?_eq_some_iff.1 hx).1
      have hxi : idx l (k : Int) = some x := by rw [idx_nat, hx]
      have h1 : (k : Int) < (l.length : Int) := by omega
      simp only [GsL1Put.e0, letK, joinK, appK, iteK_if, decide_eq_true h1, if_true, hxi, Option.bind_some, beq_self_eq_true]
    · intro y
      constructor
      · intro h; exact .inr h
      · rintro (rfl | h)
        · exact List.mem_of_getElem? hx
        · exact h
  · obtain ⟨m, h1, h2⟩ := hput (fun x hx e => hin ⟨x, hx, e⟩)
    exact ⟨m, hnext m h1, h2⟩
end Go.Proofs.YtihibckijdfidaaGreat.Q12Put

namespace Go.Proofs.YtihibckijdfidaaGreat.QSort
open Go.RowKit
open Go.Proofs.YtihibckijdfidaaGreat.GoP Go.Proofs.YtihibckijdfidaaGreat.PlainStamp Go.Proofs.YtihibckijdfidaaGreat.QBase Go.Proofs.YtihibckijdfidaaGreat.QLoop

def sortI (l : List Int) : List Int := l.mergeSort fun x y => decide (x ≤ y)
theorem sortI_mem {l : List Int} {x : Int} : x ∈ sortI l ↔ x ∈ l := List.mem_mergeSort
theorem sortI_up (l : List Int) : List.Pairwise (fun a b => a ≤ b) (sortI l) := by
  have h := List.pairwise_mergeSort (le := fun x y : Int => decide (x ≤ y)) (fun a b c h1 h2 => by simp at *; omega) (fun a b => by simp; omega) l
  exact h.imp (fun h => by simpa using h)
def compI (l : List Int) : List Int := Lib.compact l
theorem comp_key (l : List Int) (hs : List.Pairwise (fun a b => a ≤ b) l) : ∀ m, m ≤ l.length → List.Pairwise (fun a b => a < b) (Lib.compactUpTo l.toArray m) ∧ (∀ x, x ∈ Lib.compactUpTo l.toArray m ↔ ∃ j, j < m ∧ l[j]? = some x) := by
  intro m
  induction m with
  | zero => intro _; simp [Lib.compactUpTo]
  | succ m ih =>
    intro hm
    obtain ⟨h1, h2⟩ := ih (by omega)
    have hle : ∀ {i j : Nat} {x y : Int}, i ≤ j → l[i]? = some x → l[j]? = some y → x ≤ y := by
      intro i j x y hij hx hy
      obtain ⟨a1, a2⟩ := List.getElem?_eq_some_iff.1 hx
      obtain ⟨b1, b2⟩ := List.getElem?_eq_some_iff.1 hy
      by_cases he : i = j
      · subst he; rw [hx] at hy; simp at hy; omega
      · have := List.pairwise_iff_getElem.1 hs i j a1 b1 (by omega)
        rw [a2, b2] at this; exact this
    have hx : l[m]? = some l[m] := List.getElem?_eq_getElem (by omega)
    have g : l.toArray[m]! = l[m] := by simp [hx]
    rw [Lib.compactUpTo_succ]
    by_cases hk : Lib.keeps l.toArray m = true
    · rw [if_pos hk, g]
      have hlt : ∀ x, x ∈ Lib.compactUpTo l.toArray m → x < l[m] := by
        intro x hxm
        obtain ⟨j, hj, hjx⟩ := (h2 x).1 hxm
        have hp : m - 1 < l.length := by omega
        have h3 : x ≤ l[m-1] := hle (i := j) (j := m - 1) (by omega) hjx (List.getElem?_eq_getElem hp)
        have h4 : l[m-1] ≤ l[m] := hle (i := m - 1) (j := m) (by omega) (List.getElem?_eq_getElem hp) hx
        have h5 : l[m] ≠ l[m-1] := by
          unfold Lib.keeps at hk
          rw [decide_eq_true_eq] at hk
          rcases hk with h0 | h0
          · omega
          · rw [g] at h0
            have : l.toArray[m-1]! = l[m-1] := by simp [List.getElem?_eq_getElem hp]
            rw [this] at h0; exact h0
        omega
      refine ⟨List.pairwise_append.2 ⟨h1, by simp, fun a ha b hb => by simp at hb; subst hb; exact hlt a ha⟩, fun x => ?_⟩
      rw [List.mem_append, h2, List.mem_singleton]
      constructor
      · rintro (⟨j, hj, hjx⟩ | rfl)
        · exact ⟨j, by omega, hjx⟩
        · exact ⟨m, by omega, hx⟩
      · rintro ⟨j, hj, hjx⟩
        by_cases he : j = m
        · subst he; rw [hx] at hjx; simp at hjx; exact Or.inr hjx.symm
        · exact Or.inl ⟨j, by omega, hjx⟩
    · rw [if_neg hk, List.append_nil]
      refine ⟨h1, fun x => ?_⟩
      rw [h2]
      constructor
      · rintro ⟨j, hj, hjx⟩; exact ⟨j, by omega, hjx⟩
      · rintro ⟨j, hj, hjx⟩
        by_cases he : j = m
        · subst he
          have hm0 : ¬ (j = 0) ∧ l.toArray[j]! = l.toArray[j-1]! := by
            unfold Lib.keeps at hk
            simpa using hk
          have hp : j - 1 < l.length := by omega
          have h6 : l.toArray[j-1]! = l[j-1] := by simp [List.getElem?_eq_getElem hp]
          rw [hx] at hjx
          refine ⟨j - 1, by omega, ?_⟩
          rw [List.getElem?_eq_getElem hp, ← hjx, ← g, hm0.2, h6]
        · exact ⟨j, by omega, hjx⟩
theorem compI_up {l : List Int} (hs : List.Pairwise (fun a b => a ≤ b) l) : List.Pairwise (fun a b => a < b) (compI l) := (comp_key l hs l.length (Nat.le_refl _)).1
theorem compI_mem {l : List Int} (hs : List.Pairwise (fun a b => a ≤ b) l) {x : Int} : x ∈ compI l ↔ x ∈ l := by
  unfold compI Lib.compact
  rw [(comp_key l hs l.length (Nat.le_refl _)).2 x]
  constructor
  · rintro ⟨j, _, hj⟩; exact List.mem_of_getElem? hj
  · intro h
    obtain ⟨j, hj⟩ := List.getElem?_of_mem h
    exact ⟨j, (List.getElem?_eq_some_iff.1 hj).1, hj⟩
theorem sort_eq (l : List Int) (h : l.length ≤ 1000000) : GxSlicesSortIntInt.P l = some (sortI l) := by unfold GxSlicesSortIntInt.P sortI; rw [if_pos (by omega)]
theorem comp_eq (l : List Int) : GxSlicesCompactIntInt.P l = some (compI l) := rfl
end Go.Proofs.YtihibckijdfidaaGreat.QSort

namespace Go.Proofs.YtihibckijdfidaaGreat.QFold
open Go.RowKit
open Go.Proofs.YtihibckijdfidaaGreat.GoP Go.Proofs.YtihibckijdfidaaGreat.PlainStamp Go.Proofs.YtihibckijdfidaaGreat.QBase Go.Proofs.YtihibckijdfidaaGreat.QLoop

theorem fold_loop {α σ R : Type} {l : List α} {g : σ → α → σ} {f : Nat → σ → (σ → Option R) → (σ → Option R) → Option R} {fin : σ → Option R} (s0 : σ)
    (step : ∀ k nx x s, l[k]? = some x → f k s nx fin = nx (g s x)) : cntK f l.length 0 s0 fin = fin (l.foldl g s0) := by
  have key : ∀ m k s, k + m = l.length → cntK f m k s fin = fin ((l.drop k).foldl g s) := by
    intro m
    induction m with
    | zero => intro k s hk; rw [List.drop_of_length_le (by omega)]; rfl
    | succ m ih =>
      intro k s hk
      obtain ⟨x, hx, _⟩ := at_lt (l := l) (k := k) (by omega)
      obtain ⟨hlt, e⟩ := List.getElem?_eq_some_iff.1 hx
      show f k s _ fin = _
      rw [step k _ x s hx, ih (k + 1) _ (by omega), List.drop_eq_getElem_cons hlt, e]; rfl
  exact key l.length 0 s0 (by omega)
theorem find_val {α R : Type} {l : List α} {p : α → Bool} {f : Nat → Unit → (Unit → Option R) → (Unit → Option R) → Option R} {fin : Unit → Option R} {yes : α → Option R}
    (step : ∀ k nx x, l[k]? = some x → f k () nx fin = if p x = true then yes x else nx ()) : cntK f l.length 0 () fin = match l.find? p with | some x => yes x | none => fin () := by
  have key : ∀ m k, k + m = l.length → cntK f m k () fin = match (l.drop k).find? p with | some x => yes x | none => fin () := by
    intro m
    induction m with
    | zero => intro k hk; rw [List.drop_of_length_le (by omega)]; rfl
    | succ m ih =>
      intro k hk
      obtain ⟨x, hx, _⟩ := at_lt (l := l) (k := k) (by omega)
      obtain ⟨hlt, e⟩ := List.getElem?_eq_some_iff.1 hx
      show f k () _ fin = _
      rw [step k _ x hx, List.drop_eq_getElem_cons hlt, e, List.find?_cons]
      cases hp : p x with
      | true => simp
      | false => simp only [Bool.false_eq_true, if_false]; exact ih (k + 1) (by omega)
  exact key l.length 0 (by omega)
end Go.Proofs.YtihibckijdfidaaGreat.QFold

namespace Go.Proofs.YtihibckijdfidaaGreat.QOrd
open Go.RowKit
open Go.Proofs.YtihibckijdfidaaGreat.GoP Go.Proofs.YtihibckijdfidaaGreat.PlainStamp Go.Proofs.YtihibckijdfidaaGreat.QBase Go.Proofs.YtihibckijdfidaaGreat.QLoop

/-- texts in the order of their bytes -/
def bl (a b : ByteArray) : Bool := Op.bytesLess a.toList b.toList
/-- valid, and behind the one ahead of it -/
def riseAt {α : Type} (ok : α → Bool) (lt : α → α → Bool) (l : List α) (k : Nat) : Bool :=
  match l[k]? with
  | none => true
  | some s => ok s && (decide (k = 0) || (match l[k-1]? with | none => true | some r => lt r s))
def riseTo {α : Type} (ok : α → Bool) (lt : α → α → Bool) (l : List α) (k : Nat) : Bool := (List.range k).all (riseAt ok lt l)
theorem riseTo_zero {α : Type} (ok : α → Bool) (lt : α → α → Bool) (l : List α) : riseTo ok lt l 0 = true := rfl
theorem riseTo_succ {α : Type} (ok : α → Bool) (lt : α → α → Bool) (l : List α) (k : Nat) : riseTo ok lt l (k + 1) = (riseTo ok lt l k && riseAt ok lt l k) := by simp [riseTo, List.range_succ, List.all_append]
theorem riseTo_not {α : Type} {ok : α → Bool} {lt : α → α → Bool} {l : List α} {k n : Nat} (h : riseAt ok lt l k = false) (hk : k < n) : riseTo ok lt l n = false := by
  unfold riseTo
  rw [Bool.eq_false_iff]
  intro ha
  have := List.all_eq_true.1 ha k (List.mem_range.2 hk)
  rw [h] at this; exact absurd this (by simp)
def riseL {α : Type} (m : Nat) (ok : α → Bool) (lt : α → α → Bool) (l : List α) : Bool := decide (l.length ≤ m) && riseTo ok lt l l.length
theorem riseAt_bad {α : Type} {ok : α → Bool} {lt : α → α → Bool} {l : List α} {k : Nat} {s : α} (hs : l[k]? = some s) (h : ok s = false) : riseAt ok lt l k = false := by unfold riseAt; rw [hs]; simp [h]
theorem riseAt_first {α : Type} {ok : α → Bool} {lt : α → α → Bool} {l : List α} {s : α} (hs : l[0]? = some s) (h : ok s = true) : riseAt ok lt l 0 = true := by unfold riseAt; rw [hs]; simp [h]
theorem riseAt_next {α : Type} {ok : α → Bool} {lt : α → α → Bool} {l : List α} {k : Nat} {s r : α} (hs : l[k]? = some s) (hr : l[k-1]? = some r) (hk : 0 < k) (h : ok s = true) : riseAt ok lt l k = lt r s := by
  unfold riseAt; rw [hs]; simp only [hr, h, Bool.true_and, decide_eq_false (show ¬ k = 0 by omega), Bool.false_or]
theorem riseL_len {α : Type} {m : Nat} {ok : α → Bool} {lt : α → α → Bool} {l : List α} (h : riseL m ok lt l = true) : l.length ≤ m := by unfold riseL at h; simp only [Bool.and_eq_true, decide_eq_true_eq] at h; exact h.1
theorem riseTo_at {α : Type} {ok : α → Bool} {lt : α → α → Bool} {l : List α} {n : Nat} (h : riseTo ok lt l n = true) {k : Nat} (hk : k < n) : riseAt ok lt l k = true := List.all_eq_true.1 h k (List.mem_range.2 hk)
theorem riseL_ok {α : Type} {m : Nat} {ok : α → Bool} {lt : α → α → Bool} {l : List α} (h : riseL m ok lt l = true) {k : Nat} {s : α} (hs : l[k]? = some s) : ok s = true := by
  unfold riseL at h
  simp only [Bool.and_eq_true, decide_eq_true_eq] at h
  have := riseTo_at h.2 (List.getElem?_eq_some_iff.1 hs).1
  unfold riseAt at this
  rw [hs] at this
  simp only [Bool.and_eq_true] at this
  exact this.1
theorem riseL_mem {α : Type} {m : Nat} {ok : α → Bool} {lt : α → α → Bool} {l : List α} (h : riseL m ok lt l = true) {s : α} (hs : s ∈ l) : ok s = true := by
  obtain ⟨k, hk⟩ := List.getElem?_of_mem hs
  exact riseL_ok h hk
/-- a loop that goes through a list of records and stops with 'no' at the first that is bad -/
theorem rise_loop {α : Type} {ok : α → Bool} {lt : α → α → Bool} {l : List α} {R : Type} {no : R} {f : Nat → Unit → (Unit → Option R) → (Unit → Option R) → Option R} {fin : Unit → Option R}
    (step : ∀ k nx s, l[k]? = some s → (ok s = false → f k () nx fin = some no) ∧ (ok s = true → (k = 0 → f k () nx fin = nx ()) ∧ (0 < k → ∀ r, l[k-1]? = some r → (lt r s = true → f k () nx fin = nx ()) ∧ (lt r s = false → f k () nx fin = some no)))) :
    cntK f l.length 0 () fin = if riseTo ok lt l l.length then fin () else some no := by
  have key : ∀ m k, k + m = l.length → riseTo ok lt l k = true → cntK f m k () fin = if riseTo ok lt l l.length then fin () else some no := by
    intro m
    induction m with
    | zero => intro k hk hu; obtain rfl : k = l.length := by omega
              rw [hu]; rfl
    | succ m ih =>
      intro k hk hu
      have hlt : k < l.length := by omega
      obtain ⟨s, hs, _⟩ := at_lt hlt
      obtain ⟨h1, h2⟩ := step k (fun s' => cntK f m (k + 1) s' fin) s hs
      show f k () _ fin = _
      cases hok : ok s with
      | false => rw [h1 hok, riseTo_not (riseAt_bad hs hok) hlt]; rfl
      | true =>
        obtain ⟨h3, h4⟩ := h2 hok
        by_cases hk0 : k = 0
        · rw [h3 hk0]
          subst hk0
          exact ih 1 (by omega) (by rw [riseTo_succ, hu, riseAt_first hs hok]; rfl)
        · obtain ⟨r, hr, _⟩ := at_lt (l := l) (k := k - 1) (by omega)
          obtain ⟨h5, h6⟩ := h4 (by omega) r hr
          cases hl : lt r s with
          | true =>
            rw [h5 hl]
            exact ih (k + 1) (by omega) (by rw [riseTo_succ, hu, riseAt_next hs hr (by omega) hok, hl]; rfl)
          | false => rw [h6 hl, riseTo_not (by rw [riseAt_next hs hr (by omega) hok, hl]) hlt]; rfl
  exact key l.length 0 (by omega) (riseTo_zero ok lt l)
end Go.Proofs.YtihibckijdfidaaGreat.QOrd

namespace Go.Proofs.YtihibckijdfidaaGreat.QRiseL
open Go.RowKit
open Go.Proofs.YtihibckijdfidaaGreat.GoP Go.Proofs.YtihibckijdfidaaGreat.PlainStamp Go.Proofs.YtihibckijdfidaaGreat.QBase Go.Proofs.YtihibckijdfidaaGreat.QOrd Go.Proofs.YtihibckijdfidaaGreat.QLoop

/-- the same, for a loop that counts by itself and stops behind m: the list may be longer than m -/
theorem rise_lp {α R : Type} {ok : α → Bool} {lt : α → α → Bool} {l : List α} {m : Nat} {no : R} {yes : Option R} {f : Int → (Int → Option R) → (Int → Option R) → Option R} {fin : Int → Option R}
    (stop : ∀ (k : Nat) nx, (l.length ≤ k ∨ m < k) → k ≤ l.length → k ≤ m + 1 → f (k : Int) nx fin = fin (k : Int))
    (end_ : ∀ k : Int, fin k = if l.length ≤ m then yes else some no)
    (step : ∀ (k : Nat) nx s, k ≤ m → l[k]? = some s → (ok s = false → f (k : Int) nx fin = some no) ∧ (ok s = true → (k = 0 → f (k : Int) nx fin = nx ((k + 1 : Nat) : Int)) ∧ (0 < k → ∀ r, l[k-1]? = some r → ok r = true → (lt r s = true → f (k : Int) nx fin = nx ((k + 1 : Nat) : Int)) ∧ (lt r s = false → f (k : Int) nx fin = some no)))) :
    ∀ fuel k, m + 1 - k < fuel → k ≤ l.length → k ≤ m + 1 → riseTo ok lt l k = true → loopK f fuel (k : Int) fin = if riseL m ok lt l = true then yes else some no := by
  intro fuel
  induction fuel with
  | zero => intro k h; omega
  | succ n ih =>
    intro k hf hk hm hu
    show f (k : Int) (fun s' => loopK f n s' fin) fin = _
    by_cases hs : l.length ≤ k ∨ m < k
    · rw [stop k _ hs hk hm, end_]
      by_cases hl : l.length ≤ m
      · obtain rfl : k = l.length := by omega
        rw [if_pos hl, if_pos (by unfold riseL; simp [hl, hu])]
      · rw [if_neg hl, if_neg (by unfold riseL; simp [hl])]
    · have hlt : k < l.length := by omega
      obtain ⟨s, hs', _⟩ := at_lt hlt
      obtain ⟨h1, h2⟩ := step k (fun s' => loopK f n s' fin) s (by omega) hs'
      have bad : riseAt ok lt l k = false → riseL m ok lt l = false := by
        intro h; unfold riseL; rw [riseTo_not h hlt, Bool.and_false]
      cases hok : ok s with
      | false => rw [h1 hok, bad (riseAt_bad hs' hok)]; rfl
      | true =>
        obtain ⟨h3, h4⟩ := h2 hok
        by_cases hk0 : k = 0
        · rw [h3 hk0]
          subst hk0
          exact ih 1 (by omega) (by omega) (by omega) (by rw [riseTo_succ, hu, riseAt_first hs' hok]; rfl)
        · obtain ⟨r, hr, _⟩ := at_lt (l := l) (k := k - 1) (by omega)
          have hokr : ok r = true := by
            have := riseTo_at hu (k := k - 1) (by omega)
            unfold riseAt at this; rw [hr] at this
            simp only [Bool.and_eq_true] at this; exact this.1
          obtain ⟨h5, h6⟩ := h4 (by omega) r hr hokr
          cases hl : lt r s with
          | true =>
            rw [h5 hl]
            exact ih (k + 1) (by omega) (by omega) (by omega) (by rw [riseTo_succ, hu, riseAt_next hs' hr (by omega) hok, hl]; rfl)
          | false => rw [h6 hl, bad (by rw [riseAt_next hs' hr (by omega) hok, hl])]; rfl
end Go.Proofs.YtihibckijdfidaaGreat.QRiseL

namespace Go.Proofs.YtihibckijdfidaaGreat.Q8List
open Go.RowKit
open Go.Proofs.YtihibckijdfidaaGreat.GoP Go.Proofs.YtihibckijdfidaaGreat.PlainStamp Go.Proofs.YtihibckijdfidaaGreat.QBase Go.Proofs.YtihibckijdfidaaGreat.QRiseL Go.Proofs.YtihibckijdfidaaGreat.QOrd Go.Proofs.YtihibckijdfidaaGreat.Q8Rate Go.Proofs.YtihibckijdfidaaGreat.QLoop Go.Proofs.YtihibckijdfidaaGreat.PRate

def okRs (l : List Rate) : Bool := riseL 16 okR linkR l
theorem areRates_eq (l : List Rate) (hl : l.length ≤ 9223372036854775807) : GiAreRates.P l = some (okRs l) := by
  simp only [GiAreRates.P, letK, iteK_if]
  by_cases h12 : l.length ≤ 16
  · rw [if_neg (by simp; omega), rise_loop (ok := okR) (lt := linkR) (no := false)]
    · unfold okRs riseL; cases riseTo okR linkR l l.length <;> simp [h12, GiAreRates.e0]
    · intro k nx s hs
      have hi : idx l (k : Int) = some s := by rw [idx_nat, hs]
      have hk : k < l.length := (List.getElem?_eq_some_iff.1 hs).1
      simp only [GiAreRates.l0, hi, Option.bind_some, unRate, isRate_eq, letK, joinK, appK, iteK_if]
      refine ⟨fun h => by simp [h], fun h => ⟨fun h0 => by subst h0; simp [h], fun h0 r hr => ?_⟩⟩
      rw [idx_pred h0 (by omega) hr]
      have hk0 : (0 : Int) < (k : Int) := by omega
      have hk1 : ¬ k = 0 := by omega
      exact ⟨fun hlt => by simp [h, hk0, hk1, canFollow_eq, hlt], fun hge => by simp [h, hk0, hk1, canFollow_eq, hge]⟩
  · rw [if_pos (by simp; omega)]; unfold okRs riseL; simp [h12]
theorem l8Good_eq {fuel : Nat} (l : List Rate) (hl : l.length ≤ 9223372036854775807) (hf : 17 < fuel) : GsL8Good.P fuel l = some (okRs l) := by
  simp only [GsL8Good.P]
  have key := rise_lp (ok := okR) (lt := linkR) (l := l) (m := 16) (no := false) (yes := some true) (f := GsL8Good.l0 l) (fin := GsL8Good.e0 l) ?_ ?_ ?_ fuel 0 (by omega) (by omega) (by omega) rfl
  · rw [show ((0 : Nat) : Int) = 0 from rfl] at key
    rw [key]; unfold okRs; cases riseL 16 okR linkR l <;> rfl
  · intro k nx hs h1 h2
    simp only [GsL8Good.l0, letK, joinK, appK, iteK_if]
    by_cases hk : l.length ≤ k
    · have : ¬ ((k : Int) < (l.length : Int)) := by omega
      simp [this]
    · have h3 : ((k : Int) < (l.length : Int)) := by omega
      have h4 : ¬ ((k : Int) ≤ 16) := by omega
      simp [h3, h4]
  · intro k
    simp only [GsL8Good.e0, letK]
    by_cases h : l.length ≤ 16
    · rw [if_pos h]; simp; omega
    · rw [if_neg h]; simp; omega
  · intro k nx s hk16 hs
    have hi : idx l (k : Int) = some s := by rw [idx_nat, hs]
    have hk : k < l.length := (List.getElem?_eq_some_iff.1 hs).1
    have h1 : ((k : Int) < (l.length : Int)) := by omega
    have h2 : (k : Int) ≤ 16 := by omega
    have hw : IntKind.i64.wrap ((k : Int) + 1) = ((k + 1 : Nat) : Int) := by rw [wrap_in (by omega) (by omega)]; omega
    simp only [GsL8Good.l0, letK, joinK, appK, iteK_if, decide_eq_true h1, decide_eq_true h2, if_true, hi, Option.bind_some, unRate, l8One_eq, hw]
    refine ⟨fun h => by simp [h], fun h => ⟨fun h0 => by subst h0; simp [h], fun h0 r hr hokr => ?_⟩⟩
    rw [idx_pred h0 (by omega) hr]
    have hk0 : (0 : Int) < (k : Int) := by omega
    have hk1 : ¬ k = 0 := by omega
    simp only [Option.bind_some, l8Code_eq h, l8Code_eq hokr, link_code hokr h]
    have he : ∀ x : Rate, Rate.mk x.zone x.grams x.from_ x.until_ x.cents = x := fun x => rfl
    simp only [h, decide_eq_true hk0, Bool.not_true, Bool.false_eq_true, if_false, if_true]
    constructor
    · intro hlt
      simp only [Bool.and_eq_true, decide_eq_true_eq, Bool.not_eq_true'] at hlt
      obtain ⟨c1, c2⟩ := hlt
      have : ¬ (codeR s ≤ codeR r) := by omega
      by_cases e1 : r.zone = s.zone
      · by_cases e2 : r.grams = s.grams
        · have e3 : ¬ (s.from_ ≤ r.until_) := by simpa [e1, e2] using c2
          simp [this, e1, e2, e3]
        · simp [this, e1, e2]
      · simp [this, e1]
    · intro hge
      by_cases c1 : codeR r < codeR s
      · have : ¬ (codeR s ≤ codeR r) := by omega
        simp only [decide_eq_true c1, Bool.true_and, Bool.not_eq_false', Bool.and_eq_true, decide_eq_true_eq] at hge
        simp [this, hge.1.1, hge.1.2, hge.2]
      · have : codeR s ≤ codeR r := by omega
        simp [this]
theorem rs_mem {l : List Rate} (h : okRs l = true) {x : Rate} (hx : x ∈ l) : okR x = true := riseL_mem h hx
end Go.Proofs.YtihibckijdfidaaGreat.Q8List

namespace Go.Proofs.YtihibckijdfidaaGreat.Q8For
open Go.RowKit
open Go.Proofs.YtihibckijdfidaaGreat.GoP Go.Proofs.YtihibckijdfidaaGreat.PlainStamp Go.Proofs.YtihibckijdfidaaGreat.QBase Go.Proofs.YtihibckijdfidaaGreat.QFold Go.Proofs.YtihibckijdfidaaGreat.QRiseL Go.Proofs.YtihibckijdfidaaGreat.QOrd Go.Proofs.YtihibckijdfidaaGreat.Q8List Go.Proofs.YtihibckijdfidaaGreat.Q8Rate Go.Proofs.YtihibckijdfidaaGreat.QLoop Go.Proofs.YtihibckijdfidaaGreat.PRate

def onB (day zone grams : Int) (r : Rate) : Bool := decide (r.zone = zone) && decide (grams ≤ r.grams) && inB day r.from_ r.until_
def rateV (l : List Rate) (day zone grams : Int) : Int := match l.find? (onB day zone grams) with | some r => r.cents | none => 0
theorem rateOn_eq (l : List Rate) (day zone grams : Int) : GiRateOn.P l day zone grams = some (rateV l day zone grams) := by
  simp only [GiRateOn.P]
  rw [find_val (p := onB day zone grams) (yes := fun x => some x.cents)]
  · unfold rateV; cases l.find? (onB day zone grams) <;> rfl
  · intro k nx x hx
    have hi : idx l (k : Int) = some x := by rw [idx_nat, hx]
    simp only [GiRateOn.l0, hi, Option.bind_some, unRate, within_eq, letK, joinK, appK, iteK_if, onB]
    by_cases h1 : x.zone = zone <;> by_cases h2 : grams ≤ x.grams <;> simp [h1, h2]
theorem l8For_eq (l : List Rate) (day zone grams : Int) : GsL8For.P l day zone grams = some (rateV l day zone grams) := by
  simp only [GsL8For.P]
  rw [find_val (p := onB day zone grams) (yes := fun x => some x.cents)]
  · unfold rateV; cases l.find? (onB day zone grams) <;> rfl
  · intro k nx x hx
    have hi : idx l (k : Int) = some x := by rw [idx_nat, hx]
    simp only [GsL8For.l0, hi, Option.bind_some, unRate, l1In_eq, letK, joinK, appK, iteK_if, onB]
    by_cases h1 : x.zone = zone <;> by_cases h2 : grams ≤ x.grams <;> simp [h1, h2]
end Go.Proofs.YtihibckijdfidaaGreat.Q8For

namespace Go.Proofs.YtihibckijdfidaaGreat.Q8Days
open Go.RowKit
open Go.Proofs.YtihibckijdfidaaGreat.GoP Go.Proofs.YtihibckijdfidaaGreat.PlainStamp Go.Proofs.YtihibckijdfidaaGreat.QBase Go.Proofs.YtihibckijdfidaaGreat.QSort Go.Proofs.YtihibckijdfidaaGreat.QFold Go.Proofs.YtihibckijdfidaaGreat.QRiseL Go.Proofs.YtihibckijdfidaaGreat.QOrd Go.Proofs.YtihibckijdfidaaGreat.Q8For Go.Proofs.YtihibckijdfidaaGreat.Q8List Go.Proofs.YtihibckijdfidaaGreat.Q8Rate Go.Proofs.YtihibckijdfidaaGreat.QLoop Go.Proofs.YtihibckijdfidaaGreat.PRate

/-- the days on which a rate can differ from that of the day before -/
def tdays (l : List Rate) : List Int := compI (sortI (l.flatMap fun r => [r.from_, r.until_ + 1]))
theorem mem_days {l : List Rate} {d : Int} : d ∈ tdays l ↔ ∃ r ∈ l, d = r.from_ ∨ d = r.until_ + 1 := by
  unfold tdays
  rw [compI_mem (sortI_up _), sortI_mem, List.mem_flatMap]
  simp
theorem days_up (l : List Rate) : List.Pairwise (fun a b => a < b) (tdays l) := compI_up (sortI_up _)
theorem flat_two (l : List Rate) : (l.flatMap fun r => [r.from_, r.until_ + 1]).length = 2 * l.length := by
  induction l with
  | nil => rfl
  | cons x l ih => rw [List.flatMap_cons, List.length_append, ih]; simp; omega
theorem days_eq {l : List Rate} (h : okRs l = true) : GiTurningDays.P l = some (tdays l) := by
  have h16 := riseL_len h
  simp only [GiTurningDays.P]
  refine cnt_is _ (fun k s => s = (l.take k).flatMap fun r => [r.from_, r.until_ + 1]) ?_ ?_ _ (by simp)
  · intro k s nx hk hI hn
    obtain ⟨x, hx, hi⟩ := at_lt (l := l) (k := k) hk
    have hok := okR_of (rs_mem h (List.mem_of_getElem? hx))
    simp only [GiTurningDays.l0, hi, Option.bind_some, unRate, letK, appK]
    have hs : s.length ≤ 2 * 16 := by rw [hI, flat_two, List.length_take]; omega
    rw [wrap_in (by omega) (by omega), guardK_pos (by simp; omega)]
    exact hn _ (by rw [take_next hx, List.flatMap_append, hI]; simp)
  · intro s hI
    rw [List.take_of_length_le (Nat.le_refl _)] at hI
    have hs : s.length ≤ 1000000 := by rw [hI, flat_two]; omega
    simp only [GiTurningDays.e0, letK, sort_eq s hs, comp_eq, Option.bind_some]
    rw [hI]; rfl
end Go.Proofs.YtihibckijdfidaaGreat.Q8Days

namespace Go.Proofs.YtihibckijdfidaaGreat.Q12Made
open Go.RowKit
open Go.Proofs.YtihibckijdfidaaGreat.GoP Go.Proofs.YtihibckijdfidaaGreat.PlainStamp Go.Proofs.YtihibckijdfidaaGreat.QBase Go.Proofs.YtihibckijdfidaaGreat.Q12Find Go.Proofs.YtihibckijdfidaaGreat.Q12Put Go.Proofs.YtihibckijdfidaaGreat.Q12Bits Go.Proofs.YtihibckijdfidaaGreat.Q8Days Go.Proofs.YtihibckijdfidaaGreat.QSort Go.Proofs.YtihibckijdfidaaGreat.QFold Go.Proofs.YtihibckijdfidaaGreat.QRiseL Go.Proofs.YtihibckijdfidaaGreat.QOrd Go.Proofs.YtihibckijdfidaaGreat.Q8For Go.Proofs.YtihibckijdfidaaGreat.Q8List Go.Proofs.YtihibckijdfidaaGreat.Q8Rate Go.Proofs.YtihibckijdfidaaGreat.QLoop Go.Proofs.YtihibckijdfidaaGreat.PRate Go.Proofs.YtihibckijdfidaaGreat.PCover

/-- the cover at a day, a zone and a weight, if it will do -/
def try3 (rs : List Rate) (x : Cover) (c d z g : Int) : Option Cover := if (decide (0 < rateV rs d z g) && (rateV rs d z g == x.paid || hb c 3)) = true then some ⟨x.id, d, z, g, rateV rs d z g, x.from_, x.to_, x.leave, x.arrive⟩ else none
def inD (rs : List Rate) (x : Cover) (c : Int) (D Z W : List Int) : Option Cover := D.findSome? fun d => Z.findSome? fun z => W.findSome? fun g => try3 rs x c d z g
def resC (o : Option Cover) : Cover × Bool := match o with | some y => (y, true) | none => (⟨0, 0, 0, 0, 0, 0, 0, 0, 0⟩, false)
/-- the weights at which a rate can differ from that of a gram less -/
def tweights (l : List Rate) : List Int := compI (sortI (1 :: l.map fun r => r.grams + 1))
theorem mem_weights {l : List Rate} {g : Int} : g ∈ tweights l ↔ g = 1 ∨ ∃ r ∈ l, g = r.grams + 1 := by
  unfold tweights
  rw [compI_mem (sortI_up _), sortI_mem, List.mem_cons, List.mem_map]
  constructor
  · rintro (h | ⟨r, hr, rfl⟩)
    · exact .inl h
    · exact .inr ⟨r, hr, rfl⟩
  · rintro (h | ⟨r, hr, rfl⟩)
    · exact .inl h
    · exact .inr ⟨r, hr, rfl⟩
theorem weights_up (l : List Rate) : List.Pairwise (fun a b => a < b) (tweights l) := compI_up (sortI_up _)
theorem weights_eq {l : List Rate} (h : okRs l = true) : GiTurningWeights.P l = some (tweights l) := by
  have h16 := riseL_len h
  simp only [GiTurningWeights.P, letK]
  refine cnt_is _ (fun k s => s = 1 :: (l.take k).map fun r => r.grams + 1) ?_ ?_ _ (by simp)
  · intro k s nx hk hI hn
    obtain ⟨x, hx, hi⟩ := at_lt (l := l) (k := k) hk
    have hok := okR_of (rs_mem h (List.mem_of_getElem? hx))
    simp only [GiTurningWeights.l0, hi, Option.bind_some, unRate, letK, appK]
    have hs : s.length ≤ 20 := by rw [hI, List.length_cons, List.length_map, List.length_take]; omega
    rw [wrap_in (by omega) (by omega), guardK_pos (by omega)]
    exact hn _ (by rw [take_next hx, List.map_append, hI]; simp)
  · intro s hI
    rw [List.take_of_length_le (Nat.le_refl _)] at hI
    have hs : s.length ≤ 1000000 := by rw [hI, List.length_cons, List.length_map]; omega
    simp only [GiTurningWeights.e0, letK, sort_eq s hs, comp_eq, Option.bind_some]
    rw [hI]; rfl
theorem zones_eq : GiAllZones.P = some [0, 1, 2, 3, 4, 5, 6, 7, 8, 9] := by kernel_rfl
theorem choices_eq (c n kept : Int) (all : List Int) : GiChoices.P c n kept all = some (if (bits .and IntKind.i64 c n == 0) = true then [kept] else all) := by
  simp only [GiChoices.P, letK, iteK_if]
  split <;> rfl
def daysI (rs : List Rate) (x : Cover) (c : Int) : List Int := if hb c 0 = true then tdays rs else [x.day]
def zonesI (x : Cover) (c : Int) : List Int := if hb c 1 = true then [0, 1, 2, 3, 4, 5, 6, 7, 8, 9] else [x.zone]
def weightsI (rs : List Rate) (x : Cover) (c : Int) : List Int := if hb c 2 = true then tweights rs else [x.grams]
/-- the cover that a change makes -/
def madeV (rs : List Rate) (x : Cover) (c : Int) : Option Cover := inD rs x c (daysI rs x c) (zonesI x c) (weightsI rs x c)
theorem not_ite {α : Type} (b : Bool) (x y : α) : (if (!b) = true then x else y) = if b = true then y else x := by cases b <;> rfl
theorem made_impl {rs : List Rate} (h : okRs rs = true) (x : Cover) {c : Int} (hc : 0 ≤ c ∧ c ≤ 15) : GiMade.P rs x c = some (resC (madeV rs x c)) := by
  obtain ⟨h0, h1, h2, h3⟩ := and_eq hc
  have hd : ∀ D Z W : List Int, cntK (GiMade.l0 rs c W Z D) D.length 0 (0, 0, 0, 0, 0, 0, 0, 0, 0, x.id, x.day, x.zone, x.grams, x.paid, x.from_, x.to_, x.leave, x.arrive) GiMade.e0 = some (resC (inD rs x c D Z W)) := by
    intro D Z W
    rw [some_loop (g := fun d => Z.findSome? fun z => W.findSome? fun g => try3 rs x c d z g) _ (fun y => some (y, true))]
    · unfold inD
      cases D.findSome? fun d => Z.findSome? fun z => W.findSome? fun g => try3 rs x c d z g <;> rfl
    · intro k nx d hk
      have hi : idx D (k : Int) = some d := by rw [idx_nat, hk]
      simp only [GiMade.l0, unp18, hi, Option.bind_some]
      rw [some_loop (g := fun z => W.findSome? fun g => try3 rs x c d z g) _ (fun y => some (y, true))]
      · cases Z.findSome? fun z => W.findSome? fun g => try3 rs x c d z g <;> rfl
      · intro k nx z hk
        have hi : idx Z (k : Int) = some z := by rw [idx_nat, hk]
        simp only [GiMade.l1, unp18, hi, Option.bind_some]
        rw [some_loop (g := fun g => try3 rs x c d z g) _ (fun y => some (y, true))]
        · cases W.findSome? fun g => try3 rs x c d z g <;> rfl
        · intro k nx g hk
          have hi : idx W (k : Int) = some g := by rw [idx_nat, hk]
          simp only [GiMade.l2, unp18, hi, rateOn_eq, Option.bind_some, letK, joinK, appK, iteK_if, h3, try3]
          by_cases p1 : 0 < rateV rs d z g
          · by_cases p2 : rateV rs d z g = x.paid
            · simp [p1, p2]
              rw [← p2]; simp [p1]
            · cases p3 : hb c 3 <;> simp [p1, p2]
          · simp [p1]
  have hx := hd (daysI rs x c) (zonesI x c) (weightsI rs x c)
  unfold daysI zonesI weightsI at hx
  obtain ⟨a, b, e, f, g, i, j, k, l⟩ := x
  simp only [GiMade.P, unCover, weights_eq h, zones_eq, days_eq h, choices_eq, h0, h1, h2, not_ite, Option.bind_some]
  exact hx
theorem rate_pos {rs : List Rate} {d z g : Int} (h : 0 < rateV rs d z g) : ∃ r ∈ rs, r.zone = z ∧ g ≤ r.grams ∧ r.from_ ≤ d ∧ d ≤ r.until_ ∧ rateV rs d z g = r.cents := by
  unfold rateV at h ⊢
  cases hf : rs.find? (onB d z g) with
  | none => rw [hf] at h; simp at h
  | some r =>
    have h1 := List.find?_some hf
    simp only [onB, Bool.and_eq_true, decide_eq_true_eq] at h1
    have h2 := inB_of h1.2
    exact ⟨r, List.mem_of_find?_eq_some hf, h1.1.1, h1.1.2, h2.1, h2.2, rfl⟩
theorem try_some {rs : List Rate} {x y : Cover} {c d z g : Int} (h : try3 rs x c d z g = some y) : 0 < rateV rs d z g ∧ (rateV rs d z g = x.paid ∨ hb c 3 = true) ∧ y = ⟨x.id, d, z, g, rateV rs d z g, x.from_, x.to_, x.leave, x.arrive⟩ := by
  unfold try3 at h
  split at h
  · rename_i hh
    simp only [Bool.and_eq_true, decide_eq_true_eq, Bool.or_eq_true, beq_iff_eq] at hh
    exact ⟨hh.1, hh.2, (Option.some.inj h).symm⟩
  · simp at h
theorem fs_is {α β : Type} {l : List α} {f : α → Option β} (h : (l.findSome? f).isSome = true) : ∃ a ∈ l, (f a).isSome = true := by
  obtain ⟨b, hb⟩ := Option.isSome_iff_exists.1 h
  obtain ⟨a, ha, hf⟩ := List.exists_of_findSome?_eq_some hb
  exact ⟨a, ha, by rw [hf]; rfl⟩
/-- the days of the reference: rising, the first one, those on which rates begin or have ended -/
theorem days_spec {fuel : Nat} {rs : List Rate} (h : okRs rs = true) (hf : 100 < fuel) (day : Int) : ∃ D, GsL12Days.P fuel rs day true = some D ∧ List.Pairwise (fun a b => a < b) D ∧ ∀ d, d ∈ D ↔ d = 0 ∨ ∃ r ∈ rs, d = r.from_ ∨ (r.until_ < 4000 ∧ d = r.until_ + 1) := by
  have h16 := riseL_len h
  have key : ∃ D, cntK (GsL12Days.l0 rs fuel) rs.length 0 [0] GsL12Days.e0 = some D ∧ (fun D => List.Pairwise (fun a b => a < b) D ∧ ∀ d, d ∈ D ↔ d = 0 ∨ ∃ r ∈ rs, d = r.from_ ∨ (r.until_ < 4000 ∧ d = r.until_ + 1)) D := by
   refine cnt_ex (n := rs.length)
    (fun k s => s.length ≤ 1 + 2 * k ∧ List.Pairwise (fun a b => a < b) s ∧ ∀ d, d ∈ s ↔ d = 0 ∨ ∃ r ∈ rs.take k, d = r.from_ ∨ (r.until_ < 4000 ∧ d = r.until_ + 1)) ?_ ?_ rs.length 0 [0] (by omega) (by simp)
   · rintro k s nx hk ⟨i1, i2, i3⟩ hn
     obtain ⟨r, hr, hi⟩ := at_lt (l := rs) (k := k) hk
     have hok := okR_of (rs_mem h (List.mem_of_getElem? hr))
     obtain ⟨m, hm, m1, m2, m3⟩ := put_eq (fuel := fuel) (by omega : s.length ≤ 1000) i2 r.from_ (by omega)
     have htk : ∀ d : Int, (∃ q ∈ rs.take (k + 1), d = q.from_ ∨ (q.until_ < 4000 ∧ d = q.until_ + 1)) ↔ ((∃ q ∈ rs.take k, d = q.from_ ∨ (q.until_ < 4000 ∧ d = q.until_ + 1)) ∨ d = r.from_ ∨ (r.until_ < 4000 ∧ d = r.until_ + 1)) := by
       intro d
       rw [take_next hr]
       constructor
       · rintro ⟨q, hq, e⟩
         rcases List.mem_append.1 hq with hq | hq
         · exact .inl ⟨q, hq, e⟩
         · rw [List.mem_singleton.1 hq] at e; exact .inr e
       · rintro (⟨q, hq, e⟩ | e)
         · exact ⟨q, List.mem_append.2 (.inl hq), e⟩
         · exact ⟨r, by simp, e⟩
     simp only [GsL12Days.l0, hi, hm, Option.bind_some, unRate, letK, appK, iteK_if]
     by_cases hu : r.until_ < 4000
     · obtain ⟨p, hp, p1, p2, p3⟩ := put_eq (fuel := fuel) (by omega : m.length ≤ 1000) m1 (r.until_ + 1) (by omega)
       rw [wrap_in (by omega) (by omega)]
       simp only [decide_eq_true hu, if_true, hp, Option.bind_some]
       refine hn _ ⟨by omega, p1, fun d => ?_⟩
       rw [p2, m2, i3, htk]
       constructor
       · rintro (e | e | e | e)
         · exact .inr (.inr (.inr ⟨hu, e⟩))
         · exact .inr (.inr (.inl e))
         · exact .inl e
         · exact .inr (.inl e)
       · rintro (e | e | e | ⟨_, e⟩)
         · exact .inr (.inr (.inl e))
         · exact .inr (.inr (.inr e))
         · exact .inr (.inl e)
         · exact .inl e
     · simp only [decide_eq_false hu, Bool.false_eq_true, if_false]
       refine hn _ ⟨by omega, m1, fun d => ?_⟩
       rw [m2, i3, htk]
       constructor
       · rintro (e | e | e)
         · exact .inr (.inr (.inl e))
         · exact .inl e
         · exact .inr (.inl e)
       · rintro (e | e | e | ⟨e, _⟩)
         · exact .inr (.inl e)
         · exact .inr (.inr e)
         · exact .inl e
         · exact absurd e hu
   · rintro s ⟨i1, i2, i3⟩
     rw [List.take_of_length_le (Nat.le_refl _)] at i3
     exact ⟨s, rfl, i2, i3⟩
  obtain ⟨D, hD, hq⟩ := key
  refine ⟨D, ?_, hq⟩
  rw [← hD]
  simp only [GsL12Days.P, letK, iteK_if]
  simp
theorem weights_spec {fuel : Nat} {rs : List Rate} (h : okRs rs = true) (hf : 100 < fuel) (grams : Int) : ∃ W, GsL12Weights.P fuel rs grams true = some W ∧ List.Pairwise (fun a b => a < b) W ∧ ∀ g, g ∈ W ↔ g = 1 ∨ ∃ r ∈ rs, r.grams < 2000 ∧ g = r.grams + 1 := by
  have h16 := riseL_len h
  have key : ∃ D, cntK (GsL12Weights.l0 rs fuel) rs.length 0 [1] GsL12Weights.e0 = some D ∧ (fun D => List.Pairwise (fun a b => a < b) D ∧ ∀ g, g ∈ D ↔ g = 1 ∨ ∃ r ∈ rs, r.grams < 2000 ∧ g = r.grams + 1) D := by
   refine cnt_ex (n := rs.length)
    (fun k s => s.length ≤ 1 + k ∧ List.Pairwise (fun a b => a < b) s ∧ ∀ g, g ∈ s ↔ g = 1 ∨ ∃ r ∈ rs.take k, r.grams < 2000 ∧ g = r.grams + 1) ?_ ?_ rs.length 0 [1] (by omega) (by simp)
   · rintro k s nx hk ⟨i1, i2, i3⟩ hn
     obtain ⟨r, hr, hi⟩ := at_lt (l := rs) (k := k) hk
     have hok := okR_of (rs_mem h (List.mem_of_getElem? hr))
     have htk : ∀ g : Int, (∃ q ∈ rs.take (k + 1), q.grams < 2000 ∧ g = q.grams + 1) ↔ ((∃ q ∈ rs.take k, q.grams < 2000 ∧ g = q.grams + 1) ∨ (r.grams < 2000 ∧ g = r.grams + 1)) := by
       intro d
       rw [take_next hr]
       constructor
       · rintro ⟨q, hq, e⟩
         rcases List.mem_append.1 hq with hq | hq
         · exact .inl ⟨q, hq, e⟩
         · rw [List.mem_singleton.1 hq] at e; exact .inr e
       · rintro (⟨q, hq, e⟩ | e)
         · exact ⟨q, List.mem_append.2 (.inl hq), e⟩
         · exact ⟨r, by simp, e⟩
     simp only [GsL12Weights.l0, hi, Option.bind_some, unRate, letK, appK, iteK_if]
     by_cases hu : r.grams < 2000
     · obtain ⟨p, hp, p1, p2, p3⟩ := put_eq (fuel := fuel) (by omega : s.length ≤ 1000) i2 (r.grams + 1) (by omega)
       rw [wrap_in (by omega) (by omega)]
       simp only [decide_eq_true hu, if_true, hp, Option.bind_some]
       refine hn _ ⟨by omega, p1, fun d => ?_⟩
       rw [p2, i3, htk]
       constructor
       · rintro (e | e | e)
         · exact .inr (.inr ⟨hu, e⟩)
         · exact .inl e
         · exact .inr (.inl e)
       · rintro (e | e | ⟨_, e⟩)
         · exact .inr (.inl e)
         · exact .inr (.inr e)
         · exact .inl e
     · simp only [decide_eq_false hu, Bool.false_eq_true, if_false]
       refine hn _ ⟨by omega, i2, fun d => ?_⟩
       rw [i3, htk]
       constructor
       · rintro (e | e)
         · exact .inl e
         · exact .inr (.inl e)
       · rintro (e | e | ⟨e, _⟩)
         · exact .inl e
         · exact .inr e
         · exact absurd e hu
   · rintro s ⟨i1, i2, i3⟩
     rw [List.take_of_length_le (Nat.le_refl _)] at i3
     exact ⟨s, rfl, i2, i3⟩
  obtain ⟨D, hD, hq⟩ := key
  refine ⟨D, ?_, hq⟩
  rw [← hD]
  simp only [GsL12Weights.P, letK, iteK_if]
  simp
theorem make_spec {fuel : Nat} {rs : List Rate} (h : okRs rs = true) (x : Cover) {c : Int} (hc : 0 ≤ c ∧ c ≤ 15) (hf : 100 < fuel) : GsL12Make.P fuel rs x c = some (resC (madeV rs x c)) := by
  obtain ⟨h0, h1, h2, h3⟩ := has_eq hc
  have hd : ∀ D Z W : List Int, cntK (GsL12Make.l0 rs c x.id x.paid x.from_ x.to_ x.leave x.arrive D Z W) D.length 0 (0, 0, 0, 0, 0, 0, 0, 0, 0) GsL12Make.e0 = some (resC (inD rs x c D Z W)) := by
    intro D Z W
    rw [some_loop (g := fun d => Z.findSome? fun z => W.findSome? fun g => try3 rs x c d z g) _ (fun y => some (y, true))]
    · unfold inD
      cases D.findSome? fun d => Z.findSome? fun z => W.findSome? fun g => try3 rs x c d z g <;> rfl
    · intro k0 nx d hk
      have i0 : idx D (k0 : Int) = some d := by rw [idx_nat, hk]
      simp only [GsL12Make.l0, unp9]
      rw [some_loop (g := fun z => W.findSome? fun g => try3 rs x c d z g) _ (fun y => some (y, true))]
      · cases Z.findSome? fun z => W.findSome? fun g => try3 rs x c d z g <;> rfl
      · intro k1 nx z hk
        have i1 : idx Z (k1 : Int) = some z := by rw [idx_nat, hk]
        simp only [GsL12Make.l1, unp9]
        rw [some_loop (g := fun g => try3 rs x c d z g) _ (fun y => some (y, true))]
        · cases W.findSome? fun g => try3 rs x c d z g <;> rfl
        · intro k2 nx g hk
          have i2 : idx W (k2 : Int) = some g := by rw [idx_nat, hk]
          simp only [GsL12Make.l2, GsL12Make.j0, GsL12Explained.P, unCover, unp9, i0, i1, i2, l8For_eq, h3, Option.bind_some, letK, joinK, appK, iteK_if, try3]
          cases p3 : hb c 3 with
          | true =>
            by_cases p1 : 0 < rateV rs d z g <;> simp [p1]
          | false =>
            by_cases p2 : rateV rs d z g = x.paid
            · by_cases p1 : 0 < rateV rs d z g
              · rw [p2] at p1; simp [p1, p2]
              · rw [p2] at p1; simp [p1, p2]
            · by_cases p1 : 0 < x.paid <;> simp [p1, p2]
  obtain ⟨D, hD, hDu, hDm⟩ := days_spec (fuel := fuel) h hf x.day
  obtain ⟨W, hW, hWu, hWm⟩ := weights_spec (fuel := fuel) h hf x.grams
  have hD0 : GsL12Days.P fuel rs x.day false = some [x.day] := rfl
  have hW0 : GsL12Weights.P fuel rs x.grams false = some [x.grams] := rfl
  have hZ : GsL12Zones.P x.zone (hb c 1) = some (zonesI x c) := by unfold zonesI; cases hb c 1 <;> rfl
  have eD : GsL12Days.P fuel rs x.day (hb c 0) = some (if hb c 0 = true then D else [x.day]) := by cases hb c 0 <;> simp [hD, hD0]
  have eW : GsL12Weights.P fuel rs x.grams (hb c 2) = some (if hb c 2 = true then W else [x.grams]) := by cases hb c 2 <;> simp [hW, hW0]
  have hx := hd (if hb c 0 = true then D else [x.day]) (zonesI x c) (if hb c 2 = true then W else [x.grams])
  have hsame : inD rs x c (if hb c 0 = true then D else [x.day]) (zonesI x c) (if hb c 2 = true then W else [x.grams]) = madeV rs x c := by
    have hw : ∀ d z, (if hb c 2 = true then W else [x.grams]).findSome? (fun g => try3 rs x c d z g) = (weightsI rs x c).findSome? (fun g => try3 rs x c d z g) := by
      intro d z
      unfold weightsI
      cases hb c 2 with
      | false => rfl
      | true =>
        simp only [if_true]
        refine fs_same hWu (weights_up rs) fun g hg => ?_
        obtain ⟨y, hy⟩ := Option.isSome_iff_exists.1 hg
        obtain ⟨r, hr, _, hle, _⟩ := rate_pos (try_some hy).1
        have hok := okR_of (rs_mem h hr)
        rw [hWm, mem_weights]
        constructor
        · rintro (e | ⟨q, hq, _, e⟩)
          · exact .inl e
          · exact .inr ⟨q, hq, e⟩
        · rintro (e | ⟨q, hq, e⟩)
          · exact .inl e
          · exact .inr ⟨q, hq, by omega, e⟩
    unfold inD madeV
    simp only [hw]
    unfold inD daysI
    cases hb c 0 with
    | false => rfl
    | true =>
      simp only [if_true]
      refine fs_same hDu (days_up rs) fun d hg => ?_
      obtain ⟨z, _, hz⟩ := fs_is hg
      obtain ⟨g, _, hg2⟩ := fs_is hz
      obtain ⟨y, hy⟩ := Option.isSome_iff_exists.1 hg2
      obtain ⟨r, hr, _, _, hfr, hun, _⟩ := rate_pos (try_some hy).1
      have hok := okR_of (rs_mem h hr)
      rw [hDm, mem_days]
      constructor
      · rintro (e | ⟨q, hq, e | ⟨_, e⟩⟩)
        · exact ⟨r, hr, .inl (by omega)⟩
        · exact ⟨q, hq, .inl e⟩
        · exact ⟨q, hq, .inr e⟩
      · rintro ⟨q, hq, e | e⟩
        · exact .inr ⟨q, hq, .inl e⟩
        · exact .inr ⟨q, hq, .inr ⟨by omega, e⟩⟩
  rw [hsame] at hx
  obtain ⟨a, b, e, f, g, i, j, k, l⟩ := x
  simp only [GsL12Make.P, unCover, h0, h1, h2, eD, eW, hZ, Option.bind_some]
  exact hx
end Go.Proofs.YtihibckijdfidaaGreat.Q12Made

namespace Go.Proofs.YtihibckijdfidaaGreat.Q12Cover
open Go.RowKit
open Go.Proofs.YtihibckijdfidaaGreat.GoP Go.Proofs.YtihibckijdfidaaGreat.PlainStamp Go.Proofs.YtihibckijdfidaaGreat.QBase Go.Proofs.YtihibckijdfidaaGreat.Q8Rate Go.Proofs.YtihibckijdfidaaGreat.QLoop Go.Proofs.YtihibckijdfidaaGreat.PCover

theorem isMinute_eq (n : Int) : GiIsMinute.P n = some (inB n 0 9999) := by simp only [GiIsMinute.P, within_eq, Option.bind_some]
theorem isOffice_eq (n : Int) : GiIsPostOffice.P n = some (inB n 0 9) := by simp only [GiIsPostOffice.P, within_eq, Option.bind_some]
theorem l9Office_eq (n : Int) : GsL9Office.P n = some (inB n 0 9) := by simp only [GsL9Office.P, l1In_eq, Option.bind_some]
theorem l9Minute_eq (n : Int) : GsL9Minute.P n = some (inB n 0 9999) := by simp only [GsL9Minute.P, l1In_eq, Option.bind_some]
def okC (x : Cover) : Bool := inB x.id 1 999 && inB x.day 0 4000 && inB x.zone 0 9 && inB x.grams 1 2000 && inB x.paid 1 9999 && inB x.from_ 0 9 && inB x.to_ 0 9 && (x.from_ != x.to_) && inB x.leave 0 9999 && inB x.arrive 0 9999 && decide (x.leave ≤ x.arrive)
theorem isCover_eq (x : Cover) : GiIsCover.P x = some (okC x) := by
  obtain ⟨a, b, c, d, e, f, g, h, i⟩ := x
  simp only [GiIsCover.P, unCover, within_eq, isDay_eq, isZone_eq, isWeight_eq, isRateCents_eq, isOffice_eq, isMinute_eq, Option.bind_some, letK, joinK, appK, iteK_if, okC]
  cases inB a 1 999 <;> cases inB b 0 4000 <;> cases inB c 0 9 <;> cases inB d 1 2000 <;> cases inB e 1 9999 <;> cases inB f 0 9 <;> cases inB g 0 9 <;> simp
  all_goals by_cases hfg : f = g <;> cases inB h 0 9999 <;> cases inB i 0 9999 <;> simp [hfg]
theorem l10One_eq (x : Cover) : GsL10One.P x = some (okC x) := by
  obtain ⟨a, b, c, d, e, f, g, h, i⟩ := x
  have hh : inB h 0 i = (inB h 0 9999 && inB i 0 9999 && decide (h ≤ i)) ∨ inB i 0 9999 = false := by
    unfold inB
    by_cases hi : 0 ≤ i ∧ i ≤ 9999
    · left; rw [Bool.eq_iff_iff]; simp; omega
    · right; simp; omega
  simp only [GsL10One.P, unCover, l1In_eq, l2Day_eq, l8Zone_eq, l8Grams_eq, l8Cents_eq, l9Office_eq, l9Minute_eq, Option.bind_some, letK, joinK, appK, iteK_if, okC]
  cases inB a 1 999 <;> cases inB b 0 4000 <;> cases inB c 0 9 <;> cases inB d 1 2000 <;> cases inB e 1 9999 <;> cases inB f 0 9 <;> cases inB g 0 9 <;> simp
  all_goals
    by_cases hfg : f = g
    · simp [hfg]
    · rcases hh with hh | hh
      · rw [hh]; cases inB h 0 9999 <;> cases inB i 0 9999 <;> simp [hfg]
      · simp [hh]
theorem okC_of {x : Cover} (h : okC x = true) : (1 ≤ x.id ∧ x.id ≤ 999) ∧ (0 ≤ x.day ∧ x.day ≤ 4000) ∧ (0 ≤ x.zone ∧ x.zone ≤ 9) ∧ (1 ≤ x.grams ∧ x.grams ≤ 2000) ∧ (1 ≤ x.paid ∧ x.paid ≤ 9999) := by
  simp only [okC, Bool.and_eq_true, decide_eq_true_eq, bne_iff_ne] at h
  obtain ⟨⟨⟨⟨⟨⟨⟨⟨⟨⟨h1, h2⟩, h3⟩, h4⟩, h5⟩, h6⟩, h7⟩, h8⟩, h9⟩, h10⟩, h11⟩ := h
  exact ⟨inB_of h1, inB_of h2, inB_of h3, inB_of h4, inB_of h5⟩
end Go.Proofs.YtihibckijdfidaaGreat.Q12Cover

