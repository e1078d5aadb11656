/- Plain facts on decimal numerals: what a row of digits is worth, and that a numeral read back is its number. No condition. -/
import Derived.Lib.ItoaLen
import Derived.Lib.AtoiTie
import Derived.Lib.ItoaMem
namespace Go.Proofs.YtpaakpbbahbhcaaDoor.PlainNum

def step (a : Nat) (c : UInt8) : Nat := 10 * a + (c.toNat - 48)
def dv (l : List UInt8) : Nat := l.foldl step 0
def Digs (l : List UInt8) : Prop := ∀ c ∈ l, 48 ≤ c.toNat ∧ c.toNat ≤ 57

theorem dv_snoc (l : List UInt8) (c : UInt8) : dv (l ++ [c]) = 10 * dv l + (c.toNat - 48) := by
  unfold dv; rw [List.foldl_append]; rfl

theorem fold_lt (l : List UInt8) : ∀ a, Digs l → l.foldl step a < (a + 1) * 10 ^ l.length := by
  induction l with
  | nil => intro a _; simp
  | cons c r ih =>
    intro a h
    have hc := h c (by simp)
    have h1 := ih (step a c) (fun x hx => h x (by simp [hx]))
    have h2 : (step a c + 1) * 10 ^ r.length ≤ (10 * (a + 1)) * 10 ^ r.length := Nat.mul_le_mul_right _ (by unfold step; omega)
    have h3 : (10 * (a + 1)) * 10 ^ r.length = (a + 1) * 10 ^ (r.length + 1) := by rw [Nat.pow_succ, Nat.mul_comm 10 (a + 1), Nat.mul_assoc, Nat.mul_comm 10]
    rw [List.foldl_cons, List.length_cons]
    omega

theorem dv_lt (l : List UInt8) (h : Digs l) : dv l < 10 ^ l.length := by
  have := fold_lt l 0 h
  unfold dv; omega

theorem dv_lt6 (l : List UInt8) (h : Digs l) (hl : l.length ≤ 6) : dv l < 1000000 := by
  have h1 := dv_lt l h
  have h2 : 10 ^ l.length ≤ 10 ^ 6 := Nat.pow_le_pow_right (by omega) hl
  omega

theorem digit_toNat (i : Nat) (h : i < 10) : (UInt8.ofNat (48 + i)).toNat = 48 + i := by
  rw [UInt8.toNat_ofNat']; omega

theorem digs_dec (u : Nat) : Digs (Lib.decDigits u) := by
  induction u using Nat.strongRecOn with
  | _ u ih =>
    rw [Lib.decDigits]
    by_cases h : u < 10
    · rw [dif_pos h]
      intro c hc
      obtain rfl : c = UInt8.ofNat (48 + u) := by simpa using hc
      rw [digit_toNat u h]; omega
    · rw [dif_neg h]
      intro c hc
      rcases List.mem_append.1 hc with h1 | h1
      · exact ih (u / 10) (by omega) c h1
      · obtain rfl : c = UInt8.ofNat (48 + u % 10) := by simpa using h1
        rw [digit_toNat _ (by omega)]; omega

theorem dv_dec (u : Nat) : dv (Lib.decDigits u) = u := by
  induction u using Nat.strongRecOn with
  | _ u ih =>
    rw [Lib.decDigits]
    by_cases h : u < 10
    · rw [dif_pos h]
      show step 0 (UInt8.ofNat (48 + u)) = u
      unfold step; rw [digit_toNat u h]; omega
    · rw [dif_neg h, dv_snoc, ih (u / 10) (by omega), digit_toNat _ (by omega)]; omega

theorem nd_le (k : Nat) : ∀ u, u < 10 ^ (k + 1) → Lib.nDigits u ≤ k + 1 := by
  induction k with
  | zero => intro u h; rw [Lib.nDigits_small (by omega)]; omega
  | succ k ih =>
    intro u h
    by_cases h10 : u < 10
    · rw [Lib.nDigits_small h10]; omega
    · rw [Lib.nDigits_big h10]
      have := ih (u / 10) (by rw [Nat.pow_succ] at h; omega)
      omega

theorem len_dec (u : Nat) (h : u ≤ 999999) : 1 ≤ (Lib.decDigits u).length ∧ (Lib.decDigits u).length ≤ 6 := by
  rw [Lib.decDigits_length]
  exact ⟨Lib.nDigits_pos u, nd_le 5 u (by omega)⟩

theorem decFrom_dv (l : List UInt8) : ∀ a, Digs l → Lib.decFrom a l = some (l.foldl step a) := by
  induction l with
  | nil => intro a _; rfl
  | cons c r ih =>
    intro a h
    have hc := h c (by simp)
    have e : Lib.digitVal c = some (c.toNat - 48) := by unfold Lib.digitVal; rw [if_pos hc]
    rw [Lib.decFrom, e]
    show Lib.decFrom (a * 10 + (c.toNat - 48)) r = _
    rw [ih _ (fun x hx => h x (by simp [hx])), Nat.mul_comm a 10]
    rfl

theorem decNat_dec (u : Nat) (h : u ≤ 999999) : Lib.decNat (Lib.decDigits u) = some u := by
  have hl := (len_dec u h).1
  unfold Lib.decNat
  rw [if_neg (by intro e; rw [List.isEmpty_iff] at e; rw [e] at hl; simp at hl), decFrom_dv _ 0 (digs_dec u)]
  exact congrArg some (dv_dec u)

/-- l is the numeral of n -/
def Inv (l : List UInt8) (n : Int) : Prop := -999999 ≤ n ∧ n ≤ 999999 ∧ Lib.itoa n = l

theorem itoa_cases (n : Int) : (n < 0 ∧ Lib.itoa n = 45 :: Lib.decDigits n.natAbs) ∨ (0 ≤ n ∧ Lib.itoa n = Lib.decDigits n.natAbs) := by
  by_cases h : n < 0
  · left; refine ⟨h, ?_⟩; unfold Lib.itoa; rw [if_pos h]
  · right; refine ⟨by omega, ?_⟩; unfold Lib.itoa; rw [if_neg h]; congr 1; omega

theorem itoa_len (n : Int) (h1 : -999999 ≤ n) (h2 : n ≤ 999999) : 1 ≤ (Lib.itoa n).length ∧ (Lib.itoa n).length ≤ 7 := by
  have := len_dec n.natAbs (by omega)
  rcases itoa_cases n with ⟨_, e⟩ | ⟨_, e⟩
  · rw [e, List.length_cons]; omega
  · rw [e]; omega

theorem atoi_itoa (n : Int) (h1 : -999999 ≤ n) (h2 : n ≤ 999999) : Lib.atoiAll (Lib.itoa n) = .ok n := by
  rw [Lib.atoiAll_short _ (by have := itoa_len n h1 h2; omega)]
  have hd := decNat_dec n.natAbs (by omega)
  rcases itoa_cases n with ⟨hn, e⟩ | ⟨hn, e⟩
  · rw [e]
    show Lib.NumEnd.ofOption ((Lib.decNat (Lib.decDigits n.natAbs)).map fun (m : Nat) => -(m : Int)) = _
    rw [hd]
    show Lib.NumEnd.ok (-((n.natAbs : Nat) : Int)) = _
    congr 1; omega
  · rw [e]
    have hl := len_dec n.natAbs (by omega)
    have hg := digs_dec n.natAbs
    cases hx : Lib.decDigits n.natAbs with
    | nil => rw [hx] at hl; simp at hl
    | cons b r =>
      rw [hx] at hg hd
      have hb := hg b (by simp)
      have e1 : (b == 45) = false := by
        rw [beq_eq_false_iff_ne]; rintro rfl; have : (45 : UInt8).toNat = 45 := rfl; omega
      have e2 : (b == 43) = false := by
        rw [beq_eq_false_iff_ne]; rintro rfl; have : (43 : UInt8).toNat = 43 := rfl; omega
      unfold Lib.atoi
      simp only [e1, e2, Bool.false_eq_true, if_false, hd]
      show Lib.NumEnd.ok ((n.natAbs : Nat) : Int) = _
      congr 1; omega

theorem Inv.uniq {l : List UInt8} {n m : Int} (h : Inv l n) (k : Inv l m) : n = m := by
  have e1 := atoi_itoa n h.1 h.2.1
  have e2 := atoi_itoa m k.1 k.2.1
  rw [h.2.2] at e1
  rw [k.2.2] at e2
  rw [e1] at e2
  injection e2

/-- how a numeral's reading ends: the number and true; else 0 and false -/
def Rd (l : List UInt8) (v : Int) (b : Bool) : Prop := (b = true ∧ Inv l v) ∨ (b = false ∧ v = 0 ∧ ∀ n, ¬ Inv l n)

theorem Rd.uniq {l : List UInt8} {v v' : Int} {b b' : Bool} (h : Rd l v b) (k : Rd l v' b') : v = v' ∧ b = b' := by
  rcases h with ⟨rfl, h⟩ | ⟨rfl, rfl, h⟩ <;> rcases k with ⟨rfl, k⟩ | ⟨rfl, rfl, k⟩
  · exact ⟨h.uniq k, rfl⟩
  · exact absurd h (k _)
  · exact absurd k (h _)
  · exact ⟨rfl, rfl⟩

theorem Rd.no {l : List UInt8} (h : ∀ n, ¬ Inv l n) : Rd l 0 false := .inr ⟨rfl, rfl, h⟩
theorem Rd.yes {l : List UInt8} {n : Int} (h : Inv l n) : Rd l n true := .inl ⟨rfl, h⟩

theorem neg_head {r : List UInt8} {n : Int} (h : Inv (45 :: r) n) : n < 0 ∧ r = Lib.decDigits n.natAbs := by
  obtain ⟨h1, h2, h3⟩ := h
  rcases itoa_cases n with ⟨hn, e⟩ | ⟨hn, e⟩
  · rw [e] at h3; injection h3 with _ h3; exact ⟨hn, h3.symm⟩
  · rw [e] at h3
    have := digs_dec n.natAbs 45 (by rw [h3]; simp)
    have e45 : (45 : UInt8).toNat = 45 := rfl
    omega

theorem pos_head {l : List UInt8} {n : Int} (h : Inv l n) (h45 : l.head? ≠ some 45) : 0 ≤ n ∧ l = Lib.decDigits n.natAbs := by
  obtain ⟨h1, h2, h3⟩ := h
  rcases itoa_cases n with ⟨hn, e⟩ | ⟨hn, e⟩
  · rw [e] at h3; subst h3; simp at h45
  · exact ⟨hn, by rw [← h3, e]⟩

/-- the numeral behind the sign -/
theorem no_minus {r : List UInt8} (h : r.length = 0 ∨ 6 < r.length ∨ ¬ Digs r) (n : Int) : ¬ Inv (45 :: r) n := by
  intro k
  obtain ⟨hn, rfl⟩ := neg_head k
  have hl := len_dec n.natAbs (by have := k.1; omega)
  have hd := digs_dec n.natAbs
  rcases h with h | h | h
  · omega
  · omega
  · exact h hd

theorem no_plain {l : List UInt8} (h45 : l.head? ≠ some 45) (h : l.length = 0 ∨ 6 < l.length ∨ ¬ Digs l) (n : Int) : ¬ Inv l n := by
  intro k
  obtain ⟨hn, rfl⟩ := pos_head k h45
  have hl := len_dec n.natAbs (by have := k.2.1; omega)
  have hd := digs_dec n.natAbs
  rcases h with h | h | h
  · omega
  · omega
  · exact h hd

theorem val_minus {r : List UInt8} {n : Int} (k : Inv (45 :: r) n) : n = -(dv r : Int) := by
  obtain ⟨hn, rfl⟩ := neg_head k
  rw [dv_dec]; omega
theorem val_plain {l : List UInt8} {n : Int} (h45 : l.head? ≠ some 45) (k : Inv l n) : n = (dv l : Int) := by
  obtain ⟨hn, rfl⟩ := pos_head k h45
  rw [dv_dec]; omega

/-- the end: the numeral of what was read is the text, or the text is no numeral -/
theorem end_minus {r : List UInt8} (hg : Digs r) (hl : r.length ≤ 6) : (Lib.itoa (-(dv r : Int)) = 45 :: r → Rd (45 :: r) (-(dv r : Int)) true) ∧ (Lib.itoa (-(dv r : Int)) ≠ 45 :: r → Rd (45 :: r) 0 false) := by
  have hb := dv_lt6 r hg hl
  exact ⟨fun e => .yes ⟨by omega, by omega, e⟩, fun e => .no fun n k => e (by rw [← val_minus k]; exact k.2.2)⟩
theorem end_plain {l : List UInt8} (h45 : l.head? ≠ some 45) (hg : Digs l) (hl : l.length ≤ 6) : (Lib.itoa (dv l : Int) = l → Rd l (dv l : Int) true) ∧ (Lib.itoa (dv l : Int) ≠ l → Rd l 0 false) := by
  have hb := dv_lt6 l hg hl
  exact ⟨fun e => .yes ⟨by omega, by omega, e⟩, fun e => .no fun n k => e (by rw [← val_plain h45 k]; exact k.2.2)⟩

theorem one_minus {l : List UInt8} (hp : ¬ (1 < l.length ∧ l.head? = some 45)) (h : l.head? = some 45) : l = [45] := by
  match l, hp, h with
  | [c], _, h => simpa using h
  | c :: d :: r, hp, h => exact absurd ⟨by simp, h⟩ hp

theorem no_plain' {l : List UInt8} (hp : ¬ (1 < l.length ∧ l.head? = some 45)) (h : l.length = 0 ∨ 6 < l.length ∨ ¬ Digs l) (n : Int) : ¬ Inv l n := by
  by_cases h45 : l.head? = some 45
  · rw [one_minus hp h45]; exact no_minus (.inl rfl) n
  · exact no_plain h45 h n

theorem end_plain' {l : List UInt8} (hg : Digs l) (hl : l.length ≤ 6) : (Lib.itoa (dv l : Int) = l → Rd l (dv l : Int) true) ∧ (Lib.itoa (dv l : Int) ≠ l → Rd l 0 false) := by
  refine end_plain (fun h => ?_) hg hl
  cases l with
  | nil => simp at h
  | cons c r =>
    obtain rfl : c = 45 := by simpa using h
    have := hg 45 (by simp)
    have e45 : (45 : UInt8).toNat = 45 := rfl
    omega

end Go.Proofs.YtpaakpbbahbhcaaDoor.PlainNum
