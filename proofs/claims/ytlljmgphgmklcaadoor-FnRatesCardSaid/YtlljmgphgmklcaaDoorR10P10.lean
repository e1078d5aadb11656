/- Texts on which the proofs of several laws stand, one behind the other (10 of 10). No condition of their own. -/
import Derived.Lib.ItoaLen
import Derived.Lib.AtoiTie
import Derived.Lib.ItoaMem
import Derived.Test.YtlljmgphgmklcaaDoorR10P8
import Derived.IntWalk
import Derived.Test.YtlljmgphgmklcaaDoorR10P7
import Derived.Test.YtlljmgphgmklcaaDoorR10P9
import Derived.Test.YtlljmgphgmklcaaDoorR10P1
import Derived.Test.YtlljmgphgmklcaaDoorR10P6
/- Plain facts on decimal numerals: what a row of digits is worth, and that a numeral read back is its number. No condition. -/
namespace Go.Proofs.YtlljmgphgmklcaaDoor.PlainNum

def step (a : Nat) (c : UInt8) : Nat := 10 * a + (c.toNat - 48)
def dv (l : List UInt8) : Nat := l.foldl step 0
def Digs (l : List UInt8) : Prop := ∀ c ∈ l, 48 ≤ c.toNat ∧ c.toNat ≤ 57

theorem dv_snoc (l : List UInt8) (c : UInt8) : dv (l ++ [c]) = 10 * dv l + (c.toNat - 48) := by
  unfold dv; rw [List.foldl_append]; rfl

theorem fold_lt (l : List UInt8) : ∀ a, Digs l → l.foldl step a < (a + 1) * 10 ^ l.length := by
  induction l with
  | nil => intro a _; simp
  | cons c r ih =>
    intro a h
    have hc := h c (by simp)
    have h1 := ih (step a c) (fun x hx => h x (by simp [hx]))
    have h2 : (step a c + 1) * 10 ^ r.length ≤ (10 * (a + 1)) * 10 ^ r.length := Nat.mul_le_mul_right _ (by unfold step; omega)
    have h3 : (10 * (a + 1)) * 10 ^ r.length = (a + 1) * 10 ^ (r.length + 1) := by rw [Nat.pow_succ, Nat.mul_comm 10 (a + 1), Nat.mul_assoc, Nat.mul_comm 10]
    rw [List.foldl_cons, List.length_cons]
    omega

theorem dv_lt (l : List UInt8) (h : Digs l) : dv l < 10 ^ l.length := by
  have := fold_lt l 0 h
  unfold dv; omega

theorem dv_lt6 (l : List UInt8) (h : Digs l) (hl : l.length ≤ 6) : dv l < 1000000 := by
  have h1 := dv_lt l h
  have h2 : 10 ^ l.length ≤ 10 ^ 6 := Nat.pow_le_pow_right (by omega) hl
  omega

theorem digit_toNat (i : Nat) (h : i < 10) : (UInt8.ofNat (48 + i)).toNat = 48 + i := by
  rw [UInt8.toNat_ofNat']; omega

theorem digs_dec (u : Nat) : Digs (Lib.decDigits u) := by
  induction u using Nat.strongRecOn with
  | _ u ih =>
    rw [Lib.decDigits]
    by_cases h : u < 10
    · rw [dif_pos h]
      intro c hc
      obtain rfl : c = UInt8.ofNat (48 + u) := by simpa using hc
      rw [digit_toNat u h]; omega
    · rw [dif_neg h]
      intro c hc
      rcases List.mem_append.1 hc with h1 | h1
      · exact ih (u / 10) (by omega) c h1
      · obtain rfl : c = UInt8.ofNat (48 + u % 10) := by simpa using h1
        rw [digit_toNat _ (by omega)]; omega

theorem dv_dec (u : Nat) : dv (Lib.decDigits u) = u := by
  induction u using Nat.strongRecOn with
  | _ u ih =>
    rw [Lib.decDigits]
    by_cases h : u < 10
    · rw [dif_pos h]
      show step 0 (UInt8.ofNat (48 + u)) = u
      unfold step; rw [digit_toNat u h]; omega
    · rw [dif_neg h, dv_snoc, ih (u / 10) (by omega), digit_toNat _ (by omega)]; omega

theorem nd_le (k : Nat) : ∀ u, u < 10 ^ (k + 1) → Lib.nDigits u ≤ k + 1 := by
  induction k with
  | zero => intro u h; rw [Lib.nDigits_small (by omega)]; omega
  | succ k ih =>
    intro u h
    by_cases h10 : u < 10
    · rw [Lib.nDigits_small h10]; omega
    · rw [Lib.nDigits_big h10]
      have := ih (u / 10) (by rw [Nat.pow_succ] at h; omega)
      omega

theorem len_dec (u : Nat) (h : u ≤ 999999) : 1 ≤ (Lib.decDigits u).length ∧ (Lib.decDigits u).length ≤ 6 := by
  rw [Lib.decDigits_length]
  exact ⟨Lib.nDigits_pos u, nd_le 5 u (by omega)⟩

theorem decFrom_dv (l : List UInt8) : ∀ a, Digs l → Lib.decFrom a l = some (l.foldl step a) := by
  induction l with
  | nil => intro a _; rfl
  | cons c r ih =>
    intro a h
    have hc := h c (by simp)
    have e : Lib.digitVal c = some (c.toNat - 48) := by unfold Lib.digitVal; rw [if_pos hc]
    rw [Lib.decFrom, e]
    show Lib.decFrom (a * 10 + (c.toNat - 48)) r = _
    rw [ih _ (fun x hx => h x (by simp [hx])), Nat.mul_comm a 10]
    rfl

theorem decNat_dec (u : Nat) (h : u ≤ 999999) : Lib.decNat (Lib.decDigits u) = some u := by
  have hl := (len_dec u h).1
  unfold Lib.decNat
  rw [if_neg (by intro e; rw [List.isEmpty_iff] at e; rw [e] at hl; simp at hl), decFrom_dv _ 0 (digs_dec u)]
  exact congrArg some (dv_dec u)

/-- l is the numeral of n -/
def Inv (l : List UInt8) (n : Int) : Prop := -999999 ≤ n ∧ n ≤ 999999 ∧ Lib.itoa n = l

theorem itoa_cases (n : Int) : (n < 0 ∧ Lib.itoa n = 45 :: Lib.decDigits n.natAbs) ∨ (0 ≤ n ∧ Lib.itoa n = Lib.decDigits n.natAbs) := by
  by_cases h : n < 0
  · left; refine ⟨h, ?_⟩; unfold Lib.itoa; rw [if_pos h]
  · right; refine ⟨by omega, ?_⟩; unfold Lib.itoa; rw [if_neg h]; congr 1; omega

theorem itoa_len (n : Int) (h1 : -999999 ≤ n) (h2 : n ≤ 999999) : 1 ≤ (Lib.itoa n).length ∧ (Lib.itoa n).length ≤ 7 := by
  have := len_dec n.natAbs (by omega)
  rcases itoa_cases n with ⟨_, e⟩ | ⟨_, e⟩
  · rw [e, List.length_cons]; omega
  · rw [e]; omega

theorem atoi_itoa (n : Int) (h1 : -999999 ≤ n) (h2 : n ≤ 999999) : Lib.atoiAll (Lib.itoa n) = .ok n := by
  rw [Lib.atoiAll_short _ (by have := itoa_len n h1 h2; omega)]
  have hd := decNat_dec n.natAbs (by omega)
  rcases itoa_cases n with ⟨hn, e⟩ | ⟨hn, e⟩
  · rw [e]
    show Lib.NumEnd.ofOption ((Lib.decNat (Lib.decDigits n.natAbs)).map fun (m : Nat) => -(m : Int)) = _
    rw [hd]
    show Lib.NumEnd.ok (-((n.natAbs : Nat) : Int)) = _
    congr 1; omega
  · rw [e]
    have hl := len_dec n.natAbs (by omega)
    have hg := digs_dec n.natAbs
    cases hx : Lib.decDigits n.natAbs with
    | nil => rw [hx] at hl; simp at hl
    | cons b r =>
      rw [hx] at hg hd
      have hb := hg b (by simp)
      have e1 : (b == 45) = false := by
        rw [beq_eq_false_iff_ne]; rintro rfl; have : (45 : UInt8).toNat = 45 := rfl; omega
      have e2 : (b == 43) = false := by
        rw [beq_eq_false_iff_ne]; rintro rfl; have : (43 : UInt8).toNat = 43 := rfl; omega
      unfold Lib.atoi
      simp only [e1, e2, Bool.false_eq_true, if_false, hd]
      show Lib.NumEnd.ok ((n.natAbs : Nat) : Int) = _
      congr 1; omega

theorem Inv.uniq {l : List UInt8} {n m : Int} (h : Inv l n) (k : Inv l m) : n = m := by
  have e1 := atoi_itoa n h.1 h.2.1
  have e2 := atoi_itoa m k.1 k.2.1
  rw [h.2.2] at e1
  rw [k.2.2] at e2
  rw [e1] at e2
  injection e2

/-- how a numeral's reading ends: the number and true; else 0 and false -/
def Rd (l : List UInt8) (v : Int) (b : Bool) : Prop := (b = true ∧ Inv l v) ∨ (b = false ∧ v = 0 ∧ ∀ n, ¬ Inv l n)

theorem Rd.uniq {l : List UInt8} {v v' : Int} {b b' : Bool} (h : Rd l v b) (k : Rd l v' b') : v = v' ∧ b = b' := by
  rcases h with ⟨rfl, h⟩ | ⟨rfl, rfl, h⟩ <;> rcases k with ⟨rfl, k⟩ | ⟨rfl, rfl, k⟩
  · exact ⟨h.uniq k, rfl⟩
  · exact absurd h (k _)
  · exact absurd k (h _)
  · exact ⟨rfl, rfl⟩

theorem Rd.no {l : List UInt8} (h : ∀ n, ¬ Inv l n) : Rd l 0 false := .inr ⟨rfl, rfl, h⟩
theorem Rd.yes {l : List UInt8} {n : Int} (h : Inv l n) : Rd l n true := .inl ⟨rfl, h⟩

theorem neg_head {r : List UInt8} {n : Int} (h : Inv (45 :: r) n) : n < 0 ∧ r = Lib.decDigits n.natAbs := by
  obtain ⟨h1, h2, h3⟩ := h
  rcases itoa_cases n with ⟨hn, e⟩ | ⟨hn, e⟩
  · rw [e] at h3; injection h3 with _ h3; exact ⟨hn, h3.symm⟩
  · rw [e] at h3
    have := digs_dec n.natAbs 45 (by rw [h3]; simp)
    have e45 : (45 : UInt8).toNat = 45 := rfl
    omega

theorem pos_head {l : List UInt8} {n : Int} (h : Inv l n) (h45 : l.head? ≠ some 45) : 0 ≤ n ∧ l = Lib.decDigits n.natAbs := by
  obtain ⟨h1, h2, h3⟩ := h
  rcases itoa_cases n with ⟨hn, e⟩ | ⟨hn, e⟩
  · rw [e] at h3; subst h3; simp at h45
  · exact ⟨hn, by rw [← h3, e]⟩

/-- the numeral behind the sign -/
theorem no_minus {r : List UInt8} (h : r.length = 0 ∨ 6 < r.length ∨ ¬ Digs r) (n : Int) : ¬ Inv (45 :: r) n := by
  intro k
  obtain ⟨hn, rfl⟩ := neg_head k
  have hl := len_dec n.natAbs (by have := k.1; omega)
  have hd := digs_dec n.natAbs
  rcases h with h | h | h
  · omega
  · omega
  · exact h hd

theorem no_plain {l : List UInt8} (h45 : l.head? ≠ some 45) (h : l.length = 0 ∨ 6 < l.length ∨ ¬ Digs l) (n : Int) : ¬ Inv l n := by
  intro k
  obtain ⟨hn, rfl⟩ := pos_head k h45
  have hl := len_dec n.natAbs (by have := k.2.1; omega)
  have hd := digs_dec n.natAbs
  rcases h with h | h | h
  · omega
  · omega
  · exact h hd

theorem val_minus {r : List UInt8} {n : Int} (k : Inv (45 :: r) n) : n = -(dv r : Int) := by
  obtain ⟨hn, rfl⟩ := neg_head k
  rw [dv_dec]; omega
theorem val_plain {l : List UInt8} {n : Int} (h45 : l.head? ≠ some 45) (k : Inv l n) : n = (dv l : Int) := by
  obtain ⟨hn, rfl⟩ := pos_head k h45
  rw [dv_dec]; omega

/-- the end: the numeral of what was read is the text, or the text is no numeral -/
theorem end_minus {r : List UInt8} (hg : Digs r) (hl : r.length ≤ 6) : (Lib.itoa (-(dv r : Int)) = 45 :: r → Rd (45 :: r) (-(dv r : Int)) true) ∧ (Lib.itoa (-(dv r : Int)) ≠ 45 :: r → Rd (45 :: r) 0 false) := by
  have hb := dv_lt6 r hg hl
  exact ⟨fun e => .yes ⟨by omega, by omega, e⟩, fun e => .no fun n k => e (by rw [← val_minus k]; exact k.2.2)⟩
theorem end_plain {l : List UInt8} (h45 : l.head? ≠ some 45) (hg : Digs l) (hl : l.length ≤ 6) : (Lib.itoa (dv l : Int) = l → Rd l (dv l : Int) true) ∧ (Lib.itoa (dv l : Int) ≠ l → Rd l 0 false) := by
  have hb := dv_lt6 l hg hl
  exact ⟨fun e => .yes ⟨by omega, by omega, e⟩, fun e => .no fun n k => e (by rw [← val_plain h45 k]; exact k.2.2)⟩

theorem one_minus {l : List UInt8} (hp : ¬ (1 < l.length ∧ l.head? = some 45)) (h : l.head? = some 45) : l = [45] := by
  match l, hp, h with
  | [c], _, h => simpa using h
  | c :: d :: r, hp, h => exact absurd ⟨by simp, h⟩ hp

theorem no_plain' {l : List UInt8} (hp : ¬ (1 < l.length ∧ l.head? = some 45)) (h : l.length = 0 ∨ 6 < l.length ∨ ¬ Digs l) (n : Int) : ¬ Inv l n := by
  by_cases h45 : l.head? = some 45
  · rw [one_minus hp h45]; exact no_minus (.inl rfl) n
  · exact no_plain h45 h n

theorem end_plain' {l : List UInt8} (hg : Digs l) (hl : l.length ≤ 6) : (Lib.itoa (dv l : Int) = l → Rd l (dv l : Int) true) ∧ (Lib.itoa (dv l : Int) ≠ l → Rd l 0 false) := by
  refine end_plain (fun h => ?_) hg hl
  cases l with
  | nil => simp at h
  | cons c r =>
    obtain rfl : c = 45 := by simpa using h
    have := hg 45 (by simp)
    have e45 : (45 : UInt8).toNat = 45 := rfl
    omega

end Go.Proofs.YtlljmgphgmklcaaDoor.PlainNum

/- Plain words on the text of a face, and on short decimal texts. No condition. -/
namespace Go.Proofs.YtlljmgphgmklcaaDoor.PlainFace
set_option linter.unusedVariables false
open Go.Proofs.YtlljmgphgmklcaaDoor.PlainNum

def dig (d : Int) : UInt8 := UInt8.ofNat (48 + d.toNat)
theorem itoa_nn {n : Int} (h : 0 ≤ n) : Lib.itoa n = Lib.decDigits n.toNat := by
  rcases itoa_cases n with ⟨h1, _⟩ | ⟨_, e⟩
  · omega
  · rw [e]; congr 1; omega
theorem itoa_dig {d : Int} (h0 : 0 ≤ d) (h : d < 10) : Lib.itoa d = [dig d] := by
  rw [itoa_nn h0, Lib.decDigits_one (by omega)]
  rfl
theorem dec_step (n : Nat) (h : 10 ≤ n) : Lib.decDigits n = Lib.decDigits (n / 10) ++ [UInt8.ofNat (48 + n % 10)] := by
  rw [Lib.decDigits, dif_neg (by omega)]
theorem itoa_hund {r : Int} (h0 : 0 ≤ r) (h : r < 100) : Lib.itoa (100 + r) = [49, dig (r / 10), dig (r % 10)] := by
  rw [itoa_nn (by omega), dec_step _ (by omega), dec_step _ (by omega), Lib.decDigits_one (by omega)]
  unfold dig
  rw [show (100 + r).toNat / 10 / 10 = 1 by omega, show (100 + r).toNat / 10 % 10 = (r / 10).toNat by omega, show (100 + r).toNat % 10 = (r % 10).toNat by omega]
  rfl
theorem itoa_hund' {n : Int} (h0 : 0 ≤ n) : Lib.itoa (100 + n % 100) = [49, dig (n % 100 / 10), dig (n % 10)] := by
  rw [itoa_hund (by omega) (by omega), show n % 100 % 10 = n % 10 by omega]
theorem itoa_short {n : Int} (h1 : -999999 ≤ n) (h2 : n ≤ 999999) : (Lib.itoa n).length ≤ 7 := (itoa_len n h1 h2).2
/-- the text of a face -/
def faceL (n : Int) : List UInt8 := Lib.itoa (n / 100) ++ [46] ++ Lib.itoa (n / 10 % 10) ++ Lib.itoa (n % 10)
theorem faceL_len {n : Int} (h0 : 0 ≤ n) (h : n ≤ 9999) : (faceL n).length ≤ 30 := by
  unfold faceL
  have a := itoa_short (n := n / 100) (by omega) (by omega)
  have b := itoa_short (n := n / 10 % 10) (by omega) (by omega)
  have c := itoa_short (n := n % 10) (by omega) (by omega)
  simp only [List.length_append, List.length_cons, List.length_nil]
  omega
theorem faceL_hund {n : Int} (h0 : 0 ≤ n) (h : n ≤ 9999) : faceL n = Lib.itoa (n / 100) ++ [46] ++ [dig (n % 100 / 10), dig (n % 10)] := by
  unfold faceL
  rw [itoa_dig (d := n / 10 % 10) (by omega) (by omega), itoa_dig (d := n % 10) (by omega) (by omega), show n % 100 / 10 = n / 10 % 10 by omega, List.append_assoc]
  rfl
def str (l : List UInt8) : ByteArray := ⟨l.toArray⟩
def faceRes (n : Int) : ByteArray × Bool := if 0 ≤ n ∧ n ≤ 9999 then (str (faceL n), true) else (⟨#[]⟩, false)
theorem faceRes_yes {n : Int} (h0 : 0 ≤ n) (h : n ≤ 9999) : faceRes n = (str (faceL n), true) := by unfold faceRes; rw [if_pos ⟨h0, h⟩]
theorem faceRes_no {n : Int} (h : n < 0 ∨ 9999 < n) : faceRes n = (⟨#[]⟩, false) := by unfold faceRes; rw [if_neg (by omega)]
end Go.Proofs.YtlljmgphgmklcaaDoor.PlainFace

/- Decimal texts as plain functions: Itoa and l1Num, for short numbers. No condition. -/
namespace Go.Proofs.YtlljmgphgmklcaaDoor.QNum
set_option linter.unusedVariables false
set_option linter.unusedSimpArgs false
open Go.RowKit
open Go.Proofs.YtlljmgphgmklcaaDoor.GoP Go.Proofs.YtlljmgphgmklcaaDoor.QBase

def itoaB (n : Int) : ByteArray := ⟨(Lib.itoa n).toArray⟩
theorem itoa_eq {n : Int} (h1 : -999999 ≤ n) (h2 : n ≤ 999999) : GxStrconvItoa.P n = some (itoaB n) := by unfold GxStrconvItoa.P; rw [if_pos (by omega)]; rfl
theorem num_eq {n : Int} (h1 : -999999 ≤ n) (h2 : n ≤ 999999) : GsL1Num.P n = some (itoaB n) := by unfold GsL1Num.P; rw [if_pos (by omega)]; rfl
theorem itoaB_size {n : Int} (h1 : -999999 ≤ n) (h2 : n ≤ 999999) : (itoaB n).size ≤ 7 := by
  show (Lib.itoa n).toArray.size ≤ 7
  rw [List.size_toArray]; exact (PlainNum.itoa_len n h1 h2).2
theorem wrap_short {x : Int} (h1 : -9223372036854775808 ≤ x) (h2 : x ≤ 9223372036854775807) : IntKind.i64.wrap x = x := IntWalk.i64_in _ (by omega)
theorem fits_cat {a b : ByteArray} (h : a.size + b.size ≤ 9223372036854775807) {ρ : Type} {x : Option ρ} : guardK (a.size + b.size ≤ maxLen) x = x := guardK_pos (by unfold maxLen; exact h)
end Go.Proofs.YtlljmgphgmklcaaDoor.QNum

/- The named law of rates: what it draws, spans and the days around them, and the law answers true. (Q8LawHelp) No condition but those of each theorem. -/
namespace Go.Proofs.YtlljmgphgmklcaaDoor.Q8LawHelp
set_option linter.unusedVariables false
set_option linter.unusedSimpArgs false
open Go.RowKit
open Go.Proofs.YtlljmgphgmklcaaDoor.GoP Go.Proofs.YtlljmgphgmklcaaDoor.PlainStamp Go.Proofs.YtlljmgphgmklcaaDoor.QBase Go.Proofs.YtlljmgphgmklcaaDoor.QOrd Go.Proofs.YtlljmgphgmklcaaDoor.QRiseL Go.Proofs.YtlljmgphgmklcaaDoor.QFold Go.Proofs.YtlljmgphgmklcaaDoor.Q8First Go.Proofs.YtlljmgphgmklcaaDoor.Q8Spans Go.Proofs.YtlljmgphgmklcaaDoor.Q8Heavy Go.Proofs.YtlljmgphgmklcaaDoor.Q8RateFor Go.Proofs.YtlljmgphgmklcaaDoor.Q8For Go.Proofs.YtlljmgphgmklcaaDoor.Q8List Go.Proofs.YtlljmgphgmklcaaDoor.Q8Rate Go.Proofs.YtlljmgphgmklcaaDoor.QNum Go.Proofs.YtlljmgphgmklcaaDoor.QUp Go.Proofs.YtlljmgphgmklcaaDoor.QLoop Go.Proofs.YtlljmgphgmklcaaDoor.PIntA3 Go.Proofs.YtlljmgphgmklcaaDoor.PRate

theorem rateV_le {l : List Rate} (h : okRs l = true) (day zone grams : Int) : rateV l day zone grams ≤ 9999 := by
  unfold rateV
  cases hf : l.find? (onB day zone grams) with
  | none => dsimp only; omega
  | some r => have := okR_of (rs_mem h (List.mem_of_find?_eq_some hf)); dsimp only; omega
theorem rate_rel {l : List Rate} (h : okRs l = true) {i j : Nat} {x y : Rate} (hij : i < j) (hx : l[i]? = some x) (hy : l[j]? = some y) : x.zone < y.zone ∨ x.zone = y.zone ∧ x.grams ≤ y.grams := by
  refine riseL_rel (fun a b : Rate => a.zone < b.zone ∨ a.zone = b.zone ∧ a.grams ≤ b.grams) ?_ ?_ h hij hx hy
  · intro a b _ _ hl
    unfold linkR at hl
    split at hl
    · rename_i h; right; omega
    · simp only [decide_eq_true_eq] at hl; omega
  · intro a b c h1 h2; omega
theorem fold_mem (day zone cents : Int) : ∀ (l : List Rate) (b : Int), List.Pairwise (fun a c : Rate => hvB day zone cents a = true → hvB day zone cents c = true → a.grams ≤ c.grams) l → ∀ r ∈ l, hvB day zone cents r = true → r.grams ≤ l.foldl (fun b r => if hvB day zone cents r = true then r.grams else b) b := by
  intro l
  induction l with
  | nil => intro b _ r hr; simp at hr
  | cons x l ih =>
    intro b hp r hr hh
    rw [List.pairwise_cons] at hp
    rw [List.foldl_cons]
    by_cases hl : ∃ c ∈ l, hvB day zone cents c = true
    · obtain ⟨c, hc, hcb⟩ := hl
      rcases List.mem_cons.1 hr with rfl | hr
      · exact Int.le_trans (hp.1 c hc hh hcb) (ih _ hp.2 c hc hcb)
      · exact ih _ hp.2 r hr hh
    · have hno : ∀ (m : List Rate) (d : Int), (∀ c ∈ m, ¬ hvB day zone cents c = true) → m.foldl (fun b r => if hvB day zone cents r = true then r.grams else b) d = d := by
        intro m
        induction m with
        | nil => intro d _; rfl
        | cons y m ih2 => intro d h; rw [List.foldl_cons, if_neg (h y (by simp))]; exact ih2 d (fun c hc => h c (by simp [hc]))
      rcases List.mem_cons.1 hr with rfl | hr
      · rw [if_pos hh, hno l _ (fun c hc h => hl ⟨c, hc, h⟩)]; exact Int.le_refl _
      · exact absurd ⟨r, hr, hh⟩ hl
/-- the heaviest letter at a letter's own rate is no lighter than it -/
theorem heavy_ge {l : List Rate} (h : okRs l = true) {day zone grams : Int} (hpos : 0 < rateV l day zone grams) : grams ≤ heavyV l day zone (rateV l day zone grams) := by
  unfold rateV at hpos ⊢
  cases hf : l.find? (onB day zone grams) with
  | none => rw [hf] at hpos; simp at hpos
  | some r =>
    dsimp only
    have hb := List.find?_some hf
    have hm := List.mem_of_find?_eq_some hf
    unfold onB at hb
    simp only [Bool.and_eq_true, decide_eq_true_eq] at hb
    have hv : hvB day zone r.cents r = true := by unfold hvB; simp [hb.1.1, hb.2]
    refine Int.le_trans hb.1.2 (fold_mem day zone r.cents l 0 ?_ r hm hv)
    rw [List.pairwise_iff_getElem]
    intro i j hi hj hij ha hc
    have hr := rate_rel h hij (List.getElem?_eq_getElem hi) (List.getElem?_eq_getElem hj)
    unfold hvB at ha hc
    simp only [Bool.and_eq_true, decide_eq_true_eq] at ha hc
    omega
theorem vTri_self (l : List IntA3) : GlVTriples.P l l = some true := by
  simp only [GlVTriples.P, letK, iteK_if]
  rw [if_neg (by simp)]
  refine cnt_is true (fun _ _ => True) ?_ (fun s _ => rfl) () trivial
  rintro k ⟨⟩ nx hk _ hn
  obtain ⟨x, hx, hi⟩ := at_lt (l := l) (k := k) hk
  simp only [GlVTriples.l0, hi, Option.bind_some, unIntA3, letK, appK, iteK_if]
  rw [if_neg (by simp)]
  exact hn () trivial
theorem text_ok (x : Rate) : ∃ a, GiRateText.P x = some (a, okR x) ∧ GsRateText.P x = some (a, okR x) := by
  have h3 := l8One_eq x
  have h4 := isRate_eq x
  have hof := fun hc => okR_of (x := x) hc
  obtain ⟨a, b, c, d, e⟩ := x
  simp only [GiRateText.P, GsRateText.P, unRate, h3, h4, Option.bind_some, letK, iteK_if]
  cases hc : okR ⟨a, b, c, d, e⟩ with
  | false => exact ⟨⟨#[]⟩, by simp, by simp⟩
  | true =>
    obtain ⟨ha, hb, he, hcd⟩ := hof hc
    dsimp only at ha hb he hcd
    have s1 := itoaB_size (n := a) (by omega) (by omega)
    have s2 := itoaB_size (n := b) (by omega) (by omega)
    have s3 := itoaB_size (n := c) (by omega) (by omega)
    have s4 := itoaB_size (n := d) (by omega) (by omega)
    have s5 := itoaB_size (n := e) (by omega) (by omega)
    simp only [itoa_eq (n := a) (by omega) (by omega), itoa_eq (n := b) (by omega) (by omega), itoa_eq (n := c) (by omega) (by omega), itoa_eq (n := d) (by omega) (by omega), itoa_eq (n := e) (by omega) (by omega), num_eq (n := a) (by omega) (by omega), num_eq (n := b) (by omega) (by omega), num_eq (n := c) (by omega) (by omega), num_eq (n := d) (by omega) (by omega), num_eq (n := e) (by omega) (by omega), Option.bind_some]
    have e1 : (⟨#[32]⟩ : ByteArray).size = 1 := rfl
    have e2 : (⟨#[103, 32]⟩ : ByteArray).size = 2 := rfl
    have e3 : (⟨#[46, 46]⟩ : ByteArray).size = 2 := rfl
    have e4 : (⟨#[122]⟩ : ByteArray).size = 1 := rfl
    have e5 : (⟨#[99]⟩ : ByteArray).size = 1 := rfl
    simp only [Bool.not_true, Bool.false_eq_true, if_false]
    rw [guardK_pos (by unfold maxLen; omega)]
    iterate 9 rw [guardK_pos (by simp only [ByteArray.size_append]; unfold maxLen; omega)]
    exact ⟨_, rfl, rfl⟩
end Go.Proofs.YtlljmgphgmklcaaDoor.Q8LawHelp

/- The named law of rates: what it draws, spans and the days around them, and the law answers true. (Q8Edge) No condition but those of each theorem. -/
namespace Go.Proofs.YtlljmgphgmklcaaDoor.Q8Edge
set_option linter.unusedVariables false
set_option linter.unusedSimpArgs false
open Go.RowKit
open Go.Proofs.YtlljmgphgmklcaaDoor.GoP Go.Proofs.YtlljmgphgmklcaaDoor.PlainStamp Go.Proofs.YtlljmgphgmklcaaDoor.QBase Go.Proofs.YtlljmgphgmklcaaDoor.Q8Span Go.Proofs.YtlljmgphgmklcaaDoor.QLoop Go.Proofs.YtlljmgphgmklcaaDoor.PIntA3

theorem ref_last {f : Nat → Int} (hf : ∀ d, 0 ≤ f d) (n : Nat) : (refS f (n + 1)).2 = f n := by
  show (stepS f (refS f n) n).2 = f n
  have := hf n
  unfold stepS
  split
  · rfl
  · dsimp only; omega
/-- the day ahead of a span and the day behind it have another rate -/
theorem ref_edge {f : Nat → Int} (hf : ∀ d, 0 ≤ f d) (n : Nat) : ∀ y ∈ (refS f n).1, (∀ d : Nat, (d : Int) = y.x0 - 1 → f d ≠ y.x2) ∧ (∀ d : Nat, (d : Int) = y.x1 + 1 → d < n → f d ≠ y.x2) := by
  induction n with
  | zero => simp [refS]
  | succ n ih =>
    obtain ⟨g0, g1, g2⟩ := ref_inv hf n
    obtain ⟨c1, c2, c3⟩ := ref_cov hf n
    have hn := hf n
    -- those that end at the last day are the last one
    have hend : ∀ m y z, (refS f n).1 = m ++ [z] → y ∈ m → y.x1 < (n : Int) - 1 := by
      intro m y z e hy
      rw [e, List.pairwise_append] at c2
      have h1 := c2.2.2 y hy z (by simp)
      have h2 := c1 z (by rw [e]; simp)
      omega
    have old : ∀ y ∈ (refS f n).1, (y.x1 < (n : Int) - 1 ∨ f n ≠ y.x2) → ∀ d : Nat, (d : Int) = y.x1 + 1 → d < n + 1 → f d ≠ y.x2 := by
      intro y hy h d hd hdn
      by_cases e : d = n
      · subst e
        rcases h with h | h
        · omega
        · exact h
      · exact (ih y hy).2 d hd (by omega)
    show ∀ y ∈ (stepS f (refS f n) n).1, _
    unfold stepS
    by_cases hp : 0 < f n
    · rw [if_pos hp]
      dsimp only
      by_cases he : f n = (refS f n).2
      · rw [if_pos he]
        obtain ⟨m, z, e, e1, e2⟩ := g1 (by omega)
        rw [e, bump_end]
        intro y hy
        rcases List.mem_append.1 hy with hy | hy
        · have hm : y ∈ (refS f n).1 := by rw [e]; simp [hy]
          exact ⟨(ih y hm).1, old y hm (Or.inl (hend m y z e hy))⟩
        · obtain rfl := List.mem_singleton.1 hy
          have hz := ih z (by rw [e]; simp)
          refine ⟨fun d hd => ?_, fun d hd hdn => ?_⟩
          · have := hz.1 d hd
            dsimp only at hd ⊢
            rw [he, ← e2]; exact this
          · dsimp only at hd; omega
      · rw [if_neg he]
        intro y hy
        rcases List.mem_append.1 hy with hy | hy
        · refine ⟨(ih y hy).1, old y hy ?_⟩
          rcases List.eq_nil_or_concat (refS f n).1 with e | ⟨m, z, e⟩
          · rw [e] at hy; simp at hy
          · rw [List.concat_eq_append] at e
            have hy2 := hy
            rw [e] at hy2
            rcases List.mem_append.1 hy2 with h | h
            · exact Or.inl (hend m y z e h)
            · obtain rfl := List.mem_singleton.1 h
              by_cases hz : (refS f n).2 = 0
              · exact Or.inl (g2 hz m y e)
              · obtain ⟨m2, z2, e3, e4, e5⟩ := g1 (by omega)
                rw [e] at e3
                have := (List.append_inj' e3 rfl).2
                simp only [List.cons.injEq, and_true] at this
                subst this
                exact Or.inr (by rw [e5]; exact he)
        · obtain rfl := List.mem_singleton.1 hy
          refine ⟨fun d hd => ?_, fun d hd hdn => ?_⟩
          · dsimp only at hd ⊢
            obtain rfl : n = d + 1 := by omega
            rw [ref_last hf] at he
            exact fun h => he h.symm
          · dsimp only at hd; omega
    · rw [if_neg hp]
      dsimp only
      intro y hy
      refine ⟨(ih y hy).1, old y hy (Or.inr ?_)⟩
      have hc := c1 y hy
      have := hc.2.2.2 y.x0.toNat (by unfold cov; omega)
      omega
end Go.Proofs.YtlljmgphgmklcaaDoor.Q8Edge

/- The named law of rates: what it draws, spans and the days around them, and the law answers true. (QL8FnRates) No condition but those of each theorem. -/
namespace Go.Proofs.YtlljmgphgmklcaaDoor.QL8FnRates
set_option linter.unusedVariables false
set_option linter.unusedSimpArgs false
open Go.RowKit
open Go.Proofs.YtlljmgphgmklcaaDoor.GoP Go.Proofs.YtlljmgphgmklcaaDoor.PlainStamp Go.Proofs.YtlljmgphgmklcaaDoor.QBase Go.Proofs.YtlljmgphgmklcaaDoor.Q8DrawsF Go.Proofs.YtlljmgphgmklcaaDoor.Q8LawHelp Go.Proofs.YtlljmgphgmklcaaDoor.Q8Edge Go.Proofs.YtlljmgphgmklcaaDoor.QDraw Go.Proofs.YtlljmgphgmklcaaDoor.Q8First Go.Proofs.YtlljmgphgmklcaaDoor.Q8Spans Go.Proofs.YtlljmgphgmklcaaDoor.Q8Span Go.Proofs.YtlljmgphgmklcaaDoor.Q8Heavy Go.Proofs.YtlljmgphgmklcaaDoor.Q8RateFor Go.Proofs.YtlljmgphgmklcaaDoor.Q8For Go.Proofs.YtlljmgphgmklcaaDoor.Q8List Go.Proofs.YtlljmgphgmklcaaDoor.Q8Rate Go.Proofs.YtlljmgphgmklcaaDoor.QUp Go.Proofs.YtlljmgphgmklcaaDoor.QAll Go.Proofs.YtlljmgphgmklcaaDoor.QFold Go.Proofs.YtlljmgphgmklcaaDoor.QRiseL Go.Proofs.YtlljmgphgmklcaaDoor.QOrd Go.Proofs.YtlljmgphgmklcaaDoor.QLoop Go.Proofs.YtlljmgphgmklcaaDoor.PIntA3 Go.Proofs.YtlljmgphgmklcaaDoor.PRate

theorem j1_yes {tapes : List Int → GoC.Tape} (ht : GoC.Tells tapes) (code : List Int) : GlFnRates.j1 code tapes () = some true := by
  obtain ⟨x, e⟩ := drawText_ok ht code
  obtain ⟨a, h1, h2⟩ := text_ok x
  have hxe : Rate.mk x.zone x.grams x.from_ x.until_ x.cents = x := rfl
  simp [GlFnRates.j1, e, unRate, hxe, h1, h2, isRate_eq, bind2, letK, joinK, appK, iteK_if]
theorem no_rate {l : List Rate} (h : okRs l = true) {zone grams : Int} {e : Nat} (he : (e : Int) ≤ 4000) (ho : ∀ y ∈ spanL l zone grams, ¬ cov y (e : Int)) : rateV l (e : Int) zone grams = 0 := by
  refine Classical.byContradiction fun hno => ?_
  have hnn := rateV_nonneg h (e : Int) zone grams
  obtain ⟨_, _, c3⟩ := ref_cov (f := fr l zone grams) (fun d => rateV_nonneg h _ _ _) 4001
  obtain ⟨y, hy, hcv⟩ := c3 e (by omega) (by unfold fr; omega)
  exact ho y hy hcv
theorem j0_yes {tapes : List Int → GoC.Tape} (ht : GoC.Tells tapes) (code : List Int) (fuel : Nat) (hf : 1048577 ≤ fuel) : GlFnRates.j0 code fuel tapes () = some true := by
  obtain ⟨l, z, g, d, e, hl⟩ := drawFirst_ok ht code fuel hf
  have hj := j1_yes ht code
  have hlb : l.length ≤ 9223372036854775807 := by omega
  have e1 := first_impl l z g d hlb
  have e2 := first_spec (fuel := fuel) l z g d hlb (by omega)
  by_cases hc : (okRs l && inB z 0 9 && inB g 1 2000 && inB d 0 4000) = true
  · by_cases hk : skipS (spanL l z g) d ≤ 4000
    · have hr : firstRes l z g d = (skipS (spanL l z g) d, true) := by unfold firstRes; rw [if_pos hc, if_pos hk]
      have hc2 := hc
      simp only [Bool.and_eq_true] at hc2
      have h := hc2.1.1.1
      have hd := inB_of hc2.2
      obtain ⟨c1, c2, _⟩ := ref_cov (f := fr l z g) (fun d => rateV_nonneg h _ _ _) 4001
      have hge := skip_ge (spanL l z g) d
      have hout := skip_out c2 (fun y hy => (c1 y hy).2.1) d
      obtain ⟨q, hq⟩ : ∃ q : Nat, skipS (spanL l z g) d = (q : Int) := ⟨(skipS (spanL l z g) d).toNat, by omega⟩
      change (∀ y ∈ spanL l z g, ¬ cov y (skipS (spanL l z g) d)) at hout
      rw [hq] at hr hge hk hout
      have h0 := no_rate h hk hout
      have hfr : forRes l (q : Int) z g = (0, false) := by unfold forRes; rw [h0]; split <;> rfl
      have hlt : ¬ ((q : Int) < d) := by omega
      simp [GlFnRates.j0, e, bind4, e1, e2, hr, bind2, for_impl l (q : Int) z g hlb, hfr, letK, joinK, appK, iteK_if, hlt, hj]
    · have hr : firstRes l z g d = (0, false) := by unfold firstRes; rw [if_pos hc, if_neg hk]
      simp [GlFnRates.j0, e, bind4, e1, e2, hr, bind2, letK, joinK, appK, iteK_if, hj]
  · have hr : firstRes l z g d = (0, false) := by unfold firstRes; rw [if_neg hc]
    simp [GlFnRates.j0, e, bind4, e1, e2, hr, bind2, letK, joinK, appK, iteK_if, hj]
theorem e0_yes {tapes : List Int → GoC.Tape} (ht : GoC.Tells tapes) (code : List Int) (fuel : Nat) (hf : 1048577 ≤ fuel) (s : Unit) : GlFnRates.e0 code fuel tapes s = some true := by
  obtain ⟨l, d, z, g, e, hl⟩ := drawFor_ok ht code fuel hf
  have hj := j0_yes ht code fuel hf
  have hlb : l.length ≤ 9223372036854775807 := by omega
  have e1 := for_impl l d z g hlb
  have e2 := for_spec (fuel := fuel) l d z g hlb (by omega)
  by_cases hc : (okRs l && inB d 0 4000 && inB z 0 9 && inB g 1 2000) = true
  · by_cases hp : 0 < rateV l d z g
    · have hr : forRes l d z g = (rateV l d z g, true) := by unfold forRes; rw [if_pos hc, decide_eq_true hp]
      have hc2 := hc
      simp only [Bool.and_eq_true] at hc2
      have h := hc2.1.1.1
      have hg := inB_of hc2.2
      have hle := rateV_le h d z g
      have hge := heavy_ge h hp
      have hcB : inB (rateV l d z g) 1 9999 = true := by unfold inB; simp; omega
      have hv : heavyRes l d z (rateV l d z g) = (heavyV l d z (rateV l d z g), true) := by
        unfold heavyRes
        rw [h, hc2.1.1.2, hc2.1.2, hcB, if_pos (show (true && true && true && true) = true from rfl), decide_eq_true (by omega)]
      have hlt : ¬ (heavyV l d z (rateV l d z g) < g) := by omega
      simp [GlFnRates.e0, e, bind4, e1, e2, hr, bind2, heavy_impl l d z (rateV l d z g) hlb, hv, letK, joinK, appK, iteK_if, hlt, hj]
    · have hr : forRes l d z g = (rateV l d z g, false) := by unfold forRes; rw [if_pos hc, decide_eq_false hp]
      simp [GlFnRates.e0, e, bind4, e1, e2, hr, bind2, letK, joinK, appK, iteK_if, hj]
  · have hr : forRes l d z g = (0, false) := by unfold forRes; rw [if_neg hc]
    simp [GlFnRates.e0, e, bind4, e1, e2, hr, bind2, letK, joinK, appK, iteK_if, hj]
theorem law_rates {tapes : List Int → GoC.Tape} (ht : GoC.Tells tapes) (code : List Int) {fuel : Nat} (hf : 1048577 ≤ fuel) : GlFnRates.P fuel tapes code = some true := by
  obtain ⟨l, z, g, e, hl⟩ := drawSpans_ok ht code fuel hf
  have he0 := e0_yes ht code fuel hf
  have hlb : l.length ≤ 9223372036854775807 := by omega
  have e1 := span_impl l z g hlb
  have e2 := span_spec (fuel := fuel) l z g hlb (by omega)
  have e3 := areRates_eq l hlb
  have e4 : GsAreRates.P fuel l = some (okRs l) := by simp only [GsAreRates.P, l8Good_eq l hlb (show 17 < fuel by omega), Option.bind_some]
  simp only [GlFnRates.P, GlVBig.P, Option.bind_some, letK, iteK_if]
  by_cases hbig : (65536 : Int) < (code.length : Int)
  · simp [hbig]
  · have hb0 : decide ((65536 : Int) < (code.length : Int)) = false := decide_eq_false hbig
    by_cases hc : (okRs l && inB z 0 9 && inB g 1 2000) = true
    · have hr : spanRes l z g = (spanL l z g, true) := by unfold spanRes; rw [if_pos hc]
      simp only [Bool.and_eq_true] at hc
      have h := hc.1.1
      have hfn : ∀ d, 0 ≤ fr l z g d := fun d => rateV_nonneg h _ _ _
      obtain ⟨c1, _, _⟩ := ref_cov hfn 4001
      have edge := ref_edge hfn 4001
      have loop : cntK (GlFnRates.l0 l z g (spanL l z g)) (spanL l z g).length 0 () (GlFnRates.e0 code fuel tapes) = some true := by
        refine cnt_is true (fun _ _ => True) ?_ (fun s _ => he0 s) () trivial
        rintro k ⟨⟩ nx hk _ hn
        obtain ⟨y, hy, hi⟩ := at_lt (l := spanL l z g) (k := k) hk
        have hm : y ∈ (refS (fr l z g) 4001).1 := List.mem_of_getElem? hy
        obtain ⟨y0, y1, y2, y3⟩ := c1 y hm
        obtain ⟨ed1, ed2⟩ := edge y hm
        obtain ⟨a, b, c⟩ := y
        dsimp only [cov] at y0 y1 y2 y3 ed1 ed2
        have fa := y3 a.toNat (by omega)
        have fb := y3 b.toNat (by omega)
        unfold fr at fa fb
        rw [show ((a.toNat : Nat) : Int) = a by omega] at fa
        rw [show ((b.toNat : Nat) : Int) = b by omega] at fb
        have hres : ∀ d : Int, 0 ≤ d ∧ d ≤ 4000 → forRes l d z g = (rateV l d z g, decide (0 < rateV l d z g)) := by
          intro d hd
          have : inB d 0 4000 = true := by unfold inB; simpa using hd
          unfold forRes
          rw [h, this, hc.1.2, hc.2, if_pos (show (true && true && true && true) = true from rfl)]
        have hout : ∀ d : Int, ¬ (0 ≤ d ∧ d ≤ 4000) → forRes l d z g = (0, false) := by
          intro d hd
          have : inB d 0 4000 = false := by unfold inB; simpa using hd
          unfold forRes
          rw [this, if_neg (by simp)]
        have r1 : forRes l a z g = (c, true) := by rw [hres a (by omega), fa.2, decide_eq_true (by omega)]
        have r2 : forRes l b z g = (c, true) := by rw [hres b (by omega), fb.2, decide_eq_true (by omega)]
        have r3 : ¬ ((forRes l (a - 1) z g).1 = c) := by
          by_cases h0 : a = 0
          · rw [hout (a - 1) (by omega)]; dsimp only; omega
          · rw [hres (a - 1) (by omega)]
            have := ed1 (a - 1).toNat (by omega)
            unfold fr at this
            rw [show (((a - 1).toNat : Nat) : Int) = a - 1 by omega] at this
            exact this
        have r4 : ¬ ((forRes l (b + 1) z g).1 = c) := by
          by_cases h0 : b = 4000
          · rw [hout (b + 1) (by omega)]; dsimp only; omega
          · rw [hres (b + 1) (by omega)]
            have := ed2 (b + 1).toNat (by omega) (by omega)
            unfold fr at this
            rw [show (((b + 1).toNat : Nat) : Int) = b + 1 by omega] at this
            exact this
        obtain ⟨⟨p3, q3⟩, h3⟩ : ∃ x, forRes l (a - 1) z g = x := ⟨_, rfl⟩
        obtain ⟨⟨p4, q4⟩, h4⟩ : ∃ x, forRes l (b + 1) z g = x := ⟨_, rfl⟩
        rw [h3] at r3; rw [h4] at r4
        dsimp only at r3 r4
        have w1 : IntKind.i64.wrap (a - 1) = a - 1 := wrap_in (by omega) (by omega)
        have w2 : IntKind.i64.wrap (b + 1) = b + 1 := wrap_in (by omega) (by omega)
        simp only [GlFnRates.l0, hi, Option.bind_some, unIntA3, for_impl _ _ _ _ hlb, r1, r2, w1, w2, h3, h4, bind2_some, letK, joinK, appK, iteK_if, bne_self_eq_false, Bool.not_true, Bool.false_eq_true, if_false]
        have b3 : (p3 == c) = false := by simpa using r3
        have b4 : (p4 == c) = false := by simpa using r4
        simp only [b3, b4, Bool.false_eq_true, if_false]
        exact hn () trivial
      simp [hb0, e, bind3, e1, e2, hr, bind2, e3, e4, vTri_self, joinK, appK, loop]
    · have hr : spanRes l z g = ([], false) := by unfold spanRes; rw [if_neg hc]
      have loop : cntK (GlFnRates.l0 l z g []) 0 0 () (GlFnRates.e0 code fuel tapes) = some true := he0 ()
      simp [hb0, e, bind3, e1, e2, hr, bind2, e3, e4, vTri_self, joinK, appK, loop]
end Go.Proofs.YtlljmgphgmklcaaDoor.QL8FnRates

