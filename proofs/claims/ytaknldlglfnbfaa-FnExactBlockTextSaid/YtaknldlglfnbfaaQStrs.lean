/- The laws' helpers on slices of strings as plain functions: their bulk, copied, equal. Loops that test each place, and loops without a count. Condition: what is copied has at most 2^20 strings. -/
import Derived.Test.YtaknldlglfnbfaaQLoop
import Derived.Test.YtaknldlglfnbfaaGlToStringS
import Derived.Test.YtaknldlglfnbfaaGlEqStringS
import Derived.Test.YtaknldlglfnbfaaGlSzStringS
namespace Go.Proofs.Ytaknldlglfnbfaa.QStrs
set_option linter.unusedVariables false
set_option linter.unusedSimpArgs false
open Go.RowKit
open Go.Proofs.Ytaknldlglfnbfaa.GoP Go.Proofs.Ytaknldlglfnbfaa.QBase Go.Proofs.Ytaknldlglfnbfaa.QLoop

theorem size_list (s : ByteArray) : s.toList.length = s.size := by rw [Lib.toList_data]; rfl
theorem szS (l : List ByteArray) (left : Int) (h0 : 0 ≤ left) (h1 : left ≤ 1048576) (hf : ∀ s ∈ l, s.size ≤ maxLen) (hl : l.length ≤ 9223372036854775807) :
    ∃ v, GlSzStringS.P l left = some v ∧ v ≤ 1048576 ∧ (0 ≤ v → l.length ≤ 1048576 ∧ ∀ s ∈ l, s.size ≤ 1048576) := by
  simp only [GlSzStringS.P, letK, iteK_if]
  rw [wrap_in (by omega) (by omega)]
  by_cases h : left - (l.length : Int) < 0
  · exact ⟨-1, by rw [if_pos (by simp; omega)], by omega, by omega⟩
  · rw [if_neg (by simp; omega)]
    refine cnt_ex (n := l.length) (Q := fun v => v ≤ 1048576 ∧ (0 ≤ v → l.length ≤ 1048576 ∧ ∀ s ∈ l, s.size ≤ 1048576)) (fun k (s : Int) => 0 ≤ s ∧ s ≤ 1048576 ∧ ∀ x ∈ l.take k, x.size ≤ 1048576) ?_ ?_ l.length 0 _ (by omega) ⟨by omega, by omega, by simp⟩
    · intro k s nx hk hI hn
      obtain ⟨x, hx, hi⟩ := at_lt (l := l) (k := k) hk
      have hm := hf x (List.mem_of_getElem? hx)
      unfold maxLen at hm
      simp only [GlSzStringS.l0, hi, Option.bind_some, letK, appK, iteK_if]
      rw [wrap_in (by omega) (by omega)]
      by_cases hb : s - (x.size : Int) < 0
      · rw [if_pos (by simp; omega)]; exact ⟨-1, rfl, by omega, by omega⟩
      · rw [if_neg (by simp; omega)]
        refine hn _ ⟨by omega, by omega, fun y hy => ?_⟩
        rw [take_next hx] at hy
        rcases List.mem_append.1 hy with h1 | h1
        · exact hI.2.2 y h1
        · obtain rfl : y = x := by simpa using h1
          omega
    · intro s hI
      refine ⟨s, rfl, hI.2.1, fun _ => ⟨by omega, fun y hy => hI.2.2 y (by rw [List.take_length]; exact hy)⟩⟩
theorem toS (l : List ByteArray) (hl : l.length ≤ 1048576) : GlToStringS.P l = some l := by
  simp only [GlToStringS.P, letK]
  rw [guardK_pos (by omega)]
  refine cnt_is l (fun k s => s = l.take k ++ List.replicate (l.length - k) ByteArray.empty) ?_ ?_ _ (by simp)
  · intro k s nx hk hI hn
    obtain ⟨x, hx, hi⟩ := at_lt (l := l) (k := k) hk
    have hlen : s.length = l.length := by rw [hI]; simp; omega
    obtain ⟨z, hz, hj⟩ := at_lt (l := s) (k := k) (by omega)
    simp only [GlToStringS.l0, hi, hj, Option.bind_some, letK, appK]
    refine hn _ ?_
    rw [hI, take_next hx, List.set_append_right _ _ (by simp; omega)]
    have hr : l.length - k = (l.length - (k + 1)) + 1 := by omega
    rw [hr, List.replicate_succ, List.append_assoc]
    simp [show k - min k l.length = 0 by omega]
  · intro s hI
    rw [hI]; simp [GlToStringS.e0, letK]
theorem eqS (l : List ByteArray) : GlEqStringS.P l l = some true := by
  simp only [GlEqStringS.P, letK, iteK_if]
  rw [if_neg (by simp)]
  refine cnt_is true (fun _ _ => True) ?_ (fun s _ => rfl) () trivial
  intro k s nx hk _ hn
  obtain ⟨x, hx, hi⟩ := at_lt (l := l) (k := k) hk
  simp only [GlEqStringS.l0, hi, Option.bind_some, letK, appK, iteK_if]
  rw [if_neg (by simp)]
  exact hn () trivial

/-- each number below n is good -/
def allN (n : Nat) (p : Nat → Bool) : Bool := (List.range n).all p
theorem allN_iff {n : Nat} {p : Nat → Bool} : allN n p = true ↔ ∀ i, i < n → p i = true := by unfold allN; simp
theorem allN_no {n k : Nat} {p : Nat → Bool} (hk : k < n) (h : p k = false) : allN n p = false := by
  rw [Bool.eq_false_iff]; intro ha; rw [allN_iff.1 ha k hk] at h; exact absurd h (by simp)
theorem allN_eq {n m : Nat} {p q : Nat → Bool} (h : (∀ i, i < n → p i = true) ↔ (∀ i, i < m → q i = true)) : allN n p = allN m q := by
  rw [Bool.eq_iff_iff, allN_iff, allN_iff]; exact h
theorem all_cnt {ρ : Type} {n : Nat} {p : Nat → Bool} {no : ρ} {f : Nat → Unit → (Unit → Option ρ) → (Unit → Option ρ) → Option ρ} {fin : Unit → Option ρ}
    (step : ∀ k nx, k < n → (p k = false → f k () nx fin = some no) ∧ (p k = true → f k () nx fin = nx ())) : cntK f n 0 () fin = if allN n p = true then fin () else some no := by
  have key : ∀ m k, k + m = n → (∀ i, i < k → p i = true) → cntK f m k () fin = if allN n p = true then fin () else some no := by
    intro m
    induction m with
    | zero => intro k hk hu; obtain rfl : k = n := by omega
              rw [allN_iff.2 hu]; rfl
    | succ m ih =>
      intro k hk hu
      obtain ⟨h1, h2⟩ := step k (fun s' => cntK f m (k + 1) s' fin) (by omega)
      show f k () _ fin = _
      cases hp : p k with
      | false => rw [h1 hp, allN_no (by omega) hp]; rfl
      | true =>
        rw [h2 hp]
        refine ih (k + 1) (by omega) (fun i hi => ?_)
        by_cases he : i = k
        · rw [he]; exact hp
        · exact hu i (by omega)
  exact key n 0 (by omega) (fun i hi => by omega)
theorem lp_ex {σ ρ : Type} {f : σ → (σ → Option ρ) → (σ → Option ρ) → Option ρ} {fin : σ → Option ρ} {Q : ρ → Prop} {n : Nat} (I : Nat → σ → Prop)
    (step : ∀ k s nx, k < n → I k s → (∀ s', I (k + 1) s' → ∃ r, nx s' = some r ∧ Q r) → ∃ r, f s nx fin = some r ∧ Q r) (done : ∀ s nx, I n s → ∃ r, f s nx fin = some r ∧ Q r) :
    ∀ fuel k s, k ≤ n → n - k < fuel → I k s → ∃ r, loopK f fuel s fin = some r ∧ Q r := by
  intro fuel
  induction fuel with
  | zero => intro k s hk hf; omega
  | succ m ih =>
    intro k s hk hf hI
    show ∃ r, f s _ fin = some r ∧ Q r
    by_cases he : k = n
    · subst he; exact done s _ hI
    · exact step k s _ (by omega) hI (fun s' h' => ih (k + 1) s' (by omega) (by omega) h')
theorem all_lp {ρ : Type} {n : Nat} {p : Nat → Bool} {no : ρ} {f : Int → (Int → Option ρ) → (Int → Option ρ) → Option ρ} {fin : Int → Option ρ}
    (step : ∀ (k : Nat) nx, k < n → (p k = false → f (k : Int) nx fin = some no) ∧ (p k = true → f (k : Int) nx fin = nx ((k + 1 : Nat) : Int))) (stop : ∀ nx, f (n : Int) nx fin = fin (n : Int))
    (fuel : Nat) (hf : n < fuel) : loopK f fuel 0 fin = if allN n p = true then fin (n : Int) else some no := by
  have key : ∀ fuel k, k ≤ n → n - k < fuel → (∀ i, i < k → p i = true) → loopK f fuel (k : Int) fin = if allN n p = true then fin (n : Int) else some no := by
    intro fuel
    induction fuel with
    | zero => intro k hk hf; omega
    | succ m ih =>
      intro k hk hf hu
      show f (k : Int) _ fin = _
      by_cases he : k = n
      · subst he; rw [stop, allN_iff.2 hu]; rfl
      · obtain ⟨h1, h2⟩ := step k (fun s' => loopK f m s' fin) (by omega)
        cases hp : p k with
        | false => rw [h1 hp, allN_no (by omega) hp]; rfl
        | true =>
          rw [h2 hp]
          refine ih (k + 1) (by omega) (by omega) (fun i hi => ?_)
          by_cases he : i = k
          · rw [he]; exact hp
          · exact hu i (by omega)
  exact key fuel 0 (by omega) (by omega) (fun i hi => by omega)
theorem next_i {k : Nat} (h : k ≤ 9223372036854775806) : IntKind.i64.wrap ((k : Int) + 1) = ((k + 1 : Nat) : Int) := by rw [wrap_in (by omega) (by omega)]; omega
theorem at_list {s : ByteArray} {k : Nat} (h : k < s.size) : ∃ b, s.toList[k]? = some b ∧ idx s.toList (k : Int) = some b ∧ s.toList.getD k 0 = b := by
  obtain ⟨b, hb, hi⟩ := at_lt (l := s.toList) (k := k) (by rw [size_list]; exact h)
  exact ⟨b, hb, hi, by rw [List.getD_eq_getElem?_getD, hb]; rfl⟩
theorem at_row {l : List ByteArray} {k : Nat} (h : k < l.length) : ∃ r, l[k]? = some r ∧ idx l (k : Int) = some r ∧ l.getD k ByteArray.empty = r := by
  obtain ⟨b, hb, hi⟩ := at_lt (l := l) (k := k) h
  exact ⟨b, hb, hi, by rw [List.getD_eq_getElem?_getD, hb]; rfl⟩
end Go.Proofs.Ytaknldlglfnbfaa.QStrs
