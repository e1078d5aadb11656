/- Texts on which the proofs of several laws stand, one behind the other (9 of 10). No condition of their own. -/
import Derived.Test.YtlljmgphgmklcaaDoorR10P8
import Derived.Test.YtlljmgphgmklcaaDoorR10P1
import Derived.Test.YtlljmgphgmklcaaDoorR10P2
import Derived.Test.YtlljmgphgmklcaaDoorR10P3
import Derived.Test.YtlljmgphgmklcaaDoorR10P6
import Derived.Test.YtlljmgphgmklcaaDoorR10P4
import Derived.Test.YtlljmgphgmklcaaDoorR10P7
import Derived.Test.YtlljmgphgmklcaaDoorR10P5
/- Loops that test each place, and loops without a count. No condition. -/
namespace Go.Proofs.YtlljmgphgmklcaaDoor.QAll
set_option linter.unusedVariables false
set_option linter.unusedSimpArgs false
open Go.RowKit
open Go.Proofs.YtlljmgphgmklcaaDoor.GoP Go.Proofs.YtlljmgphgmklcaaDoor.QBase Go.Proofs.YtlljmgphgmklcaaDoor.QLoop

/-- each number below n is good -/
def allN (n : Nat) (p : Nat → Bool) : Bool := (List.range n).all p
theorem allN_iff {n : Nat} {p : Nat → Bool} : allN n p = true ↔ ∀ i, i < n → p i = true := by unfold allN; simp
theorem allN_no {n k : Nat} {p : Nat → Bool} (hk : k < n) (h : p k = false) : allN n p = false := by
  rw [Bool.eq_false_iff]; intro ha; rw [allN_iff.1 ha k hk] at h; exact absurd h (by simp)
theorem allN_eq {n m : Nat} {p q : Nat → Bool} (h : (∀ i, i < n → p i = true) ↔ (∀ i, i < m → q i = true)) : allN n p = allN m q := by
  rw [Bool.eq_iff_iff, allN_iff, allN_iff]; exact h
theorem all_cnt {ρ : Type} {n : Nat} {p : Nat → Bool} {no : ρ} {f : Nat → Unit → (Unit → Option ρ) → (Unit → Option ρ) → Option ρ} {fin : Unit → Option ρ}
    (step : ∀ k nx, k < n → (p k = false → f k () nx fin = some no) ∧ (p k = true → f k () nx fin = nx ())) : cntK f n 0 () fin = if allN n p = true then fin () else some no := by
  have key : ∀ m k, k + m = n → (∀ i, i < k → p i = true) → cntK f m k () fin = if allN n p = true then fin () else some no := by
    intro m
    induction m with
    | zero => intro k hk hu; obtain rfl : k = n := by omega
              rw [allN_iff.2 hu]; rfl
    | succ m ih =>
      intro k hk hu
      obtain ⟨h1, h2⟩ := step k (fun s' => cntK f m (k + 1) s' fin) (by omega)
      show f k () _ fin = _
      cases hp : p k with
      | false => rw [h1 hp, allN_no (by omega) hp]; rfl
      | true =>
        rw [h2 hp]
        refine ih (k + 1) (by omega) (fun i hi => ?_)
        by_cases he : i = k
        · rw [he]; exact hp
        · exact hu i (by omega)
  exact key n 0 (by omega) (fun i hi => by omega)
theorem lp_ex {σ ρ : Type} {f : σ → (σ → Option ρ) → (σ → Option ρ) → Option ρ} {fin : σ → Option ρ} {Q : ρ → Prop} {n : Nat} (I : Nat → σ → Prop)
    (step : ∀ k s nx, k < n → I k s → (∀ s', I (k + 1) s' → ∃ r, nx s' = some r ∧ Q r) → ∃ r, f s nx fin = some r ∧ Q r) (done : ∀ s nx, I n s → ∃ r, f s nx fin = some r ∧ Q r) :
    ∀ fuel k s, k ≤ n → n - k < fuel → I k s → ∃ r, loopK f fuel s fin = some r ∧ Q r := by
  intro fuel
  induction fuel with
  | zero => intro k s hk hf; omega
  | succ m ih =>
    intro k s hk hf hI
    show ∃ r, f s _ fin = some r ∧ Q r
    by_cases he : k = n
    · subst he; exact done s _ hI
    · exact step k s _ (by omega) hI (fun s' h' => ih (k + 1) s' (by omega) (by omega) h')
theorem all_lp {ρ : Type} {n : Nat} {p : Nat → Bool} {no : ρ} {f : Int → (Int → Option ρ) → (Int → Option ρ) → Option ρ} {fin : Int → Option ρ}
    (step : ∀ (k : Nat) nx, k < n → (p k = false → f (k : Int) nx fin = some no) ∧ (p k = true → f (k : Int) nx fin = nx ((k + 1 : Nat) : Int))) (stop : ∀ nx, f (n : Int) nx fin = fin (n : Int))
    (fuel : Nat) (hf : n < fuel) : loopK f fuel 0 fin = if allN n p = true then fin (n : Int) else some no := by
  have key : ∀ fuel k, k ≤ n → n - k < fuel → (∀ i, i < k → p i = true) → loopK f fuel (k : Int) fin = if allN n p = true then fin (n : Int) else some no := by
    intro fuel
    induction fuel with
    | zero => intro k hk hf; omega
    | succ m ih =>
      intro k hk hf hu
      show f (k : Int) _ fin = _
      by_cases he : k = n
      · subst he; rw [stop, allN_iff.2 hu]; rfl
      · obtain ⟨h1, h2⟩ := step k (fun s' => loopK f m s' fin) (by omega)
        cases hp : p k with
        | false => rw [h1 hp, allN_no (by omega) hp]; rfl
        | true =>
          rw [h2 hp]
          refine ih (k + 1) (by omega) (by omega) (fun i hi => ?_)
          by_cases he : i = k
          · rw [he]; exact hp
          · exact hu i (by omega)
  exact key fuel 0 (by omega) (by omega) (fun i hi => by omega)
theorem next_i {k : Nat} (h : k ≤ 9223372036854775806) : IntKind.i64.wrap ((k : Int) + 1) = ((k + 1 : Nat) : Int) := by rw [wrap_in (by omega) (by omega)]; omega
end Go.Proofs.YtlljmgphgmklcaaDoor.QAll

/- Rising rows: what a rising row gives; loops that sum; loops from one on. No condition. -/
namespace Go.Proofs.YtlljmgphgmklcaaDoor.QUp
set_option linter.unusedVariables false
set_option linter.unusedSimpArgs false
open Go.RowKit
open Go.Proofs.YtlljmgphgmklcaaDoor.GoP Go.Proofs.YtlljmgphgmklcaaDoor.QBase Go.Proofs.YtlljmgphgmklcaaDoor.QLoop Go.Proofs.YtlljmgphgmklcaaDoor.QAll

theorem upTo_at {α : Type} {ok : α → Bool} {id : α → Int} {l : List α} {n : Nat} (h : upTo ok id l n = true) {k : Nat} (hk : k < n) : upAt ok id l k = true := List.all_eq_true.1 h k (List.mem_range.2 hk)
theorem upTo_ok {α : Type} {ok : α → Bool} {id : α → Int} {l : List α} {n : Nat} (h : upTo ok id l n = true) {k : Nat} (hk : k < n) {x : α} (hx : l[k]? = some x) : ok x = true := by
  have := upTo_at h hk
  unfold upAt at this
  rw [hx] at this
  simp only [Bool.and_eq_true] at this
  exact this.1
theorem upTo_step {α : Type} {ok : α → Bool} {id : α → Int} {l : List α} {n : Nat} (h : upTo ok id l n = true) {k : Nat} (hk : k + 1 < n) {x y : α} (hx : l[k]? = some x) (hy : l[k + 1]? = some y) : id x < id y := by
  have := upTo_at h hk
  unfold upAt at this
  rw [hy] at this
  simp only [Nat.add_sub_cancel, hx, Bool.and_eq_true, Bool.or_eq_true, decide_eq_true_eq] at this
  rcases this.2 with h0 | h0
  · omega
  · exact h0
theorem upTo_lt {α : Type} {ok : α → Bool} {id : α → Int} {l : List α} {n : Nat} (h : upTo ok id l n = true) (hn : n ≤ l.length) {i : Nat} : ∀ d {x y : α}, i + d + 1 < n → l[i]? = some x → l[i + d + 1]? = some y → id x < id y := by
  intro d
  induction d with
  | zero => intro x y hk hx hy; exact upTo_step h hk hx hy
  | succ d ih =>
    intro x y hk hx hy
    obtain ⟨z, hz, _⟩ := at_lt (l := l) (k := i + d + 1) (by omega)
    have h1 := ih (by omega) hx hz
    have h2 := upTo_step (k := i + d + 1) h (by omega) hz (by rw [← hy]; rfl)
    omega
/-- rising numbers: the later one is greater -/
theorem up_less {α : Type} {ok : α → Bool} {id : α → Int} {l : List α} (h : upTo ok id l l.length = true) {i j : Nat} {x y : α} (hij : i < j) (hx : l[i]? = some x) (hy : l[j]? = some y) : id x < id y := by
  have hj := (List.getElem?_eq_some_iff.1 hy).1
  exact upTo_lt h (Nat.le_refl _) (j - i - 1) (by omega) hx (by rw [← hy]; congr 1; omega)
/-- a loop with fuel, from k on, by an invariant -/
theorem lp_is {σ ρ : Type} {f : σ → (σ → Option ρ) → (σ → Option ρ) → Option ρ} {fin : σ → Option ρ} {n : Nat} (r : ρ) (I : Nat → σ → Prop)
    (step : ∀ k s nx, k < n → I k s → (∀ s', I (k + 1) s' → nx s' = some r) → f s nx fin = some r) (done : ∀ s nx, I n s → f s nx fin = some r) (fuel : Nat) (k : Nat) (s : σ) (hk : k ≤ n) (hf : n - k < fuel) (hI : I k s) : loopK f fuel s fin = some r := by
  obtain ⟨r', h, rfl⟩ := lp_ex (Q := fun x => x = r) I (fun k s nx hk hI hn => ⟨r, step k s nx hk hI (fun s' h' => by obtain ⟨_, h, rfl⟩ := hn s' h'; exact h), rfl⟩) (fun s nx h => ⟨r, done s nx h, rfl⟩) fuel k s hk hf hI
  exact h
theorem most_eq (a b : Int) (h : (if b < a then a else b) = max a b := by omega) : (if b < a then a else b) = max a b := h
end Go.Proofs.YtlljmgphgmklcaaDoor.QUp

/- What the named laws of rates draw: rates, days, weights: the draws answer, within bounds. (Q8Draws) No condition but those of each theorem. -/
namespace Go.Proofs.YtlljmgphgmklcaaDoor.Q8Draws
set_option linter.unusedVariables false
set_option linter.unusedSimpArgs false
open Go.RowKit
open Go.Proofs.YtlljmgphgmklcaaDoor.GoP Go.Proofs.YtlljmgphgmklcaaDoor.PlainStamp Go.Proofs.YtlljmgphgmklcaaDoor.QBase Go.Proofs.YtlljmgphgmklcaaDoor.QDraw Go.Proofs.YtlljmgphgmklcaaDoor.QUp Go.Proofs.YtlljmgphgmklcaaDoor.QAll Go.Proofs.YtlljmgphgmklcaaDoor.QLoop Go.Proofs.YtlljmgphgmklcaaDoor.PRate

def smR (x : Rate) : Prop := (-10000 ≤ x.zone ∧ x.zone ≤ 10000) ∧ (-10000 ≤ x.grams ∧ x.grams ≤ 10000) ∧ (-10000 ≤ x.from_ ∧ x.from_ ≤ 10000) ∧ (-10000 ≤ x.until_ ∧ x.until_ ≤ 10000) ∧ (-10000 ≤ x.cents ∧ x.cents ≤ 10000)
theorem day8_ok {t : GoC.Tape} {m : Nat} (h : good t (m + 2)) : ∃ x t', GsL1CurRateDay.P t = some (x, t') ∧ good t' m := by
  obtain ⟨x, t1, e1, _, h1⟩ := among_ok (l := [0, 1, 4, 5, 6, 9, 10, 11, 14, 15, 20, 25, 4000, 4001, (-1)]) h (by simp)
  exact ⟨x, t1, by simp only [GsL1CurRateDay.P, letK, e1, bind2_some], h1⟩
theorem rate8_ok {t : GoC.Tape} {m : Nat} (z g f : Int) (hz : -10000 ≤ z ∧ z ≤ 10000) (hg : -10000 ≤ g ∧ g ≤ 10000) (hf : -6000 ≤ f ∧ f ≤ 6000) (h : good t (m + 8)) : ∃ x t', GsL1CurRate.P t z g f = some (x, t') ∧ smR x ∧ (f - 1 ≤ x.until_ ∨ 4000 ≤ x.until_) ∧ good t' m := by
  obtain ⟨a, t1, e1, ha, h1⟩ := among_ok (l := [5, 9, 9, 19]) (m := m + 6) h (by simp)
  obtain ⟨c, t2, e2, hc, h2⟩ := among_ok (l := [3, 5, 5, 10, 12, 25, 9999]) (m := m + 4) h1 (by simp)
  obtain ⟨p, t3, e3, hp0, hp, _, h3⟩ := pick_ok (n := 64) (m := m + 2) h2
  have ha2 : 0 ≤ a ∧ a ≤ 19 := by simp only [List.mem_cons, List.not_mem_nil, or_false] at ha; omega
  have hc2 : 0 ≤ c ∧ c ≤ 9999 := by simp only [List.mem_cons, List.not_mem_nil, or_false] at hc; omega
  simp only [GsL1CurRate.P, letK, e1, e2, e3, bind2_some, iteK_if]
  rw [wrap_in (x := f + a) (by omega) (by omega), wrap_in (x := f - 1) (by omega) (by omega)]
  by_cases hp1 : p = 0
  · obtain ⟨u, t4, e4, hu, h4⟩ := among_ok (l := [f - 1, 4000, 4001]) (m := m) h3 (by simp)
    simp only [List.mem_cons, List.not_mem_nil, or_false] at hu
    refine ⟨⟨z, g, f, u, c⟩, t4, by simp only [hp1, beq_self_eq_true, if_true, e4, bind2_some], ⟨hz, hg, ?_, ?_, ?_⟩, ?_, h4⟩ <;> dsimp only <;> omega
  · have hpb : (p == 0) = false := by simpa using hp1
    by_cases hp2 : p = 1
    · obtain ⟨u, t4, e4, hu, h4⟩ := among_ok (l := [0, 10000]) (m := m) h3 (by simp)
      simp only [List.mem_cons, List.not_mem_nil, or_false] at hu
      refine ⟨⟨z, g, f, f + a, u⟩, t4, by simp only [hp2, show ((1 : Int) == 0) = false from rfl, Bool.false_eq_true, if_false, beq_self_eq_true, if_true, e4, bind2_some], ⟨hz, hg, ?_, ?_, ?_⟩, ?_, h4⟩ <;> dsimp only <;> omega
    · have hpb2 : (p == 1) = false := by simpa using hp2
      refine ⟨⟨z, g, f, f + a, c⟩, t3, by simp only [hpb, hpb2, Bool.false_eq_true, if_false], ⟨hz, hg, ?_, ?_, ?_⟩, ?_, good_less h3 (by omega)⟩ <;> dsimp only <;> omega
/-- one round: at most two rates more -/
theorem round8_ok {R : Type} {k0 k1 : Nat} (hk0 : k0 < 3) (hk1 : k1 < 3) {l : List Rate} {t : GoC.Tape} {m : Nat} (hl : l.length ≤ 1000) (hs : ∀ x ∈ l, smR x) (h : good t (m + 24)) (nx bk : List Rate × GoC.Tape → Option (List Rate × GoC.Tape)) :
    ∃ l' t', GsL1CurRates.l1 k0 k1 (l, t) nx bk = nx (l', t') ∧ l'.length ≤ l.length + 2 ∧ (∀ x ∈ l', smR x) ∧ good t' m := by
  obtain ⟨b, t1, e1, h1⟩ := one_ok (n := 2) (m := m + 22) h
  simp only [GsL1CurRates.l1, unp2, e1, bind2_some, iteK_if]
  cases b with
  | false => exact ⟨l, t1, by simp [appK], by omega, hs, good_less h1 (by omega)⟩
  | true =>
    obtain ⟨gr, hgr, hgi⟩ := at_lt (l := [(20 : Int), 50, 100]) (k := k1) hk1
    have hgm := List.mem_of_getElem? hgr
    simp only [List.mem_cons, List.not_mem_nil, or_false] at hgm
    obtain ⟨f, t2, e2, hf, h2⟩ := among_ok (l := [0, 0, 5]) (m := m + 20) h1 (by simp)
    simp only [List.mem_cons, List.not_mem_nil, or_false] at hf
    obtain ⟨x, t3, e3, hx, hxu, h3⟩ := rate8_ok (m := m + 12) (k0 : Int) gr f (by omega) (by omega) (by omega) h2
    obtain ⟨b2, t4, e4, h4⟩ := one_ok (n := 2) (m := m + 10) h3
    have hxe : Rate.mk x.zone x.grams x.from_ x.until_ x.cents = x := rfl
    have hlen : IntKind.i64.wrap (((l ++ [x]).length : Int) - 1) = (l.length : Int) := by rw [List.length_append, List.length_singleton, wrap_in (by omega) (by omega)]; omega
    have hidx : idx (l ++ [x]) (l.length : Int) = some x := by rw [idx_nat]; simp
    have hs2 : ∀ y ∈ l ++ [x], smR y := by
      intro y hy
      rcases List.mem_append.1 hy with hy | hy
      · exact hs y hy
      · obtain rfl := List.mem_singleton.1 hy; exact hx
    simp only [if_true, letK, hgi, Option.bind_some, e2, e3, e4, bind2_some, unRate, hxe, GsL1CurRates.q0, GsL1CurRates.q1, unp2]
    rw [guardK_pos (by omega), hlen, hidx]
    simp only [Option.bind_some, joinK, appK, iteK_if]
    have stop : ∃ l' t', nx (l ++ [x], t4) = nx (l', t') ∧ l'.length ≤ l.length + 2 ∧ (∀ x ∈ l', smR x) ∧ good t' m := ⟨l ++ [x], t4, rfl, by simp, hs2, good_less h4 (by omega)⟩
    cases b2 with
    | false => simpa using stop
    | true =>
      by_cases hu : x.until_ < 30
      · obtain ⟨a, t5, e5, ha, h5⟩ := among_ok (l := [1, 1, 3]) (m := m + 8) h4 (by simp)
        simp only [List.mem_cons, List.not_mem_nil, or_false] at ha
        have hub := hx.2.2.2.1
        have hgb := hx.2.1
        obtain ⟨y, t6, e6, hy, _, h6⟩ := rate8_ok (m := m) (k0 : Int) x.grams (x.until_ + a) (by omega) hgb (by omega) h5
        have hye : Rate.mk y.zone y.grams y.from_ y.until_ y.cents = y := rfl
        have hw : IntKind.i64.wrap (x.until_ + a) = x.until_ + a := wrap_in (by omega) (by omega)
        simp only [decide_eq_true hu, if_true, e5, bind2_some, hw, e6, hye]
        rw [guardK_pos (by rw [List.length_append]; simp; omega)]
        refine ⟨(l ++ [x]) ++ [y], t6, rfl, by simp, ?_, h6⟩
        intro v hv
        rcases List.mem_append.1 hv with hv | hv
        · exact hs2 v hv
        · obtain rfl := List.mem_singleton.1 hv; exact hy
      · simp only [decide_eq_false hu, Bool.false_eq_true, if_false, if_true]
        exact stop
theorem more8_ok {t : GoC.Tape} {m : Nat} (fuel : Nat) (hf : 1048577 ≤ fuel) (l : List Rate) (hl : l.length ≤ 18) (hs : ∀ x ∈ l, smR x) (h : good t (m + 40)) : ∃ r : List Rate × GoC.Tape, loopK GsL1CurRates.l2 fuel (l, t) GsL1CurRates.e2 = some r ∧ (r.1.length ≤ 40 ∧ (∀ x ∈ r.1, smR x) ∧ good r.2 m) := by
  refine lp_ex (n := 18) (fun k (s : List Rate × GoC.Tape) => s.1.length = l.length + k ∧ (∀ x ∈ s.1, smR x) ∧ good s.2 (m + 40 - 2 * k)) ?_ ?_ fuel 0 _ (by omega) (by omega) ⟨rfl, hs, h⟩
  · rintro k ⟨o, c⟩ nx hk ⟨h1, h3, h4⟩ hn
    dsimp only at h1 h3 h4
    obtain ⟨x, c1, e, hx0, hx, _, hg⟩ := pick_ok (n := 2) (m := m + 38 - 2 * k) (good_less h4 (by omega))
    simp only [GsL1CurRates.l2, unp2, e, bind2_some, letK, iteK_if]
    rw [wrap_in (x := 16 + x) (by omega) (by omega)]
    by_cases hc : (o.length : Int) < 16 + x
    · rw [if_pos (by simpa using hc), wrap_in (x := 10 + (o.length : Int)) (by omega) (by omega), guardK_pos (by omega)]
      refine hn _ ⟨by simp [h1]; omega, ?_, good_less hg (by omega)⟩
      intro y hy
      rcases List.mem_append.1 hy with hy | hy
      · exact h3 y hy
      · obtain rfl := List.mem_singleton.1 hy
        refine ⟨?_, ?_, ?_, ?_, ?_⟩ <;> dsimp only <;> omega
    · rw [if_neg (by simpa using hc)]
      exact ⟨_, rfl, by dsimp only; omega, h3, good_less hg (by omega)⟩
  · rintro ⟨o, c⟩ nx ⟨h1, h3, h4⟩
    dsimp only at h1 h3 h4
    obtain ⟨x, c1, e, hx0, hx, _, hg⟩ := pick_ok (n := 2) (m := m) (good_less h4 (by omega))
    simp only [GsL1CurRates.l2, unp2, e, bind2_some, letK, iteK_if]
    rw [wrap_in (x := 16 + x) (by omega) (by omega), if_neg (by simp; omega)]
    exact ⟨_, rfl, by dsimp only; omega, h3, hg⟩
theorem end8_ok {t : GoC.Tape} {m : Nat} (fuel : Nat) (hf : 1048577 ≤ fuel) (l : List Rate) (hl : l.length ≤ 18) (hs : ∀ x ∈ l, smR x) (h : good t (m + 50)) : ∃ r : List Rate × GoC.Tape, GsL1CurRates.e0 fuel (l, t) = some r ∧ (r.1.length ≤ 40 ∧ (∀ x ∈ r.1, smR x) ∧ good r.2 m) := by
  obtain ⟨p, t1, e1, hp0, hp, _, h1⟩ := pick_ok (n := 32) (m := m + 48) h
  simp only [GsL1CurRates.e0, unp2, e1, bind2_some, letK, iteK_if]
  by_cases hp1 : p = 0
  · obtain ⟨z, t2, e2, hz, h2⟩ := among_ok (l := [(-1), 2, 9, 10]) (m := m + 46) h1 (by simp)
    obtain ⟨g, t3, e3, hg, h3⟩ := among_ok (l := [0, 100, 2000, 2001]) (m := m + 44) h2 (by simp)
    simp only [List.mem_cons, List.not_mem_nil, or_false] at hz hg
    obtain ⟨x, t4, e4, hx, _, h4⟩ := rate8_ok (m := m + 36) z g 3 (by omega) (by omega) (by omega) h3
    have hxe : Rate.mk x.zone x.grams x.from_ x.until_ x.cents = x := rfl
    simp only [hp1, beq_self_eq_true, if_true, e2, e3, e4, bind2_some, unRate, hxe]
    rw [guardK_pos (by omega)]
    refine ⟨_, rfl, by simp; omega, ?_, good_less h4 (by omega)⟩
    intro y hy
    rcases List.mem_append.1 hy with hy | hy
    · exact hs y hy
    · obtain rfl := List.mem_singleton.1 hy; exact hx
  · have hpb : (p == 0) = false := by simpa using hp1
    by_cases hp2 : p = 1
    · simp only [hp2, show ((1 : Int) == 0) = false from rfl, Bool.false_eq_true, if_false, beq_self_eq_true, if_true]
      exact more8_ok fuel hf l hl hs (good_less h1 (by omega))
    · have hpb2 : (p == 1) = false := by simpa using hp2
      simp only [hpb, hpb2, Bool.false_eq_true, if_false]
      exact ⟨_, rfl, by dsimp only; omega, hs, good_less h1 (by omega)⟩
theorem rates8_ok {t : GoC.Tape} {m : Nat} (fuel : Nat) (hf : 1048577 ≤ fuel) (h : good t (m + 300)) : ∃ l t', GsL1CurRates.P fuel t = some (l, t') ∧ l.length ≤ 40 ∧ (∀ x ∈ l, smR x) ∧ good t' m := by
  obtain ⟨⟨l, t'⟩, h1, h2⟩ : ∃ r : List Rate × GoC.Tape, GsL1CurRates.P fuel t = some r ∧ (r.1.length ≤ 40 ∧ (∀ x ∈ r.1, smR x) ∧ good r.2 m) := by
    simp only [GsL1CurRates.P]
    refine cnt_ex (n := 3) (fun k (s : List Rate × GoC.Tape) => s.1.length ≤ 6 * k ∧ (∀ x ∈ s.1, smR x) ∧ good s.2 (m + 300 - 72 * k)) ?_ ?_ 3 0 _ (by omega) ⟨by simp, by simp, h⟩
    · rintro k ⟨l, c⟩ nx hk ⟨g1, g2, g3⟩ hn
      dsimp only at g1 g2 g3
      simp only [GsL1CurRates.l0, unp2]
      refine cnt_ex (n := 3) (fun j (s : List Rate × GoC.Tape) => s.1.length ≤ 6 * k + 2 * j ∧ (∀ x ∈ s.1, smR x) ∧ good s.2 (m + 300 - 72 * k - 24 * j)) ?_ ?_ 3 0 _ (by omega) ⟨by simpa using g1, g2, g3⟩
      · rintro j ⟨l2, c2⟩ nx2 hj ⟨k1, k2, k3⟩ hn2
        dsimp only at k1 k2 k3
        obtain ⟨l3, c3, e, q1, q2, q3⟩ := round8_ok (R := Unit) hk hj (m := m + 300 - 72 * k - 24 * j - 24) (by omega) k2 (good_less k3 (by omega)) nx2 (GsL1CurRates.e1 nx)
        rw [e]
        exact hn2 _ ⟨by dsimp only; omega, q2, good_less q3 (by omega)⟩
      · rintro ⟨l2, c2⟩ ⟨k1, k2, k3⟩
        dsimp only at k1 k2 k3
        simp only [GsL1CurRates.e1, unp2, appK]
        exact hn _ ⟨by dsimp only; omega, k2, good_less k3 (by omega)⟩
    · rintro ⟨l, c⟩ ⟨g1, g2, g3⟩
      dsimp only at g1 g2 g3
      exact end8_ok fuel hf l (by omega) g2 (good_less g3 (by omega))
  exact ⟨l, t', h1, h2⟩
end Go.Proofs.YtlljmgphgmklcaaDoor.Q8Draws

/- The named law of rates: what it draws, spans and the days around them, and the law answers true. (Q8DrawsF) No condition but those of each theorem. -/
namespace Go.Proofs.YtlljmgphgmklcaaDoor.Q8DrawsF
set_option linter.unusedVariables false
set_option linter.unusedSimpArgs false
open Go.RowKit
open Go.Proofs.YtlljmgphgmklcaaDoor.GoP Go.Proofs.YtlljmgphgmklcaaDoor.PlainStamp Go.Proofs.YtlljmgphgmklcaaDoor.QBase Go.Proofs.YtlljmgphgmklcaaDoor.Q8Draws Go.Proofs.YtlljmgphgmklcaaDoor.QDraw Go.Proofs.YtlljmgphgmklcaaDoor.QUp Go.Proofs.YtlljmgphgmklcaaDoor.QAll Go.Proofs.YtlljmgphgmklcaaDoor.QLoop Go.Proofs.YtlljmgphgmklcaaDoor.PRate

theorem drawSpans_ok {tapes : List Int → GoC.Tape} (ht : GoC.Tells tapes) (code : List Int) (fuel : Nat) (hf : 1048577 ≤ fuel) : ∃ l z g, GsDrawRateSpans.P fuel tapes code = some (l, z, g) ∧ l.length ≤ 40 := by
  obtain ⟨l, c0, e0, hl, _, h0⟩ := rates8_ok fuel hf (m := 40) (good_of ht code (by omega))
  obtain ⟨z, c1, e1, _, h1⟩ := among_ok (l := [0, 0, 1, 2, 9, 10]) (m := 38) h0 (by simp)
  obtain ⟨g, c2, e2, _, h2⟩ := among_ok (l := [1, 20, 21, 50, 51, 100, 101, 0]) (m := 36) h1 (by simp)
  exact ⟨l, z, g, by simp only [GsDrawRateSpans.P, letK, e0, e1, e2, bind2_some], hl⟩
theorem drawFor_ok {tapes : List Int → GoC.Tape} (ht : GoC.Tells tapes) (code : List Int) (fuel : Nat) (hf : 1048577 ≤ fuel) : ∃ l d z g, GsDrawRateFor.P fuel tapes code = some (l, d, z, g) ∧ l.length ≤ 40 := by
  obtain ⟨l, c0, e0, hl, _, h0⟩ := rates8_ok fuel hf (m := 40) (good_of ht code (by omega))
  obtain ⟨d, c1, e1, h1⟩ := day8_ok (m := 38) h0
  obtain ⟨z, c2, e2, _, h2⟩ := among_ok (l := [0, 0, 1, 2, 9, 10]) (m := 36) h1 (by simp)
  obtain ⟨g, c3, e3, _, h3⟩ := among_ok (l := [1, 20, 21, 50, 51, 100, 101, 0, 2001]) (m := 34) h2 (by simp)
  exact ⟨l, d, z, g, by simp only [GsDrawRateFor.P, letK, e0, e1, e2, e3, bind2_some], hl⟩
theorem drawFirst_ok {tapes : List Int → GoC.Tape} (ht : GoC.Tells tapes) (code : List Int) (fuel : Nat) (hf : 1048577 ≤ fuel) : ∃ l z g d, GsDrawFirstWithout.P fuel tapes code = some (l, z, g, d) ∧ l.length ≤ 40 := by
  obtain ⟨l, c0, e0, hl, _, h0⟩ := rates8_ok fuel hf (m := 40) (good_of ht code (by omega))
  obtain ⟨z, c1, e1, _, h1⟩ := among_ok (l := [0, 0, 1, 2, 10]) (m := 38) h0 (by simp)
  obtain ⟨g, c2, e2, _, h2⟩ := among_ok (l := [1, 20, 21, 51, 101, 0]) (m := 36) h1 (by simp)
  obtain ⟨d, c3, e3, h3⟩ := day8_ok (m := 34) h2
  exact ⟨l, z, g, d, by simp only [GsDrawFirstWithout.P, letK, e0, e1, e2, e3, bind2_some], hl⟩
theorem drawText_ok {tapes : List Int → GoC.Tape} (ht : GoC.Tells tapes) (code : List Int) : ∃ x, GsDrawRateText.P tapes code = some x := by
  obtain ⟨z, c1, e1, hz, h1⟩ := among_ok (l := [0, 9, (-1), 10]) (m := 38) (good_of ht code (by omega)) (by simp)
  obtain ⟨g, c2, e2, hg, h2⟩ := among_ok (l := [1, 20, 2000, 0, 2001]) (m := 36) h1 (by simp)
  obtain ⟨f, c3, e3, hf, h3⟩ := among_ok (l := [0, 7, 3995, (-1)]) (m := 34) h2 (by simp)
  simp only [List.mem_cons, List.not_mem_nil, or_false] at hz hg hf
  obtain ⟨x, c4, e4, _, _, h4⟩ := rate8_ok (m := 26) z g f (by omega) (by omega) (by omega) h3
  exact ⟨x, by simp only [GsDrawRateText.P, GsDrawIsRate.P, letK, e1, e2, e3, e4, bind2_some, unRate, Option.bind_some]⟩
end Go.Proofs.YtlljmgphgmklcaaDoor.Q8DrawsF

/- Lists of valid records in strictly rising order of any kind; texts in the order of their bytes. (QOrd) No condition but those of each theorem. -/
namespace Go.Proofs.YtlljmgphgmklcaaDoor.QOrd
set_option linter.unusedVariables false
set_option linter.unusedSimpArgs false
open Go.RowKit
open Go.Proofs.YtlljmgphgmklcaaDoor.GoP Go.Proofs.YtlljmgphgmklcaaDoor.PlainStamp Go.Proofs.YtlljmgphgmklcaaDoor.QBase Go.Proofs.YtlljmgphgmklcaaDoor.QLoop

/-- texts in the order of their bytes -/
def bl (a b : ByteArray) : Bool := Op.bytesLess a.toList b.toList
theorem bl_self' : ∀ x, Op.bytesLess x x = false
  | [] => rfl
  | a :: x => by
    have h1 : ¬ a < a := fun k => by rw [UInt8.lt_iff_toNat_lt] at k; omega
    simp [Op.bytesLess, h1, bl_self' x]
theorem bl_total' : ∀ x y, x ≠ y → Op.bytesLess x y = !(Op.bytesLess y x)
  | [], [], h => absurd rfl h
  | [], b :: y, _ => by simp [Op.bytesLess]
  | a :: x, [], _ => by simp [Op.bytesLess]
  | a :: x, b :: y, h => by
    by_cases hab : a = b
    · subst hab
      have h1 : ¬ a < a := fun k => by rw [UInt8.lt_iff_toNat_lt] at k; omega
      have := bl_total' x y (fun e => h (by rw [e]))
      simp [Op.bytesLess, h1, this]
    · have hne : a.toNat ≠ b.toNat := fun e => hab (UInt8.toNat_inj.1 e)
      by_cases hlt : a < b
      · have h2 : ¬ b < a := fun k => by rw [UInt8.lt_iff_toNat_lt] at k hlt; omega
        simp [Op.bytesLess, hlt, h2, Ne.symm hab]
      · have h2 : b < a := by rw [UInt8.lt_iff_toNat_lt] at hlt ⊢; omega
        simp [Op.bytesLess, hlt, h2, hab]
theorem bl_trans' : ∀ x y z, Op.bytesLess x y = true → Op.bytesLess y z = true → Op.bytesLess x z = true
  | [], _, [], h1, h2 => by rename_i y; cases y <;> simp [Op.bytesLess] at h1 h2
  | [], _, c :: z, _, _ => by simp [Op.bytesLess]
  | a :: x, [], _, h1, _ => by simp [Op.bytesLess] at h1
  | a :: x, b :: y, [], _, h2 => by simp [Op.bytesLess] at h2
  | a :: x, b :: y, c :: z, h1, h2 => by
    simp only [Op.bytesLess, Bool.or_eq_true, decide_eq_true_eq, Bool.and_eq_true, beq_iff_eq] at h1 h2 ⊢
    rcases h1 with h1 | ⟨rfl, h1⟩
    · rcases h2 with h2 | ⟨rfl, h2⟩
      · left; rw [UInt8.lt_iff_toNat_lt] at h1 h2 ⊢; omega
      · left; exact h1
    · rcases h2 with h2 | ⟨rfl, h2⟩
      · left; exact h2
      · right; exact ⟨rfl, bl_trans' x y z h1 h2⟩
theorem list_inj {a b : ByteArray} (h : a.toList = b.toList) : a = b := by
  rw [Lib.toList_data, Lib.toList_data] at h
  cases a; cases b; congr 1; exact Array.toList_inj.1 h
theorem bl_self (a : ByteArray) : bl a a = false := bl_self' _
theorem bl_total {a b : ByteArray} (h : a ≠ b) : bl a b = !(bl b a) := bl_total' _ _ (fun e => h (list_inj e))
theorem bl_trans {a b c : ByteArray} (h1 : bl a b = true) (h2 : bl b c = true) : bl a c = true := bl_trans' _ _ _ h1 h2
theorem bl_asymm {a b : ByteArray} (h : bl a b = true) : bl b a = false := by
  by_cases e : a = b
  · rw [e]; exact bl_self b
  · rw [bl_total e] at h; simpa using h
theorem bl_ne {a b : ByteArray} (h : bl a b = true) : a ≠ b := fun e => by rw [e, bl_self] at h; exact absurd h (by simp)
/-- 'not above', as the program asks it -/
theorem bl_le (a b : ByteArray) : (Op.bytesLess a.toList b.toList || a.toList == b.toList) = !(bl b a) := by
  by_cases e : a = b
  · subst e; rw [bl_self]; simp
  · have h1 : (a.toList == b.toList) = false := by rw [beq_eq_false_iff_ne]; exact fun h => e (list_inj h)
    rw [h1, Bool.or_false]; exact bl_total e
theorem bl_lt (a b : ByteArray) : Op.bytesLess a.toList b.toList = bl a b := rfl
theorem eq_list (a b : ByteArray) : (a.toList == b.toList) = decide (a = b) := by
  by_cases e : a = b
  · subst e; simp
  · rw [decide_eq_false e, beq_eq_false_iff_ne]; exact fun h => e (list_inj h)

/-- valid, and behind the one ahead of it -/
def riseAt {α : Type} (ok : α → Bool) (lt : α → α → Bool) (l : List α) (k : Nat) : Bool :=
  match l[k]? with
  | none => true
  | some s => ok s && (decide (k = 0) || (match l[k-1]? with | none => true | some r => lt r s))
def riseTo {α : Type} (ok : α → Bool) (lt : α → α → Bool) (l : List α) (k : Nat) : Bool := (List.range k).all (riseAt ok lt l)
theorem riseTo_zero {α : Type} (ok : α → Bool) (lt : α → α → Bool) (l : List α) : riseTo ok lt l 0 = true := rfl
theorem riseTo_succ {α : Type} (ok : α → Bool) (lt : α → α → Bool) (l : List α) (k : Nat) : riseTo ok lt l (k + 1) = (riseTo ok lt l k && riseAt ok lt l k) := by simp [riseTo, List.range_succ, List.all_append]
theorem riseTo_not {α : Type} {ok : α → Bool} {lt : α → α → Bool} {l : List α} {k n : Nat} (h : riseAt ok lt l k = false) (hk : k < n) : riseTo ok lt l n = false := by
  unfold riseTo
  rw [Bool.eq_false_iff]
  intro ha
  have := List.all_eq_true.1 ha k (List.mem_range.2 hk)
  rw [h] at this; exact absurd this (by simp)
def riseL {α : Type} (m : Nat) (ok : α → Bool) (lt : α → α → Bool) (l : List α) : Bool := decide (l.length ≤ m) && riseTo ok lt l l.length
theorem riseAt_bad {α : Type} {ok : α → Bool} {lt : α → α → Bool} {l : List α} {k : Nat} {s : α} (hs : l[k]? = some s) (h : ok s = false) : riseAt ok lt l k = false := by unfold riseAt; rw [hs]; simp [h]
theorem riseAt_first {α : Type} {ok : α → Bool} {lt : α → α → Bool} {l : List α} {s : α} (hs : l[0]? = some s) (h : ok s = true) : riseAt ok lt l 0 = true := by unfold riseAt; rw [hs]; simp [h]
theorem riseAt_next {α : Type} {ok : α → Bool} {lt : α → α → Bool} {l : List α} {k : Nat} {s r : α} (hs : l[k]? = some s) (hr : l[k-1]? = some r) (hk : 0 < k) (h : ok s = true) : riseAt ok lt l k = lt r s := by
  unfold riseAt; rw [hs]; simp only [hr, h, Bool.true_and, decide_eq_false (show ¬ k = 0 by omega), Bool.false_or]
theorem riseL_len {α : Type} {m : Nat} {ok : α → Bool} {lt : α → α → Bool} {l : List α} (h : riseL m ok lt l = true) : l.length ≤ m := by unfold riseL at h; simp only [Bool.and_eq_true, decide_eq_true_eq] at h; exact h.1
theorem riseTo_at {α : Type} {ok : α → Bool} {lt : α → α → Bool} {l : List α} {n : Nat} (h : riseTo ok lt l n = true) {k : Nat} (hk : k < n) : riseAt ok lt l k = true := List.all_eq_true.1 h k (List.mem_range.2 hk)
theorem riseL_ok {α : Type} {m : Nat} {ok : α → Bool} {lt : α → α → Bool} {l : List α} (h : riseL m ok lt l = true) {k : Nat} {s : α} (hs : l[k]? = some s) : ok s = true := by
  unfold riseL at h
  simp only [Bool.and_eq_true, decide_eq_true_eq] at h
  have := riseTo_at h.2 (List.getElem?_eq_some_iff.1 hs).1
  unfold riseAt at this
  rw [hs] at this
  simp only [Bool.and_eq_true] at this
  exact this.1
theorem riseL_mem {α : Type} {m : Nat} {ok : α → Bool} {lt : α → α → Bool} {l : List α} (h : riseL m ok lt l = true) {s : α} (hs : s ∈ l) : ok s = true := by
  obtain ⟨k, hk⟩ := List.getElem?_of_mem hs
  exact riseL_ok h hk
theorem riseL_step {α : Type} {m : Nat} {ok : α → Bool} {lt : α → α → Bool} {l : List α} (h : riseL m ok lt l = true) {k : Nat} {x y : α} (hx : l[k]? = some x) (hy : l[k + 1]? = some y) : lt x y = true := by
  unfold riseL at h
  simp only [Bool.and_eq_true, decide_eq_true_eq] at h
  have := riseTo_at h.2 (List.getElem?_eq_some_iff.1 hy).1
  unfold riseAt at this
  rw [hy] at this
  simp only [Nat.add_sub_cancel, hx, Bool.and_eq_true, Bool.or_eq_true, decide_eq_true_eq] at this
  rcases this.2 with h0 | h0
  · omega
  · exact h0
theorem riseL_lt {α : Type} {m : Nat} {ok : α → Bool} {lt : α → α → Bool} (tr : ∀ a b c, lt a b = true → lt b c = true → lt a c = true) {l : List α} (h : riseL m ok lt l = true) {i j : Nat} {x y : α} (hij : i < j) (hx : l[i]? = some x) (hy : l[j]? = some y) : lt x y = true := by
  obtain ⟨d, rfl⟩ : ∃ d, j = i + d + 1 := ⟨j - i - 1, by omega⟩
  clear hij
  induction d generalizing y with
  | zero => exact riseL_step h hx hy
  | succ d ih =>
    obtain ⟨z, hz, _⟩ := at_lt (l := l) (k := i + d + 1) (by have := (List.getElem?_eq_some_iff.1 hy).1; omega)
    exact tr _ _ _ (ih hz) (riseL_step (k := i + d + 1) h hz (by rw [← hy]; rfl))
/-- a loop that goes through a list of records and stops with 'no' at the first that is bad -/
theorem rise_loop {α : Type} {ok : α → Bool} {lt : α → α → Bool} {l : List α} {R : Type} {no : R} {f : Nat → Unit → (Unit → Option R) → (Unit → Option R) → Option R} {fin : Unit → Option R}
    (step : ∀ k nx s, l[k]? = some s → (ok s = false → f k () nx fin = some no) ∧ (ok s = true → (k = 0 → f k () nx fin = nx ()) ∧ (0 < k → ∀ r, l[k-1]? = some r → (lt r s = true → f k () nx fin = nx ()) ∧ (lt r s = false → f k () nx fin = some no)))) :
    cntK f l.length 0 () fin = if riseTo ok lt l l.length then fin () else some no := by
  have key : ∀ m k, k + m = l.length → riseTo ok lt l k = true → cntK f m k () fin = if riseTo ok lt l l.length then fin () else some no := by
    intro m
    induction m with
    | zero => intro k hk hu; obtain rfl : k = l.length := by omega
              rw [hu]; rfl
    | succ m ih =>
      intro k hk hu
      have hlt : k < l.length := by omega
      obtain ⟨s, hs, _⟩ := at_lt hlt
      obtain ⟨h1, h2⟩ := step k (fun s' => cntK f m (k + 1) s' fin) s hs
      show f k () _ fin = _
      cases hok : ok s with
      | false => rw [h1 hok, riseTo_not (riseAt_bad hs hok) hlt]; rfl
      | true =>
        obtain ⟨h3, h4⟩ := h2 hok
        by_cases hk0 : k = 0
        · rw [h3 hk0]
          subst hk0
          exact ih 1 (by omega) (by rw [riseTo_succ, hu, riseAt_first hs hok]; rfl)
        · obtain ⟨r, hr, _⟩ := at_lt (l := l) (k := k - 1) (by omega)
          obtain ⟨h5, h6⟩ := h4 (by omega) r hr
          cases hl : lt r s with
          | true =>
            rw [h5 hl]
            exact ih (k + 1) (by omega) (by rw [riseTo_succ, hu, riseAt_next hs hr (by omega) hok, hl]; rfl)
          | false => rw [h6 hl, riseTo_not (by rw [riseAt_next hs hr (by omega) hok, hl]) hlt]; rfl
  exact key l.length 0 (by omega) (riseTo_zero ok lt l)
end Go.Proofs.YtlljmgphgmklcaaDoor.QOrd

/- Chapter 8: rates: the plain functions of the program and of the reference agree, and the laws answer true. (QRiseL) No condition but those of each theorem. -/
namespace Go.Proofs.YtlljmgphgmklcaaDoor.QRiseL
set_option linter.unusedVariables false
set_option linter.unusedSimpArgs false
open Go.RowKit
open Go.Proofs.YtlljmgphgmklcaaDoor.GoP Go.Proofs.YtlljmgphgmklcaaDoor.PlainStamp Go.Proofs.YtlljmgphgmklcaaDoor.QBase Go.Proofs.YtlljmgphgmklcaaDoor.QOrd Go.Proofs.YtlljmgphgmklcaaDoor.QLoop

/-- the same, for a loop that counts by itself and stops behind m: the list may be longer than m -/
theorem rise_lp {α R : Type} {ok : α → Bool} {lt : α → α → Bool} {l : List α} {m : Nat} {no : R} {yes : Option R} {f : Int → (Int → Option R) → (Int → Option R) → Option R} {fin : Int → Option R}
    (stop : ∀ (k : Nat) nx, (l.length ≤ k ∨ m < k) → k ≤ l.length → k ≤ m + 1 → f (k : Int) nx fin = fin (k : Int))
    (end_ : ∀ k : Int, fin k = if l.length ≤ m then yes else some no)
    (step : ∀ (k : Nat) nx s, k ≤ m → l[k]? = some s → (ok s = false → f (k : Int) nx fin = some no) ∧ (ok s = true → (k = 0 → f (k : Int) nx fin = nx ((k + 1 : Nat) : Int)) ∧ (0 < k → ∀ r, l[k-1]? = some r → ok r = true → (lt r s = true → f (k : Int) nx fin = nx ((k + 1 : Nat) : Int)) ∧ (lt r s = false → f (k : Int) nx fin = some no)))) :
    ∀ fuel k, m + 1 - k < fuel → k ≤ l.length → k ≤ m + 1 → riseTo ok lt l k = true → loopK f fuel (k : Int) fin = if riseL m ok lt l = true then yes else some no := by
  intro fuel
  induction fuel with
  | zero => intro k h; omega
  | succ n ih =>
    intro k hf hk hm hu
    show f (k : Int) (fun s' => loopK f n s' fin) fin = _
    by_cases hs : l.length ≤ k ∨ m < k
    · rw [stop k _ hs hk hm, end_]
      by_cases hl : l.length ≤ m
      · obtain rfl : k = l.length := by omega
        rw [if_pos hl, if_pos (by unfold riseL; simp [hl, hu])]
      · rw [if_neg hl, if_neg (by unfold riseL; simp [hl])]
    · have hlt : k < l.length := by omega
      obtain ⟨s, hs', _⟩ := at_lt hlt
      obtain ⟨h1, h2⟩ := step k (fun s' => loopK f n s' fin) s (by omega) hs'
      have bad : riseAt ok lt l k = false → riseL m ok lt l = false := by
        intro h; unfold riseL; rw [riseTo_not h hlt, Bool.and_false]
      cases hok : ok s with
      | false => rw [h1 hok, bad (riseAt_bad hs' hok)]; rfl
      | true =>
        obtain ⟨h3, h4⟩ := h2 hok
        by_cases hk0 : k = 0
        · rw [h3 hk0]
          subst hk0
          exact ih 1 (by omega) (by omega) (by omega) (by rw [riseTo_succ, hu, riseAt_first hs' hok]; rfl)
        · obtain ⟨r, hr, _⟩ := at_lt (l := l) (k := k - 1) (by omega)
          have hokr : ok r = true := by
            have := riseTo_at hu (k := k - 1) (by omega)
            unfold riseAt at this; rw [hr] at this
            simp only [Bool.and_eq_true] at this; exact this.1
          obtain ⟨h5, h6⟩ := h4 (by omega) r hr hokr
          cases hl : lt r s with
          | true =>
            rw [h5 hl]
            exact ih (k + 1) (by omega) (by omega) (by omega) (by rw [riseTo_succ, hu, riseAt_next hs' hr (by omega) hok, hl]; rfl)
          | false => rw [h6 hl, bad (by rw [riseAt_next hs' hr (by omega) hok, hl])]; rfl
/-- what each step gives holds between any two -/
theorem riseL_rel {α : Type} {m : Nat} {ok : α → Bool} {lt : α → α → Bool} (rel : α → α → Prop) (st : ∀ a b, ok a = true → ok b = true → lt a b = true → rel a b) (tr : ∀ a b c, rel a b → rel b c → rel a c) {l : List α} (h : riseL m ok lt l = true) {i j : Nat} {x y : α} (hij : i < j) (hx : l[i]? = some x) (hy : l[j]? = some y) : rel x y := by
  obtain ⟨d, rfl⟩ : ∃ d, j = i + d + 1 := ⟨j - i - 1, by omega⟩
  clear hij
  induction d generalizing y with
  | zero => exact st _ _ (riseL_ok h hx) (riseL_ok h hy) (riseL_step h hx hy)
  | succ d ih =>
    obtain ⟨z, hz, _⟩ := at_lt (l := l) (k := i + d + 1) (by have := (List.getElem?_eq_some_iff.1 hy).1; omega)
    exact tr _ _ _ (ih hz) (st _ _ (riseL_ok h hz) (riseL_ok h hy) (riseL_step (k := i + d + 1) h hz (by rw [← hy]; rfl)))
end Go.Proofs.YtlljmgphgmklcaaDoor.QRiseL

/- Chapter 8: rates: the plain functions of the program and of the reference agree, and the laws answer true. (QFold) No condition but those of each theorem. -/
namespace Go.Proofs.YtlljmgphgmklcaaDoor.QFold
set_option linter.unusedVariables false
set_option linter.unusedSimpArgs false
open Go.RowKit
open Go.Proofs.YtlljmgphgmklcaaDoor.GoP Go.Proofs.YtlljmgphgmklcaaDoor.PlainStamp Go.Proofs.YtlljmgphgmklcaaDoor.QBase Go.Proofs.YtlljmgphgmklcaaDoor.QLoop

theorem fold_loop {α σ R : Type} {l : List α} {g : σ → α → σ} {f : Nat → σ → (σ → Option R) → (σ → Option R) → Option R} {fin : σ → Option R} (s0 : σ)
    (step : ∀ k nx x s, l[k]? = some x → f k s nx fin = nx (g s x)) : cntK f l.length 0 s0 fin = fin (l.foldl g s0) := by
  have key : ∀ m k s, k + m = l.length → cntK f m k s fin = fin ((l.drop k).foldl g s) := by
    intro m
    induction m with
    | zero => intro k s hk; rw [List.drop_of_length_le (by omega)]; rfl
    | succ m ih =>
      intro k s hk
      obtain ⟨x, hx, _⟩ := at_lt (l := l) (k := k) (by omega)
      obtain ⟨hlt, e⟩ := List.getElem?_eq_some_iff.1 hx
      show f k s _ fin = _
      rw [step k _ x s hx, ih (k + 1) _ (by omega), List.drop_eq_getElem_cons hlt, e]; rfl
  exact key l.length 0 s0 (by omega)
theorem find_val {α R : Type} {l : List α} {p : α → Bool} {f : Nat → Unit → (Unit → Option R) → (Unit → Option R) → Option R} {fin : Unit → Option R} {yes : α → Option R}
    (step : ∀ k nx x, l[k]? = some x → f k () nx fin = if p x = true then yes x else nx ()) : cntK f l.length 0 () fin = match l.find? p with | some x => yes x | none => fin () := by
  have key : ∀ m k, k + m = l.length → cntK f m k () fin = match (l.drop k).find? p with | some x => yes x | none => fin () := by
    intro m
    induction m with
    | zero => intro k hk; rw [List.drop_of_length_le (by omega)]; rfl
    | succ m ih =>
      intro k hk
      obtain ⟨x, hx, _⟩ := at_lt (l := l) (k := k) (by omega)
      obtain ⟨hlt, e⟩ := List.getElem?_eq_some_iff.1 hx
      show f k () _ fin = _
      rw [step k _ x hx, List.drop_eq_getElem_cons hlt, e, List.find?_cons]
      cases hp : p x with
      | true => simp
      | false => simp only [Bool.false_eq_true, if_false]; exact ih (k + 1) (by omega)
  exact key l.length 0 (by omega)
theorem find_congr {α : Type} {l : List α} {p q : α → Bool} (h : ∀ x ∈ l, p x = q x) : l.find? p = l.find? q := by
  induction l with
  | nil => rfl
  | cons x l ih => rw [List.find?_cons, List.find?_cons, h x (by simp), ih (fun y hy => h y (by simp [hy]))]
end Go.Proofs.YtlljmgphgmklcaaDoor.QFold

/- Chapter 8: rates: the plain functions of the program and of the reference agree, and the laws answer true. (QSort) No condition but those of each theorem. -/
namespace Go.Proofs.YtlljmgphgmklcaaDoor.QSort
set_option linter.unusedVariables false
set_option linter.unusedSimpArgs false
open Go.RowKit
open Go.Proofs.YtlljmgphgmklcaaDoor.GoP Go.Proofs.YtlljmgphgmklcaaDoor.PlainStamp Go.Proofs.YtlljmgphgmklcaaDoor.QBase Go.Proofs.YtlljmgphgmklcaaDoor.QLoop

def sortI (l : List Int) : List Int := l.mergeSort fun x y => decide (x ≤ y)
theorem sortI_mem {l : List Int} {x : Int} : x ∈ sortI l ↔ x ∈ l := List.mem_mergeSort
theorem sortI_len (l : List Int) : (sortI l).length = l.length := List.length_mergeSort _
theorem sortI_up (l : List Int) : List.Pairwise (fun a b => a ≤ b) (sortI l) := by
  have h := List.pairwise_mergeSort (le := fun x y : Int => decide (x ≤ y)) (fun a b c h1 h2 => by simp at *; omega) (fun a b => by simp; omega) l
  exact h.imp (fun h => by simpa using h)
def compI (l : List Int) : List Int := Lib.compact l
theorem comp_key (l : List Int) (hs : List.Pairwise (fun a b => a ≤ b) l) : ∀ m, m ≤ l.length → List.Pairwise (fun a b => a < b) (Lib.compactUpTo l.toArray m) ∧ (∀ x, x ∈ Lib.compactUpTo l.toArray m ↔ ∃ j, j < m ∧ l[j]? = some x) := by
  intro m
  induction m with
  | zero => intro _; simp [Lib.compactUpTo]
  | succ m ih =>
    intro hm
    obtain ⟨h1, h2⟩ := ih (by omega)
    have hle : ∀ {i j : Nat} {x y : Int}, i ≤ j → l[i]? = some x → l[j]? = some y → x ≤ y := by
      intro i j x y hij hx hy
      obtain ⟨a1, a2⟩ := List.getElem?_eq_some_iff.1 hx
      obtain ⟨b1, b2⟩ := List.getElem?_eq_some_iff.1 hy
      by_cases he : i = j
      · subst he; rw [hx] at hy; simp at hy; omega
      · have := List.pairwise_iff_getElem.1 hs i j a1 b1 (by omega)
        rw [a2, b2] at this; exact this
    have hx : l[m]? = some l[m] := List.getElem?_eq_getElem (by omega)
    have g : l.toArray[m]! = l[m] := by simp [hx]
    rw [Lib.compactUpTo_succ]
    by_cases hk : Lib.keeps l.toArray m = true
    · rw [if_pos hk, g]
      have hlt : ∀ x, x ∈ Lib.compactUpTo l.toArray m → x < l[m] := by
        intro x hxm
        obtain ⟨j, hj, hjx⟩ := (h2 x).1 hxm
        have hp : m - 1 < l.length := by omega
        have h3 : x ≤ l[m-1] := hle (i := j) (j := m - 1) (by omega) hjx (List.getElem?_eq_getElem hp)
        have h4 : l[m-1] ≤ l[m] := hle (i := m - 1) (j := m) (by omega) (List.getElem?_eq_getElem hp) hx
        have h5 : l[m] ≠ l[m-1] := by
          unfold Lib.keeps at hk
          rw [decide_eq_true_eq] at hk
          rcases hk with h0 | h0
          · omega
          · rw [g] at h0
            have : l.toArray[m-1]! = l[m-1] := by simp [List.getElem?_eq_getElem hp]
            rw [this] at h0; exact h0
        omega
      refine ⟨List.pairwise_append.2 ⟨h1, by simp, fun a ha b hb => by simp at hb; subst hb; exact hlt a ha⟩, fun x => ?_⟩
      rw [List.mem_append, h2, List.mem_singleton]
      constructor
      · rintro (⟨j, hj, hjx⟩ | rfl)
        · exact ⟨j, by omega, hjx⟩
        · exact ⟨m, by omega, hx⟩
      · rintro ⟨j, hj, hjx⟩
        by_cases he : j = m
        · subst he; rw [hx] at hjx; simp at hjx; exact Or.inr hjx.symm
        · exact Or.inl ⟨j, by omega, hjx⟩
    · rw [if_neg hk, List.append_nil]
      refine ⟨h1, fun x => ?_⟩
      rw [h2]
      constructor
      · rintro ⟨j, hj, hjx⟩; exact ⟨j, by omega, hjx⟩
      · rintro ⟨j, hj, hjx⟩
        by_cases he : j = m
        · subst he
          have hm0 : ¬ (j = 0) ∧ l.toArray[j]! = l.toArray[j-1]! := by
            unfold Lib.keeps at hk
            simpa using hk
          have hp : j - 1 < l.length := by omega
          have h6 : l.toArray[j-1]! = l[j-1] := by simp [List.getElem?_eq_getElem hp]
          rw [hx] at hjx
          refine ⟨j - 1, by omega, ?_⟩
          rw [List.getElem?_eq_getElem hp, ← hjx, ← g, hm0.2, h6]
        · exact ⟨j, by omega, hjx⟩
theorem compI_up {l : List Int} (hs : List.Pairwise (fun a b => a ≤ b) l) : List.Pairwise (fun a b => a < b) (compI l) := (comp_key l hs l.length (Nat.le_refl _)).1
theorem compI_mem {l : List Int} (hs : List.Pairwise (fun a b => a ≤ b) l) {x : Int} : x ∈ compI l ↔ x ∈ l := by
  unfold compI Lib.compact
  rw [(comp_key l hs l.length (Nat.le_refl _)).2 x]
  constructor
  · rintro ⟨j, _, hj⟩; exact List.mem_of_getElem? hj
  · intro h
    obtain ⟨j, hj⟩ := List.getElem?_of_mem h
    exact ⟨j, (List.getElem?_eq_some_iff.1 hj).1, hj⟩
theorem compI_len (l : List Int) : (compI l).length ≤ l.length := Lib.compact_length_le l
theorem sort_eq (l : List Int) (h : l.length ≤ 1000000) : GxSlicesSortIntInt.P l = some (sortI l) := by unfold GxSlicesSortIntInt.P sortI; rw [if_pos (by omega)]
theorem comp_eq (l : List Int) : GxSlicesCompactIntInt.P l = some (compI l) := rfl
end Go.Proofs.YtlljmgphgmklcaaDoor.QSort

/- Chapter 8: rates: the plain functions of the program and of the reference agree, and the laws answer true. (Q8Rate) No condition but those of each theorem. -/
namespace Go.Proofs.YtlljmgphgmklcaaDoor.Q8Rate
set_option linter.unusedVariables false
set_option linter.unusedSimpArgs false
open Go.RowKit
open Go.Proofs.YtlljmgphgmklcaaDoor.GoP Go.Proofs.YtlljmgphgmklcaaDoor.PlainStamp Go.Proofs.YtlljmgphgmklcaaDoor.QBase Go.Proofs.YtlljmgphgmklcaaDoor.QLoop Go.Proofs.YtlljmgphgmklcaaDoor.PRate Go.Proofs.YtlljmgphgmklcaaDoor.PrateClass

theorem isZone_eq (n : Int) : GiIsZone.P n = some (inB n 0 9) := by simp only [GiIsZone.P, within_eq, Option.bind_some]
theorem isWeight_eq (n : Int) : GiIsWeight.P n = some (inB n 1 2000) := by simp only [GiIsWeight.P, within_eq, Option.bind_some]
theorem isRateCents_eq (n : Int) : GiIsRateCents.P n = some (inB n 1 9999) := by simp only [GiIsRateCents.P, within_eq, Option.bind_some]
theorem isDay_eq (n : Int) : GiIsDay.P n = some (inB n 0 4000) := by simp only [GiIsDay.P, within_eq, Option.bind_some]
theorem l8Zone_eq (n : Int) : GsL8Zone.P n = some (inB n 0 9) := by simp only [GsL8Zone.P, l1In_eq, Option.bind_some]
theorem l8Grams_eq (n : Int) : GsL8Grams.P n = some (inB n 1 2000) := by simp only [GsL8Grams.P, l1In_eq, Option.bind_some]
theorem l8Cents_eq (n : Int) : GsL8Cents.P n = some (inB n 1 9999) := by simp only [GsL8Cents.P, l1In_eq, Option.bind_some]
theorem l2Day_eq (n : Int) : GsL2Day.P n = some (inB n 0 4000) := by simp only [GsL2Day.P, l1In_eq, Option.bind_some]
def okR (x : Rate) : Bool := inB x.zone 0 9 && inB x.grams 1 2000 && inB x.cents 1 9999 && inB x.from_ 0 4000 && inB x.until_ 0 4000 && decide (x.from_ ≤ x.until_)
theorem isRate_eq (x : Rate) : GiIsRate.P x = some (okR x) := by
  obtain ⟨a, b, c, d, e⟩ := x
  simp only [GiIsRate.P, unRate, isZone_eq, isWeight_eq, isRateCents_eq, isDay_eq, Option.bind_some, letK, joinK, appK, iteK_if, okR]
  cases inB a 0 9 <;> cases inB b 1 2000 <;> cases inB e 1 9999 <;> cases inB c 0 4000 <;> cases inB d 0 4000 <;> simp
theorem l8One_eq (x : Rate) : GsL8One.P x = some (okR x) := by
  obtain ⟨a, b, c, d, e⟩ := x
  have hx : (inB d 0 4000 && inB c 0 d) = (inB c 0 4000 && inB d 0 4000 && decide (c ≤ d)) := by unfold inB; rw [Bool.eq_iff_iff]; simp; omega
  have hy : okR ⟨a, b, c, d, e⟩ = (inB a 0 9 && inB b 1 2000 && (inB d 0 4000 && inB c 0 d) && inB e 1 9999) := by
    rw [hx]; unfold okR
    cases inB a 0 9 <;> cases inB b 1 2000 <;> cases inB e 1 9999 <;> simp
  rw [hy]
  simp only [GsL8One.P, unRate, l8Zone_eq, l8Grams_eq, l8Cents_eq, l2Day_eq, l1In_eq, Option.bind_some, letK, joinK, appK, iteK_if]
  cases inB a 0 9 <;> cases inB b 1 2000 <;> cases inB d 0 4000 <;> cases inB c 0 d <;> simp
theorem okR_of {x : Rate} (h : okR x = true) : (0 ≤ x.zone ∧ x.zone ≤ 9) ∧ (1 ≤ x.grams ∧ x.grams ≤ 2000) ∧ (1 ≤ x.cents ∧ x.cents ≤ 9999) ∧ (0 ≤ x.from_ ∧ x.from_ ≤ x.until_ ∧ x.until_ ≤ 4000) := by
  unfold okR at h
  simp only [Bool.and_eq_true, decide_eq_true_eq] at h
  have h1 := inB_of h.1.1.1.1.1
  have h2 := inB_of h.1.1.1.1.2
  have h3 := inB_of h.1.1.1.2
  have h4 := inB_of h.1.1.2
  have h5 := inB_of h.1.2
  omega
def linkR (a b : Rate) : Bool := if a.zone = b.zone ∧ a.grams = b.grams then decide (a.until_ < b.from_) else decide (a.zone < b.zone ∨ a.zone = b.zone ∧ a.grams < b.grams)
theorem compare_eq (x y : Int) : GxCmpCompareInt.P x y = some (if x < y then -1 else if y < x then 1 else 0) := by
  simp only [GxCmpCompareInt.P, GxCmpIsNaNInt.P, Option.bind_some, letK, iteK_if]
  by_cases h : x < y <;> by_cases h2 : y < x <;> simp [h, h2]
theorem or_eq (a b : Int) : GxCmpOrInt.P [a, b] = some (if a = 0 then b else a) := by
  have h0 : idx [a, b] ((0 : Nat) : Int) = some a := rfl
  have h1 : idx [a, b] ((1 : Nat) : Int) = some b := rfl
  show cntK (GxCmpOrInt.l0 [a, b]) 2 0 () GxCmpOrInt.e0 = _
  simp only [cntK, GxCmpOrInt.l0, h0, h1, Option.bind_some, letK, iteK_if, appK, GxCmpOrInt.e0, Nat.zero_add]
  by_cases ha : a = 0 <;> by_cases hb : b = 0 <;> simp [ha, hb]
theorem canFollow_eq (b a : Rate) : GiCanFollow.P b a = some (linkR a b) := by
  obtain ⟨z, g, f, u, c⟩ := b
  obtain ⟨z2, g2, f2, u2, c2⟩ := a
  simp only [GiCanFollow.P, unRate, unrateClass, GiClassOf.P, Option.bind_some, letK, iteK_if, compare_eq, or_eq, linkR]
  by_cases h1 : z = z2
  · subst h1
    by_cases h2 : g = g2
    · subst h2; simp
    · have h3 : ¬ g2 = g := fun h => h2 h.symm
      by_cases h4 : g2 < g
      · simp [h2, h3, h4]
      · by_cases h5 : g < g2
        · simp [h2, h3, h4, h5]
        · omega
  · have h3 : ¬ z2 = z := fun h => h1 h.symm
    by_cases h4 : z2 < z
    · simp [h1, h3, h4]
    · by_cases h5 : z < z2
      · simp [h1, h3, h4, h5]
      · omega
def codeR (x : Rate) : Int := (10000 * x.zone + x.grams) * 10000 + x.from_
theorem l8Code_eq {x : Rate} (h : okR x = true) : GsL8Code.P x = some (codeR x) := by
  have h1 := okR_of h
  obtain ⟨a, b, c, d, e⟩ := x
  dsimp only at h1
  simp only [GsL8Code.P, unRate, letK, codeR]
  rw [wrap_in (x := 10000 * a) (by omega) (by omega), wrap_in (x := 10000 * a + b) (by omega) (by omega), wrap_in (x := (10000 * a + b) * 10000) (by omega) (by omega), wrap_in (by omega) (by omega)]
theorem link_code {a b : Rate} (ha : okR a = true) (hb : okR b = true) : linkR a b = (decide (codeR a < codeR b) && !(decide (a.zone = b.zone) && decide (a.grams = b.grams) && decide (b.from_ ≤ a.until_))) := by
  have h1 := okR_of ha
  have h2 := okR_of hb
  unfold linkR codeR
  rw [Bool.eq_iff_iff]
  split
  · simp; omega
  · simp; omega
end Go.Proofs.YtlljmgphgmklcaaDoor.Q8Rate

/- Chapter 8: rates: the plain functions of the program and of the reference agree, and the laws answer true. (Q8List) No condition but those of each theorem. -/
namespace Go.Proofs.YtlljmgphgmklcaaDoor.Q8List
set_option linter.unusedVariables false
set_option linter.unusedSimpArgs false
open Go.RowKit
open Go.Proofs.YtlljmgphgmklcaaDoor.GoP Go.Proofs.YtlljmgphgmklcaaDoor.PlainStamp Go.Proofs.YtlljmgphgmklcaaDoor.QBase Go.Proofs.YtlljmgphgmklcaaDoor.QRiseL Go.Proofs.YtlljmgphgmklcaaDoor.QOrd Go.Proofs.YtlljmgphgmklcaaDoor.Q8Rate Go.Proofs.YtlljmgphgmklcaaDoor.QLoop Go.Proofs.YtlljmgphgmklcaaDoor.PRate

def okRs (l : List Rate) : Bool := riseL 16 okR linkR l
theorem areRates_eq (l : List Rate) (hl : l.length ≤ 9223372036854775807) : GiAreRates.P l = some (okRs l) := by
  simp only [GiAreRates.P, letK, iteK_if]
  by_cases h12 : l.length ≤ 16
  · rw [if_neg (by simp; omega), rise_loop (ok := okR) (lt := linkR) (no := false)]
    · unfold okRs riseL; cases riseTo okR linkR l l.length <;> simp [h12, GiAreRates.e0]
    · intro k nx s hs
      have hi : idx l (k : Int) = some s := by rw [idx_nat, hs]
      have hk : k < l.length := (List.getElem?_eq_some_iff.1 hs).1
      simp only [GiAreRates.l0, hi, Option.bind_some, unRate, isRate_eq, letK, joinK, appK, iteK_if]
      refine ⟨fun h => by simp [h], fun h => ⟨fun h0 => by subst h0; simp [h], fun h0 r hr => ?_⟩⟩
      rw [idx_pred h0 (by omega) hr]
      have hk0 : (0 : Int) < (k : Int) := by omega
      have hk1 : ¬ k = 0 := by omega
      exact ⟨fun hlt => by simp [h, hk0, hk1, canFollow_eq, hlt], fun hge => by simp [h, hk0, hk1, canFollow_eq, hge]⟩
  · rw [if_pos (by simp; omega)]; unfold okRs riseL; simp [h12]
theorem l8Good_eq {fuel : Nat} (l : List Rate) (hl : l.length ≤ 9223372036854775807) (hf : 17 < fuel) : GsL8Good.P fuel l = some (okRs l) := by
  simp only [GsL8Good.P]
  have key := rise_lp (ok := okR) (lt := linkR) (l := l) (m := 16) (no := false) (yes := some true) (f := GsL8Good.l0 l) (fin := GsL8Good.e0 l) ?_ ?_ ?_ fuel 0 (by omega) (by omega) (by omega) rfl
  · rw [show ((0 : Nat) : Int) = 0 from rfl] at key
    rw [key]; unfold okRs; cases riseL 16 okR linkR l <;> rfl
  · intro k nx hs h1 h2
    simp only [GsL8Good.l0, letK, joinK, appK, iteK_if]
    by_cases hk : l.length ≤ k
    · have : ¬ ((k : Int) < (l.length : Int)) := by omega
      simp [this]
    · have h3 : ((k : Int) < (l.length : Int)) := by omega
      have h4 : ¬ ((k : Int) ≤ 16) := by omega
      simp [h3, h4]
  · intro k
    simp only [GsL8Good.e0, letK]
    by_cases h : l.length ≤ 16
    · rw [if_pos h]; simp; omega
    · rw [if_neg h]; simp; omega
  · intro k nx s hk16 hs
    have hi : idx l (k : Int) = some s := by rw [idx_nat, hs]
    have hk : k < l.length := (List.getElem?_eq_some_iff.1 hs).1
    have h1 : ((k : Int) < (l.length : Int)) := by omega
    have h2 : (k : Int) ≤ 16 := by omega
    have hw : IntKind.i64.wrap ((k : Int) + 1) = ((k + 1 : Nat) : Int) := by rw [wrap_in (by omega) (by omega)]; omega
    simp only [GsL8Good.l0, letK, joinK, appK, iteK_if, decide_eq_true h1, decide_eq_true h2, if_true, hi, Option.bind_some, unRate, l8One_eq, hw]
    refine ⟨fun h => by simp [h], fun h => ⟨fun h0 => by subst h0; simp [h], fun h0 r hr hokr => ?_⟩⟩
    rw [idx_pred h0 (by omega) hr]
    have hk0 : (0 : Int) < (k : Int) := by omega
    have hk1 : ¬ k = 0 := by omega
    simp only [Option.bind_some, l8Code_eq h, l8Code_eq hokr, link_code hokr h]
    have he : ∀ x : Rate, Rate.mk x.zone x.grams x.from_ x.until_ x.cents = x := fun x => rfl
    simp only [h, decide_eq_true hk0, Bool.not_true, Bool.false_eq_true, if_false, if_true]
    constructor
    · intro hlt
      simp only [Bool.and_eq_true, decide_eq_true_eq, Bool.not_eq_true'] at hlt
      obtain ⟨c1, c2⟩ := hlt
      have : ¬ (codeR s ≤ codeR r) := by omega
      by_cases e1 : r.zone = s.zone
      · by_cases e2 : r.grams = s.grams
        · have e3 : ¬ (s.from_ ≤ r.until_) := by simpa [e1, e2] using c2
          simp [this, e1, e2, e3]
        · simp [this, e1, e2]
      · simp [this, e1]
    · intro hge
      by_cases c1 : codeR r < codeR s
      · have : ¬ (codeR s ≤ codeR r) := by omega
        simp only [decide_eq_true c1, Bool.true_and, Bool.not_eq_false', Bool.and_eq_true, decide_eq_true_eq] at hge
        simp [this, hge.1.1, hge.1.2, hge.2]
      · have : codeR s ≤ codeR r := by omega
        simp [this]
theorem rs_mem {l : List Rate} (h : okRs l = true) {x : Rate} (hx : x ∈ l) : okR x = true := riseL_mem h hx
end Go.Proofs.YtlljmgphgmklcaaDoor.Q8List

/- Chapter 8: rates: the plain functions of the program and of the reference agree, and the laws answer true. (Q8For) No condition but those of each theorem. -/
namespace Go.Proofs.YtlljmgphgmklcaaDoor.Q8For
set_option linter.unusedVariables false
set_option linter.unusedSimpArgs false
open Go.RowKit
open Go.Proofs.YtlljmgphgmklcaaDoor.GoP Go.Proofs.YtlljmgphgmklcaaDoor.PlainStamp Go.Proofs.YtlljmgphgmklcaaDoor.QBase Go.Proofs.YtlljmgphgmklcaaDoor.QFold Go.Proofs.YtlljmgphgmklcaaDoor.QRiseL Go.Proofs.YtlljmgphgmklcaaDoor.QOrd Go.Proofs.YtlljmgphgmklcaaDoor.Q8List Go.Proofs.YtlljmgphgmklcaaDoor.Q8Rate Go.Proofs.YtlljmgphgmklcaaDoor.QLoop Go.Proofs.YtlljmgphgmklcaaDoor.PRate

def onB (day zone grams : Int) (r : Rate) : Bool := decide (r.zone = zone) && decide (grams ≤ r.grams) && inB day r.from_ r.until_
def rateV (l : List Rate) (day zone grams : Int) : Int := match l.find? (onB day zone grams) with | some r => r.cents | none => 0
theorem rateOn_eq (l : List Rate) (day zone grams : Int) : GiRateOn.P l day zone grams = some (rateV l day zone grams) := by
  simp only [GiRateOn.P]
  rw [find_val (p := onB day zone grams) (yes := fun x => some x.cents)]
  · unfold rateV; cases l.find? (onB day zone grams) <;> rfl
  · intro k nx x hx
    have hi : idx l (k : Int) = some x := by rw [idx_nat, hx]
    simp only [GiRateOn.l0, hi, Option.bind_some, unRate, within_eq, letK, joinK, appK, iteK_if, onB]
    by_cases h1 : x.zone = zone <;> by_cases h2 : grams ≤ x.grams <;> simp [h1, h2]
theorem l8For_eq (l : List Rate) (day zone grams : Int) : GsL8For.P l day zone grams = some (rateV l day zone grams) := by
  simp only [GsL8For.P]
  rw [find_val (p := onB day zone grams) (yes := fun x => some x.cents)]
  · unfold rateV; cases l.find? (onB day zone grams) <;> rfl
  · intro k nx x hx
    have hi : idx l (k : Int) = some x := by rw [idx_nat, hx]
    simp only [GsL8For.l0, hi, Option.bind_some, unRate, l1In_eq, letK, joinK, appK, iteK_if, onB]
    by_cases h1 : x.zone = zone <;> by_cases h2 : grams ≤ x.grams <;> simp [h1, h2]
theorem rateV_nonneg {l : List Rate} (h : okRs l = true) (day zone grams : Int) : 0 ≤ rateV l day zone grams := by
  unfold rateV
  cases hf : l.find? (onB day zone grams) with
  | none => exact Int.le_refl _
  | some r => have := okR_of (rs_mem h (List.mem_of_find?_eq_some hf)); dsimp only; omega
theorem canSend_eq (l : List Rate) (zone grams : Int) (hl : l.length ≤ 9223372036854775807) : GiCanSend.P l zone grams = some (okRs l && inB zone 0 9 && inB grams 1 2000) := by
  simp only [GiCanSend.P, areRates_eq l hl, isZone_eq, isWeight_eq, Option.bind_some, joinK, appK, iteK_if]
  cases okRs l <;> cases inB zone 0 9 <;> simp
end Go.Proofs.YtlljmgphgmklcaaDoor.Q8For

/- Chapter 8: rates: the plain functions of the program and of the reference agree, and the laws answer true. (Q8Days) No condition but those of each theorem. -/
namespace Go.Proofs.YtlljmgphgmklcaaDoor.Q8Days
set_option linter.unusedVariables false
set_option linter.unusedSimpArgs false
open Go.RowKit
open Go.Proofs.YtlljmgphgmklcaaDoor.GoP Go.Proofs.YtlljmgphgmklcaaDoor.PlainStamp Go.Proofs.YtlljmgphgmklcaaDoor.QBase Go.Proofs.YtlljmgphgmklcaaDoor.QSort Go.Proofs.YtlljmgphgmklcaaDoor.QFold Go.Proofs.YtlljmgphgmklcaaDoor.QRiseL Go.Proofs.YtlljmgphgmklcaaDoor.QOrd Go.Proofs.YtlljmgphgmklcaaDoor.Q8For Go.Proofs.YtlljmgphgmklcaaDoor.Q8List Go.Proofs.YtlljmgphgmklcaaDoor.Q8Rate Go.Proofs.YtlljmgphgmklcaaDoor.QLoop Go.Proofs.YtlljmgphgmklcaaDoor.PRate

/-- the days on which a rate can differ from that of the day before -/
def tdays (l : List Rate) : List Int := compI (sortI (l.flatMap fun r => [r.from_, r.until_ + 1]))
theorem mem_days {l : List Rate} {d : Int} : d ∈ tdays l ↔ ∃ r ∈ l, d = r.from_ ∨ d = r.until_ + 1 := by
  unfold tdays
  rw [compI_mem (sortI_up _), sortI_mem, List.mem_flatMap]
  simp
theorem days_up (l : List Rate) : List.Pairwise (fun a b => a < b) (tdays l) := compI_up (sortI_up _)
theorem flat_two (l : List Rate) : (l.flatMap fun r => [r.from_, r.until_ + 1]).length = 2 * l.length := by
  induction l with
  | nil => rfl
  | cons x l ih => rw [List.flatMap_cons, List.length_append, ih]; simp; omega
theorem days_len (l : List Rate) : (tdays l).length ≤ 2 * l.length := by
  have h := compI_len (sortI (l.flatMap fun r => [r.from_, r.until_ + 1]))
  rw [sortI_len, flat_two] at h
  exact h
theorem days_eq {l : List Rate} (h : okRs l = true) : GiTurningDays.P l = some (tdays l) := by
  have h16 := riseL_len h
  simp only [GiTurningDays.P]
  refine cnt_is _ (fun k s => s = (l.take k).flatMap fun r => [r.from_, r.until_ + 1]) ?_ ?_ _ (by simp)
  · intro k s nx hk hI hn
    obtain ⟨x, hx, hi⟩ := at_lt (l := l) (k := k) hk
    have hok := okR_of (rs_mem h (List.mem_of_getElem? hx))
    simp only [GiTurningDays.l0, hi, Option.bind_some, unRate, letK, appK]
    have hs : s.length ≤ 2 * 16 := by rw [hI, flat_two, List.length_take]; omega
    rw [wrap_in (by omega) (by omega), guardK_pos (by simp; omega)]
    exact hn _ (by rw [take_next hx, List.flatMap_append, hI]; simp)
  · intro s hI
    rw [List.take_of_length_le (Nat.le_refl _)] at hI
    have hs : s.length ≤ 1000000 := by rw [hI, flat_two]; omega
    simp only [GiTurningDays.e0, letK, sort_eq s hs, comp_eq, Option.bind_some]
    rw [hI]; rfl
/-- between two turning days the rate is the same -/
theorem rate_same {l : List Rate} (h : okRs l = true) {zone grams a d : Int} (had : a ≤ d) (hn : ∀ t ∈ tdays l, a < t → d < t) : rateV l d zone grams = rateV l a zone grams := by
  unfold rateV
  rw [find_congr (q := onB a zone grams)]
  intro r hr
  have hok := okR_of (rs_mem h hr)
  have h1 := hn r.from_ (mem_days.2 ⟨r, hr, .inl rfl⟩)
  have h2 := hn (r.until_ + 1) (mem_days.2 ⟨r, hr, .inr rfl⟩)
  have : inB d r.from_ r.until_ = inB a r.from_ r.until_ := by unfold inB; rw [Bool.eq_iff_iff]; simp; omega
  unfold onB
  rw [this]
theorem rate_none {l : List Rate} {zone grams d : Int} (hn : ∀ r ∈ l, ¬ (r.from_ ≤ d ∧ d ≤ r.until_)) : rateV l d zone grams = 0 := by
  unfold rateV
  have : l.find? (onB d zone grams) = none := by
    rw [List.find?_eq_none]
    intro r hr
    have := hn r hr
    unfold onB inB
    simp only [Bool.and_eq_true, decide_eq_true_eq]
    omega
  rw [this]
theorem day_range {l : List Rate} (h : okRs l = true) {d : Int} (hd : d ∈ tdays l) : 0 ≤ d ∧ d ≤ 4001 := by
  obtain ⟨r, hr, e⟩ := mem_days.1 hd
  have hok := okR_of (rs_mem h hr)
  omega
end Go.Proofs.YtlljmgphgmklcaaDoor.Q8Days

/- Chapter 8: rates: the plain functions of the program and of the reference agree, and the laws answer true. (Q8Span) No condition but those of each theorem. -/
namespace Go.Proofs.YtlljmgphgmklcaaDoor.Q8Span
set_option linter.unusedVariables false
set_option linter.unusedSimpArgs false
open Go.RowKit
open Go.Proofs.YtlljmgphgmklcaaDoor.GoP Go.Proofs.YtlljmgphgmklcaaDoor.PlainStamp Go.Proofs.YtlljmgphgmklcaaDoor.QBase Go.Proofs.YtlljmgphgmklcaaDoor.QLoop Go.Proofs.YtlljmgphgmklcaaDoor.PIntA3

/-- the last one's end put off to a day -/
def bump (l : List IntA3) (d c : Int) : List IntA3 := match l.getLast? with | none => l | some y => l.dropLast ++ [⟨y.x0, d, c⟩]
theorem bump_end (l : List IntA3) (y : IntA3) (d c : Int) : bump (l ++ [y]) d c = l ++ [⟨y.x0, d, c⟩] := by simp [bump]
theorem bump_two (l : List IntA3) (d c e g : Int) : bump (bump l d c) e g = bump l e g := by
  rcases List.eq_nil_or_concat l with rfl | ⟨m, y, rfl⟩
  · rfl
  · rw [List.concat_eq_append, bump_end, bump_end, bump_end]
def stepS (f : Nat → Int) (s : List IntA3 × Int) (d : Nat) : List IntA3 × Int :=
  if 0 < f d then (if f d = s.2 then bump s.1 d (f d) else s.1 ++ [⟨d, d, f d⟩], f d) else (s.1, 0)
def refS (f : Nat → Int) : Nat → List IntA3 × Int
  | 0 => ([], 0)
  | n + 1 => stepS f (refS f n) n
/-- what the last span of the days ahead of n is -/
theorem ref_inv {f : Nat → Int} (hf : ∀ d, 0 ≤ f d) (n : Nat) : 0 ≤ (refS f n).2 ∧ (0 < (refS f n).2 → ∃ m y, (refS f n).1 = m ++ [y] ∧ y.x1 = (n : Int) - 1 ∧ y.x2 = (refS f n).2) ∧ ((refS f n).2 = 0 → ∀ m y, (refS f n).1 = m ++ [y] → y.x1 < (n : Int) - 1) := by
  induction n with
  | zero => exact ⟨by simp [refS], fun h => by simp [refS] at h, fun _ m y h => by simp [refS] at h⟩
  | succ n ih =>
    obtain ⟨h0, h1, h2⟩ := ih
    have hn := hf n
    show 0 ≤ (stepS f (refS f n) n).2 ∧ (0 < (stepS f (refS f n) n).2 → ∃ m y, (stepS f (refS f n) n).1 = m ++ [y] ∧ y.x1 = ((n + 1 : Nat) : Int) - 1 ∧ y.x2 = (stepS f (refS f n) n).2) ∧ ((stepS f (refS f n) n).2 = 0 → ∀ m y, (stepS f (refS f n) n).1 = m ++ [y] → y.x1 < ((n + 1 : Nat) : Int) - 1)
    unfold stepS
    by_cases hp : 0 < f n
    · rw [if_pos hp]
      refine ⟨hn, fun _ => ?_, fun h => by dsimp only at h; omega⟩
      dsimp only
      by_cases he : f n = (refS f n).2
      · rw [if_pos he]
        obtain ⟨m, y, e, _, _⟩ := h1 (by omega)
        rw [e, bump_end]
        exact ⟨m, _, rfl, by dsimp only; omega, rfl⟩
      · rw [if_neg he]
        exact ⟨_, _, rfl, by dsimp only; omega, rfl⟩
    · rw [if_neg hp]
      refine ⟨Int.le_refl _, fun h => by dsimp only at h; omega, fun _ m y e => ?_⟩
      dsimp only at e
      by_cases hz : (refS f n).2 = 0
      · have := h2 hz m y e; omega
      · obtain ⟨m2, y2, e2, h3, _⟩ := h1 (by omega)
        rw [e] at e2
        have := (List.append_inj' e2 rfl).2
        simp only [List.cons.injEq, and_true] at this
        subst this; omega
/-- whether the day's rate goes on the last span -/
def goesOn (l : List IntA3) (d c : Int) : Bool := match l.getLast? with | none => false | some y => decide (y.x1 = d - 1) && decide (y.x2 = c)
theorem goes_ref {f : Nat → Int} (hf : ∀ d, 0 ≤ f d) {n : Nat} (hn : 0 < f n) : goesOn (refS f n).1 n (f n) = decide (f n = (refS f n).2) := by
  obtain ⟨h0, h1, h2⟩ := ref_inv hf n
  by_cases hz : (refS f n).2 = 0
  · rw [decide_eq_false (by omega)]
    unfold goesOn
    rcases List.eq_nil_or_concat (refS f n).1 with e | ⟨m, y, e⟩
    · rw [e]; rfl
    · rw [List.concat_eq_append] at e
      have := h2 hz m y e
      rw [e]; simp only [List.getLast?_append, List.getLast?_singleton, Option.some_or]
      rw [decide_eq_false (by omega)]; rfl
  · obtain ⟨m, y, e, e1, e2⟩ := h1 (by omega)
    unfold goesOn
    rw [e]; simp only [List.getLast?_append, List.getLast?_singleton, Option.some_or]
    rw [decide_eq_true e1, e2, Bool.true_and]
    by_cases hc : f n = (refS f n).2
    · rw [decide_eq_true hc, decide_eq_true hc.symm]
    · rw [decide_eq_false hc, decide_eq_false (fun h => hc h.symm)]
/-- one more span, or the last one put off -/
def addS (l : List IntA3) (a b c : Int) : List IntA3 := if c = 0 then l else if goesOn l a c = true then bump l b c else l ++ [⟨a, b, c⟩]
theorem run_zero {f : Nat → Int} {a b : Nat} (hab : a ≤ b) (h : ∀ d, a ≤ d → d < b → f d = 0) : (refS f b).1 = (refS f a).1 := by
  induction b with
  | zero => obtain rfl : a = 0 := by omega
            rfl
  | succ b ih =>
    by_cases he : a = b + 1
    · subst he; rfl
    · have h1 := h b (by omega) (by omega)
      show (stepS f (refS f b) b).1 = _
      unfold stepS
      rw [if_neg (by omega)]
      exact ih (by omega) (fun d h2 h3 => h d h2 (by omega))
theorem run_pos {f : Nat → Int} {a b : Nat} {c : Int} (hc : 0 < c) (hab : a < b) (h : ∀ d, a ≤ d → d < b → f d = c) : refS f b = (if c = (refS f a).2 then bump (refS f a).1 ((b : Int) - 1) c else (refS f a).1 ++ [⟨a, (b : Int) - 1, c⟩], c) := by
  induction b with
  | zero => omega
  | succ b ih =>
    have h1 := h b (by omega) (by omega)
    show stepS f (refS f b) b = _
    unfold stepS
    rw [h1, if_pos hc]
    have hb : ((b + 1 : Nat) : Int) - 1 = b := by omega
    rw [hb]
    by_cases he : a = b
    · subst he; rfl
    · rw [ih (by omega) (fun d h2 h3 => h d h2 (by omega))]
      dsimp only
      rw [if_pos rfl]
      by_cases hl : c = (refS f a).2
      · rw [if_pos hl, if_pos hl, bump_two]
      · rw [if_neg hl, if_neg hl, bump_end]
theorem run_add {f : Nat → Int} (hf : ∀ d, 0 ≤ f d) {a b : Nat} (hab : a < b) (h : ∀ d, a ≤ d → d < b → f d = f a) : (refS f b).1 = addS (refS f a).1 a ((b : Int) - 1) (f a) := by
  unfold addS
  by_cases hc : f a = 0
  · rw [if_pos hc]; exact run_zero (by omega) (fun d h1 h2 => by rw [h d h1 h2, hc])
  · have hp : 0 < f a := by have := hf a; omega
    rw [if_neg hc, goes_ref hf hp, run_pos hp hab h]
    by_cases he : f a = (refS f a).2
    · rw [if_pos he, if_pos (by simpa using he)]
    · rw [if_neg he, if_neg (by simpa using he)]
/-- spans: each holds days with a rate alone, one behind the other, and each day ahead of n that has a rate is in one -/
def cov (y : IntA3) (d : Int) : Prop := y.x0 ≤ d ∧ d ≤ y.x1
theorem ref_cov {f : Nat → Int} (hf : ∀ d, 0 ≤ f d) (n : Nat) : (∀ y ∈ (refS f n).1, 0 ≤ y.x0 ∧ y.x0 ≤ y.x1 ∧ y.x1 < (n : Int) ∧ ∀ d : Nat, cov y d → 0 < f d ∧ f d = y.x2) ∧ List.Pairwise (fun y z : IntA3 => y.x1 < z.x0) (refS f n).1 ∧ (∀ d : Nat, d < n → 0 < f d → ∃ y ∈ (refS f n).1, cov y d) := by
  induction n with
  | zero => exact ⟨by simp [refS], by simp [refS], fun d h => by omega⟩
  | succ n ih =>
    obtain ⟨h1, h2, h3⟩ := ih
    obtain ⟨g0, g1, g2⟩ := ref_inv hf n
    have hn := hf n
    show (∀ y ∈ (stepS f (refS f n) n).1, 0 ≤ y.x0 ∧ y.x0 ≤ y.x1 ∧ y.x1 < ((n + 1 : Nat) : Int) ∧ ∀ d : Nat, cov y d → 0 < f d ∧ f d = y.x2) ∧ List.Pairwise (fun y z : IntA3 => y.x1 < z.x0) (stepS f (refS f n) n).1 ∧ (∀ d : Nat, d < n + 1 → 0 < f d → ∃ y ∈ (stepS f (refS f n) n).1, cov y d)
    unfold stepS
    by_cases hp : 0 < f n
    · rw [if_pos hp]
      dsimp only
      by_cases he : f n = (refS f n).2
      · rw [if_pos he]
        obtain ⟨m, y, e, e1, e2⟩ := g1 (by omega)
        rw [e] at h1 h2 h3 ⊢
        rw [bump_end]
        rw [List.pairwise_append] at h2
        obtain ⟨p1, p2, p3⟩ := h2
        have hy := h1 y (by simp)
        refine ⟨fun z hz => ?_, List.pairwise_append.2 ⟨p1, by simp, fun z hz u hu => ?_⟩, fun d hd hfd => ?_⟩
        · rw [List.mem_append, List.mem_singleton] at hz
          rcases hz with hz | rfl
          · obtain ⟨q1, q2, q3, q4⟩ := h1 z (by simp [hz])
            exact ⟨q1, q2, by omega, q4⟩
          · dsimp only [cov] at *
            refine ⟨by omega, by omega, by omega, fun d ⟨a1, a2⟩ => ?_⟩
            by_cases hd : d = n
            · subst hd; exact ⟨hp, rfl⟩
            · have := hy.2.2.2 d ⟨a1, by omega⟩
              exact ⟨this.1, by omega⟩
        · simp only [List.mem_singleton] at hu
          subst hu
          exact p3 z hz y (by simp)
        · by_cases hdn : d = n
          · subst hdn
            exact ⟨_, by simp; exact Or.inr rfl, by dsimp only [cov]; omega⟩
          · obtain ⟨z, hz, hz2⟩ := h3 d (by omega) hfd
            rw [List.mem_append, List.mem_singleton] at hz
            rcases hz with hz | rfl
            · exact ⟨z, by simp [hz], hz2⟩
            · exact ⟨_, by simp; exact Or.inr rfl, by dsimp only [cov] at *; omega⟩
      · rw [if_neg he]
        refine ⟨fun z hz => ?_, List.pairwise_append.2 ⟨h2, by simp, fun z hz u hu => ?_⟩, fun d hd hfd => ?_⟩
        · rw [List.mem_append, List.mem_singleton] at hz
          rcases hz with hz | rfl
          · obtain ⟨q1, q2, q3, q4⟩ := h1 z hz
            exact ⟨q1, q2, by omega, q4⟩
          · dsimp only [cov]
            refine ⟨by omega, by omega, by omega, fun d ⟨a1, a2⟩ => ?_⟩
            obtain rfl : d = n := by omega
            exact ⟨hp, rfl⟩
        · simp only [List.mem_singleton] at hu
          subst hu
          exact (h1 z hz).2.2.1
        · by_cases hdn : d = n
          · subst hdn
            exact ⟨_, by simp; exact Or.inr rfl, by dsimp only [cov]; omega⟩
          · obtain ⟨z, hz, hz2⟩ := h3 d (by omega) hfd
            exact ⟨z, by simp [hz], hz2⟩
    · rw [if_neg hp]
      dsimp only
      refine ⟨fun z hz => ?_, h2, fun d hd hfd => ?_⟩
      · obtain ⟨q1, q2, q3, q4⟩ := h1 z hz
        exact ⟨q1, q2, by omega, q4⟩
      · by_cases hdn : d = n
        · subst hdn; omega
        · exact h3 d (by omega) hfd
/-- the first day from a day on that is in no span -/
def skipS (l : List IntA3) (d : Int) : Int := l.foldl (fun d y => if y.x0 ≤ d ∧ d ≤ y.x1 then y.x1 + 1 else d) d
theorem skip_ge (l : List IntA3) (d : Int) : d ≤ skipS l d := by
  unfold skipS
  induction l generalizing d with
  | nil => simp
  | cons y l ih =>
    rw [List.foldl_cons]
    have := ih (if y.x0 ≤ d ∧ d ≤ y.x1 then y.x1 + 1 else d)
    split at this <;> rename_i h
    · rw [if_pos h]; omega
    · rw [if_neg h]; omega
theorem skip_out {l : List IntA3} (hp : List.Pairwise (fun y z : IntA3 => y.x1 < z.x0) l) (hl : ∀ y ∈ l, y.x0 ≤ y.x1) (d : Int) : ∀ y ∈ l, ¬ cov y (skipS l d) := by
  induction l generalizing d with
  | nil => intro y hy; simp at hy
  | cons z l ih =>
    rw [List.pairwise_cons] at hp
    have ih' := fun d => ih hp.2 (fun y hy => hl y (by simp [hy])) d
    intro y hy
    unfold skipS
    rw [List.foldl_cons]
    change ¬ cov y (skipS l (if z.x0 ≤ d ∧ d ≤ z.x1 then z.x1 + 1 else d))
    rw [List.mem_cons] at hy
    rcases hy with rfl | hy
    · have hz := hl y (by simp)
      by_cases hc : y.x0 ≤ d ∧ d ≤ y.x1
      · rw [if_pos hc]
        have := skip_ge l (y.x1 + 1)
        intro h; unfold cov at h; omega
      · rw [if_neg hc]
        by_cases hd : y.x1 < d
        · have := skip_ge l d
          intro h; unfold cov at h; omega
        · have same : skipS l d = d := by
            have key : ∀ l : List IntA3, (∀ u ∈ l, y.x1 < u.x0) → skipS l d = d := by
              intro l
              induction l with
              | nil => intro _; rfl
              | cons u l ih2 =>
                intro hu
                unfold skipS
                rw [List.foldl_cons, if_neg (by have := hu u (by simp); omega)]
                exact ih2 (fun v hv => hu v (by simp [hv]))
            exact key l hp.1
          rw [same]; intro h; unfold cov at h; omega
    · exact ih' _ y hy
theorem skip_in {f : Nat → Int} {n : Nat} {l : List IntA3} (hl : ∀ y ∈ l, 0 ≤ y.x0 ∧ y.x0 ≤ y.x1 ∧ y.x1 < (n : Int) ∧ ∀ d : Nat, cov y d → 0 < f d ∧ f d = y.x2) (d e : Nat) (h1 : d ≤ e) (h2 : (e : Int) < skipS l d) : 0 < f e := by
  induction l generalizing d with
  | nil => simp [skipS] at h2; omega
  | cons z l ih =>
    unfold skipS at h2
    rw [List.foldl_cons] at h2
    obtain ⟨q1, q2, q3, q4⟩ := hl z (by simp)
    have hl' : ∀ y ∈ l, _ := fun (y : IntA3) (hy : y ∈ l) => hl y (by simp [hy])
    by_cases hc : z.x0 ≤ (d : Int) ∧ (d : Int) ≤ z.x1
    · rw [if_pos hc] at h2
      by_cases he : (e : Int) ≤ z.x1
      · exact (q4 e ⟨by omega, he⟩).1
      · have hz : ((z.x1 + 1).toNat : Int) = z.x1 + 1 := by omega
        rw [← hz] at h2
        exact ih hl' (z.x1 + 1).toNat (by omega) h2
    · rw [if_neg hc] at h2
      exact ih hl' d h1 h2
theorem skip_le {n : Nat} {l : List IntA3} (hl : ∀ y ∈ l, y.x1 < (n : Int)) (d : Int) (hd : d ≤ n) : skipS l d ≤ n := by
  unfold skipS
  induction l generalizing d with
  | nil => simpa using hd
  | cons z l ih =>
    rw [List.foldl_cons]
    have := hl z (by simp)
    refine ih (fun y hy => hl y (by simp [hy])) _ ?_
    split <;> omega
end Go.Proofs.YtlljmgphgmklcaaDoor.Q8Span

/- Chapter 8: rates: the plain functions of the program and of the reference agree, and the laws answer true. (Q8Spans) No condition but those of each theorem. -/
namespace Go.Proofs.YtlljmgphgmklcaaDoor.Q8Spans
set_option linter.unusedVariables false
set_option linter.unusedSimpArgs false
open Go.RowKit
open Go.Proofs.YtlljmgphgmklcaaDoor.GoP Go.Proofs.YtlljmgphgmklcaaDoor.PlainStamp Go.Proofs.YtlljmgphgmklcaaDoor.QBase Go.Proofs.YtlljmgphgmklcaaDoor.Q8Days Go.Proofs.YtlljmgphgmklcaaDoor.Q8Span Go.Proofs.YtlljmgphgmklcaaDoor.QUp Go.Proofs.YtlljmgphgmklcaaDoor.QSort Go.Proofs.YtlljmgphgmklcaaDoor.QFold Go.Proofs.YtlljmgphgmklcaaDoor.QRiseL Go.Proofs.YtlljmgphgmklcaaDoor.QOrd Go.Proofs.YtlljmgphgmklcaaDoor.Q8For Go.Proofs.YtlljmgphgmklcaaDoor.Q8List Go.Proofs.YtlljmgphgmklcaaDoor.Q8Rate Go.Proofs.YtlljmgphgmklcaaDoor.QLoop Go.Proofs.YtlljmgphgmklcaaDoor.PIntA3 Go.Proofs.YtlljmgphgmklcaaDoor.PRate

def fr (l : List Rate) (zone grams : Int) (d : Nat) : Int := rateV l (d : Int) zone grams
def spanL (l : List Rate) (zone grams : Int) : List IntA3 := (refS (fr l zone grams) 4001).1
/-- the k-th turning day; the day behind all days where there is none -/
def dayN (l : List Rate) (k : Nat) : Nat := match (tdays l)[k]? with | none => 4001 | some d => d.toNat
theorem spans_len (l : List Rate) (zone grams : Int) : (spanL l zone grams).length ≤ 4001 := by
  have key : ∀ n, (refS (fr l zone grams) n).1.length ≤ n := by
    intro n
    induction n with
    | zero => simp [refS]
    | succ n ih =>
      show (stepS _ (refS _ n) n).1.length ≤ n + 1
      unfold stepS
      split
      · dsimp only
        split
        · rcases List.eq_nil_or_concat (refS (fr l zone grams) n).1 with e | ⟨m, y, e⟩
          · rw [e]; simp [bump]
          · rw [e] at ih ⊢
            rw [List.concat_eq_append] at ih ⊢
            rw [bump_end]
            simp only [List.length_append, List.length_singleton] at ih ⊢; omega
        · rw [List.length_append]; simp; omega
      · dsimp only; omega
  exact key 4001
theorem last_idx (m : List IntA3) (y : IntA3) (hm : m.length ≤ 1000000) : idx (m ++ [y]) (IntKind.i64.wrap (((m ++ [y]).length : Int) - 1)) = some y ∧ (IntKind.i64.wrap (((m ++ [y]).length : Int) - 1)).toNat = m.length ∧ 0 ≤ IntKind.i64.wrap (((m ++ [y]).length : Int) - 1) := by
  rw [List.length_append, List.length_singleton]
  have : (((m.length + 1 : Nat) : Int) - 1) = (m.length : Int) := by omega
  rw [this, wrap_in (by omega) (by omega)]
  refine ⟨?_, by omega, by omega⟩
  rw [idx_nat]; simp
/-- one round of the program's loop, at a day with a rate, is one more span, or the last one put off -/
theorem round_add {R : Type} {s : List IntA3} (hs : s.length ≤ 1000000) (day til c : Int) (hd : -1000000 ≤ day ∧ day ≤ 1000000) (hc : ¬ c = 0) (nx : List IntA3 → Option R) :
    (letK (IntKind.i64.wrap ((s.length : Int) - 1)) fun (t_32 : Int) =>
      letK (decide (0 ≤ t_32)) fun (t_35 : Bool) =>
      joinK (fun (t_45 : Bool) =>
      joinK (fun (t_54 : Bool) =>
      iteK t_54
      (Option.bind (idx s t_32) fun (yt_58 : IntA3) =>
      unIntA3 yt_58 fun (t_58_x0 : Int) (t_58_x1 : Int) (t_58_x2 : Int) =>
      letK (s.set (t_32).toNat (IntA3.mk t_58_x0 til t_58_x2)) fun (l60_60 : (List IntA3)) =>
      appK nx (l60_60))
      (guardK (s.length ≤ 1099511627776) <|
      letK (s ++ [(IntA3.mk day til c)]) fun (t_67 : (List IntA3)) =>
      appK nx (t_67))) fun jt_54 => iteK t_45 (Option.bind (idx s t_32) fun (yt_49 : IntA3) =>
      unIntA3 yt_49 fun (t_49_x0 : Int) (t_49_x1 : Int) (t_49_x2 : Int) =>
      letK (t_49_x2 == c) fun (t_53 : Bool) =>
      appK jt_54 t_53) (appK jt_54 false)) fun jt_45 => iteK t_35 (Option.bind (idx s t_32) fun (yt_39 : IntA3) =>
      unIntA3 yt_39 fun (t_39_x0 : Int) (t_39_x1 : Int) (t_39_x2 : Int) =>
      letK (IntKind.i64.wrap (day - 1)) fun (t_43 : Int) =>
      letK (t_39_x1 == t_43) fun (t_44 : Bool) =>
      appK jt_45 t_44) (appK jt_45 false)) = nx (addS s day til c) := by
  unfold addS
  rw [if_neg hc]
  rcases List.eq_nil_or_concat s with rfl | ⟨m, y, rfl⟩
  · simp only [List.length_nil, letK, joinK, appK, iteK_if, goesOn, List.getLast?_nil, Bool.false_eq_true, if_false]
    have : ¬ (0 ≤ IntKind.i64.wrap (((0 : Nat) : Int) - 1)) := by rw [wrap_in (by omega) (by omega)]; omega
    rw [decide_eq_false this]
    simp [guardK]
  · rw [List.concat_eq_append] at hs ⊢
    have hm : m.length ≤ 1000000 := by rw [List.length_append] at hs; omega
    obtain ⟨h1, h2, h3⟩ := last_idx m y hm
    obtain ⟨x0, x1, x2⟩ := y
    simp only [letK, joinK, appK, iteK_if, h1, Option.bind_some, unIntA3, h2, decide_eq_true h3, if_true, goesOn, List.getLast?_append, List.getLast?_singleton, Option.some_or]
    rw [wrap_in (x := day - 1) (by omega) (by omega), guardK_pos (by omega)]
    by_cases e1 : x1 = day - 1
    · by_cases e2 : x2 = c
      · subst e2
        simp [e1, bump_end]
      · simp [e1, e2]
    · simp [e1]
theorem spansOf_eq {l : List Rate} (h : okRs l = true) (zone grams : Int) : GiSpansOf.P l zone grams = some (spanL l zone grams) := by
  have hf : ∀ d, 0 ≤ fr l zone grams d := fun d => rateV_nonneg h _ _ _
  have h16 := riseL_len h
  have hlen := days_len l
  have hup := days_up l
  have lt_at : ∀ {i j : Nat} {a b : Int}, i < j → (tdays l)[i]? = some a → (tdays l)[j]? = some b → a < b := by
    intro i j a b hij ha hb
    obtain ⟨a1, a2⟩ := List.getElem?_eq_some_iff.1 ha
    obtain ⟨b1, b2⟩ := List.getElem?_eq_some_iff.1 hb
    have := List.pairwise_iff_getElem.1 hup i j a1 b1 hij
    rw [a2, b2] at this; exact this
  simp only [GiSpansOf.P, days_eq h, Option.bind_some]
  refine cnt_is _ (fun k s => s = (refS (fr l zone grams) (dayN l k)).1 ∧ s.length ≤ k) ?_ ?_ _ ⟨?_, by simp⟩
  · intro k s nx hk ⟨hI, hsl⟩ hn
    obtain ⟨day, hday, hi⟩ := at_lt (l := tdays l) (k := k) hk
    have hr := day_range h (List.mem_of_getElem? hday)
    have hdk : dayN l k = day.toNat := by unfold dayN; rw [hday]
    have hfk : fr l zone grams day.toNat = rateV l day zone grams := by unfold fr; congr 1; omega
    have hpast : ∀ t ∈ tdays l, day < t → (dayN l (k + 1) : Int) ≤ t := by
      intro t ht hlt
      obtain ⟨j, hj⟩ := List.getElem?_of_mem ht
      by_cases hjk : j ≤ k
      · by_cases e : j = k
        · subst e; rw [hday] at hj; simp at hj; omega
        · have := lt_at (i := j) (j := k) (by omega) hj hday; omega
      · obtain ⟨nxt, hnx, _⟩ := at_lt (l := tdays l) (k := k + 1) (by have := (List.getElem?_eq_some_iff.1 hj).1; omega)
        have hrn := day_range h (List.mem_of_getElem? hnx)
        have : dayN l (k + 1) = nxt.toNat := by unfold dayN; rw [hnx]
        by_cases e : j = k + 1
        · subst e; rw [hnx] at hj; simp at hj; omega
        · have := lt_at (i := k + 1) (j := j) (by omega) hnx hj; omega
    have hsame : ∀ d, day.toNat ≤ d → d < dayN l (k + 1) → fr l zone grams d = fr l zone grams day.toNat := by
      intro d h1 h2
      rw [hfk]
      exact rate_same h (by omega) (fun t ht hlt => by have := hpast t ht hlt; omega)
    simp only [GiSpansOf.l0, hi, Option.bind_some, rateOn_eq]
    by_cases hz : rateV l day zone grams = 0
    · simp only [hz, letK, appK, iteK_if]
      refine hn _ ⟨?_, by omega⟩
      rw [hI, hdk]
      by_cases hle : day.toNat ≤ dayN l (k + 1)
      · exact (run_zero hle (fun d h1 h2 => by rw [hsame d h1 h2, hfk, hz])).symm
      · exfalso
        cases hx : (tdays l)[k + 1]? with
        | none => have : dayN l (k + 1) = 4001 := by unfold dayN; rw [hx]
                  omega
        | some nxt =>
          have := lt_at (i := k) (j := k + 1) (by omega) hday hx
          have : dayN l (k + 1) = nxt.toNat := by unfold dayN; rw [hx]
          omega
    · have hk1 : k + 1 < (tdays l).length := by
        refine Classical.byContradiction fun hno => hz (rate_none fun r hr' hb => ?_)
        have hmem : r.until_ + 1 ∈ tdays l := mem_days.2 ⟨r, hr', .inr rfl⟩
        obtain ⟨j, hj⟩ := List.getElem?_of_mem hmem
        have hjl := (List.getElem?_eq_some_iff.1 hj).1
        by_cases e : j = k
        · subst e; rw [hday] at hj; simp at hj; omega
        · have := lt_at (i := j) (j := k) (by omega) hj hday; omega
      obtain ⟨nxt, hnx, hin⟩ := at_lt (l := tdays l) (k := k + 1) hk1
      have hrn := day_range h (List.mem_of_getElem? hnx)
      have hdn : dayN l (k + 1) = nxt.toNat := by unfold dayN; rw [hnx]
      have hlt := lt_at (i := k) (j := k + 1) (by omega) hday hnx
      have hw : IntKind.i64.wrap ((k : Int) + 1) = ((k + 1 : Nat) : Int) := by rw [wrap_in (by omega) (by omega)]; omega
      have hzb : (rateV l day zone grams == 0) = false := by simpa using hz
      have hw2 : IntKind.i64.wrap (nxt - 1) = nxt - 1 := wrap_in (by omega) (by omega)
      have goal : addS s day (nxt - 1) (rateV l day zone grams) = (refS (fr l zone grams) (dayN l (k + 1))).1 := by
        rw [hdn, run_add hf (a := day.toNat) (b := nxt.toNat) (by omega) (fun d h1 h2 => hsame d h1 (by omega)), hfk, hI, hdk]
        have e1 : ((day.toNat : Nat) : Int) = day := by omega
        have e2 : ((nxt.toNat : Nat) : Int) = nxt := by omega
        rw [e1, e2]
      have hadd : (addS s day (nxt - 1) (rateV l day zone grams)).length ≤ k + 1 := by
        unfold addS
        rw [if_neg hz]
        split
        · rcases List.eq_nil_or_concat s with e | ⟨m, y, e⟩
          · rw [e]; simp [bump]
          · rw [e] at hsl ⊢
            rw [List.concat_eq_append] at hsl ⊢
            rw [bump_end]
            simp only [List.length_append, List.length_singleton] at hsl ⊢; omega
        · rw [List.length_append]; simp; omega
      have hround := round_add (s := s) (by omega) day (nxt - 1) (rateV l day zone grams) (by omega) hz nx
      simp only [letK, hzb, iteK_if, Bool.false_eq_true, if_false, hw, hin, Option.bind_some, hw2] at hround ⊢
      rw [hround]
      exact hn _ ⟨goal, hadd⟩
  · intro s ⟨hI, _⟩
    have : dayN l (tdays l).length = 4001 := by unfold dayN; rw [List.getElem?_eq_none (Nat.le_refl _)]
    rw [this] at hI
    simp only [GiSpansOf.e0, letK]
    rw [hI]; rfl
  · symm
    have hz := run_zero (f := fr l zone grams) (a := 0) (b := dayN l 0) (by omega) (fun d _ hd => by
      unfold fr
      refine rate_none fun r hr hb => ?_
      have hmem : r.from_ ∈ tdays l := mem_days.2 ⟨r, hr, .inl rfl⟩
      obtain ⟨j, hj⟩ := List.getElem?_of_mem hmem
      obtain ⟨d0, hd0, _⟩ := at_lt (l := tdays l) (k := 0) (by have := (List.getElem?_eq_some_iff.1 hj).1; omega)
      have e0 : dayN l 0 = d0.toNat := by unfold dayN; rw [hd0]
      have hr0 := day_range h (List.mem_of_getElem? hd0)
      by_cases e : j = 0
      · subst e; rw [hd0] at hj; simp at hj; omega
      · have := lt_at (i := 0) (j := j) (by omega) hd0 hj; omega)
    rw [hz]; rfl
def spanRes (l : List Rate) (zone grams : Int) : List IntA3 × Bool := if (okRs l && inB zone 0 9 && inB grams 1 2000) = true then (spanL l zone grams, true) else ([], false)
theorem span_impl (l : List Rate) (zone grams : Int) (hl : l.length ≤ 9223372036854775807) : GiRateSpans.P l zone grams = some (spanRes l zone grams) := by
  simp only [GiRateSpans.P, canSend_eq l zone grams hl, Option.bind_some, letK, iteK_if, spanRes]
  cases hc : okRs l && inB zone 0 9 && inB grams 1 2000 with
  | false => simp
  | true =>
    simp only [Bool.and_eq_true] at hc
    simp [spansOf_eq hc.1.1]
theorem ref_len (l : List Rate) (zone grams : Int) (n : Nat) : (refS (fr l zone grams) n).1.length ≤ n := by
  induction n with
  | zero => simp [refS]
  | succ n ih =>
    show (stepS _ (refS _ n) n).1.length ≤ n + 1
    unfold stepS
    split
    · dsimp only
      split
      · rcases List.eq_nil_or_concat (refS (fr l zone grams) n).1 with e | ⟨m, y, e⟩
        · rw [e]; simp [bump]
        · rw [e] at ih ⊢
          rw [List.concat_eq_append] at ih ⊢
          rw [bump_end]
          simp only [List.length_append, List.length_singleton] at ih ⊢; omega
      · rw [List.length_append]; simp; omega
    · dsimp only; omega
theorem span_spec {fuel : Nat} (l : List Rate) (zone grams : Int) (hl : l.length ≤ 9223372036854775807) (hf : 4002 < fuel) : GsRateSpans.P fuel l zone grams = some (spanRes l zone grams) := by
  have loop : okRs l = true → loopK (GsRateSpans.l0 l zone grams) fuel ([], 0, 0) GsRateSpans.e0 = some (spanL l zone grams, true) := by
    intro h
    have hfn : ∀ d, 0 ≤ fr l zone grams d := fun d => rateV_nonneg h _ _ _
    refine lp_is (n := 4001) _ (fun k (s : List IntA3 × Int × Int) => s = ((refS (fr l zone grams) k).1, (refS (fr l zone grams) k).2, (k : Int))) ?_ ?_ fuel 0 _ (by omega) (by omega) rfl
    · rintro k s nx hk rfl hn
      have hle : ((k : Int) ≤ 4000) := by omega
      have hw : IntKind.i64.wrap ((k : Int) + 1) = ((k + 1 : Nat) : Int) := by rw [wrap_in (by omega) (by omega)]; omega
      have hlen := ref_len l zone grams k
      obtain ⟨g0, g1, _⟩ := ref_inv hfn k
      have hfk : rateV l (k : Int) zone grams = fr l zone grams k := rfl
      have hnk := hfn k
      have hst : refS (fr l zone grams) (k + 1) = stepS (fr l zone grams) (refS (fr l zone grams) k) k := rfl
      simp only [GsRateSpans.l0, unp3, letK, decide_eq_true hle, iteK_if, if_true, l8For_eq, Option.bind_some, joinK, appK, hw, hfk]
      by_cases hp : 0 < fr l zone grams k
      · by_cases he : fr l zone grams k = (refS (fr l zone grams) k).2
        · obtain ⟨m, y, e, _, _⟩ := g1 (by omega)
          have hm : m.length ≤ 1000000 := by rw [e, List.length_append] at hlen; omega
          obtain ⟨h1, h2, h3⟩ := last_idx m y hm
          have hr : refS (fr l zone grams) (k + 1) = (m ++ [⟨y.x0, (k : Int), fr l zone grams k⟩], fr l zone grams k) := by
            rw [hst]; unfold stepS; rw [if_pos hp, if_pos he, e, bump_end]
          simp only [e, h1, h2, Option.bind_some, unIntA3, decide_eq_true hp, if_true, ← he, beq_self_eq_true]
          refine hn _ ?_
          rw [hr]
          simp
        · have hr : refS (fr l zone grams) (k + 1) = ((refS (fr l zone grams) k).1 ++ [⟨(k : Int), (k : Int), fr l zone grams k⟩], fr l zone grams k) := by
            rw [hst]; unfold stepS; rw [if_pos hp, if_neg he]
          have heb : (fr l zone grams k == (refS (fr l zone grams) k).2) = false := by simpa using he
          simp only [decide_eq_true hp, if_true, heb, Bool.false_eq_true, if_false]
          rw [guardK_pos (by omega)]
          refine hn _ ?_
          rw [hr]
      · have hr : refS (fr l zone grams) (k + 1) = ((refS (fr l zone grams) k).1, 0) := by
          rw [hst]; unfold stepS; rw [if_neg hp]
        have hz : fr l zone grams k = 0 := by omega
        simp only [decide_eq_false hp, Bool.false_eq_true, if_false]
        refine hn _ ?_
        rw [hr, hz]
    · rintro s nx rfl
      have hle : ¬ (((4001 : Nat) : Int) ≤ 4000) := by omega
      simp only [GsRateSpans.l0, unp3, letK, decide_eq_false hle, iteK_if, Bool.false_eq_true, if_false, appK, GsRateSpans.e0]
      rfl
  simp only [GsRateSpans.P, l8Good_eq l hl (show 17 < fuel by omega), l8Zone_eq, l8Grams_eq, Option.bind_some, letK, joinK, appK, iteK_if, spanRes]
  cases hc : okRs l with
  | false => simp
  | true =>
    rw [loop hc]
    cases inB zone 0 9 <;> cases inB grams 1 2000 <;> simp
theorem spanRes_len (l : List Rate) (zone grams : Int) : (spanRes l zone grams).1.length ≤ 4001 := by
  unfold spanRes
  split
  · exact spans_len l zone grams
  · simp
end Go.Proofs.YtlljmgphgmklcaaDoor.Q8Spans

/- Chapter 8: rates: the plain functions of the program and of the reference agree, and the laws answer true. (Q8First) No condition but those of each theorem. -/
namespace Go.Proofs.YtlljmgphgmklcaaDoor.Q8First
set_option linter.unusedVariables false
set_option linter.unusedSimpArgs false
open Go.RowKit
open Go.Proofs.YtlljmgphgmklcaaDoor.GoP Go.Proofs.YtlljmgphgmklcaaDoor.PlainStamp Go.Proofs.YtlljmgphgmklcaaDoor.QBase Go.Proofs.YtlljmgphgmklcaaDoor.Q8Spans Go.Proofs.YtlljmgphgmklcaaDoor.Q8Span Go.Proofs.YtlljmgphgmklcaaDoor.QUp Go.Proofs.YtlljmgphgmklcaaDoor.QFold Go.Proofs.YtlljmgphgmklcaaDoor.QRiseL Go.Proofs.YtlljmgphgmklcaaDoor.QOrd Go.Proofs.YtlljmgphgmklcaaDoor.Q8For Go.Proofs.YtlljmgphgmklcaaDoor.Q8List Go.Proofs.YtlljmgphgmklcaaDoor.Q8Rate Go.Proofs.YtlljmgphgmklcaaDoor.QLoop Go.Proofs.YtlljmgphgmklcaaDoor.PIntA3 Go.Proofs.YtlljmgphgmklcaaDoor.PRate

def firstRes (l : List Rate) (zone grams day : Int) : Int × Bool := if (okRs l && inB zone 0 9 && inB grams 1 2000 && inB day 0 4000) = true then (if skipS (spanL l zone grams) day ≤ 4000 then (skipS (spanL l zone grams) day, true) else (0, false)) else (0, false)
theorem first_impl (l : List Rate) (zone grams day : Int) (hl : l.length ≤ 9223372036854775807) : GiFirstWithout.P l zone grams day = some (firstRes l zone grams day) := by
  have loop : okRs l = true → 0 ≤ day ∧ day ≤ 4000 → cntK (GiFirstWithout.l0 (spanL l zone grams)) (spanL l zone grams).length 0 day GiFirstWithout.e0 = some (if skipS (spanL l zone grams) day ≤ 4000 then (skipS (spanL l zone grams) day, true) else (0, false)) := by
    intro h hd
    obtain ⟨c1, c2, c3⟩ := ref_cov (f := fr l zone grams) (fun d => rateV_nonneg h _ _ _) 4001
    change (∀ y ∈ spanL l zone grams, _) at c1
    change List.Pairwise _ (spanL l zone grams) at c2
    rw [fold_loop (g := fun d y => if y.x0 ≤ d ∧ d ≤ y.x1 then y.x1 + 1 else d)]
    · have hge := skip_ge (spanL l zone grams) day
      show GiFirstWithout.e0 (skipS (spanL l zone grams) day) = _
      simp only [GiFirstWithout.e0, isDay_eq, Option.bind_some, letK, iteK_if]
      by_cases hk : skipS (spanL l zone grams) day ≤ 4000
      · have : inB (skipS (spanL l zone grams) day) 0 4000 = true := by unfold inB; simp; omega
        simp [this, hk]
      · have : inB (skipS (spanL l zone grams) day) 0 4000 = false := by unfold inB; simp; omega
        simp [this, hk]
    · intro k nx y s hy
      have hi : idx (spanL l zone grams) (k : Int) = some y := by rw [idx_nat, hy]
      obtain ⟨y1, y2, y3, _⟩ := c1 y (List.mem_of_getElem? hy)
      obtain ⟨x0, x1, x2⟩ := y
      dsimp only at y1 y2 y3
      simp only [GiFirstWithout.l0, letK, hi, Option.bind_some, unIntA3, within_eq, iteK_if, appK]
      rw [wrap_in (by omega) (by omega)]
      by_cases hin : x0 ≤ s ∧ s ≤ x1
      · have : inB s x0 x1 = true := by unfold inB; simp [hin]
        simp [this, hin]
      · have : inB s x0 x1 = false := by unfold inB; simpa using hin
        simp only [this, Bool.false_eq_true, if_false, hin]
  simp only [GiFirstWithout.P, canSend_eq l zone grams hl, isDay_eq, Option.bind_some, letK, joinK, appK, iteK_if, firstRes]
  cases hc : okRs l with
  | false => simp
  | true =>
    cases hz : inB zone 0 9 with
    | false => simp
    | true =>
      cases hg : inB grams 1 2000 with
      | false => simp
      | true =>
        cases hd : inB day 0 4000 with
        | false => simp
        | true => simp [spansOf_eq hc, loop hc (inB_of hd)]
theorem first_spec {fuel : Nat} (l : List Rate) (zone grams day : Int) (hl : l.length ≤ 9223372036854775807) (hf : 4002 < fuel) : GsFirstWithout.P fuel l zone grams day = some (firstRes l zone grams day) := by
  have loop : okRs l = true → 0 ≤ day ∧ day ≤ 4000 → loopK (GsFirstWithout.l0 l zone grams) fuel day GsFirstWithout.e0 = some (if skipS (spanL l zone grams) day ≤ 4000 then (skipS (spanL l zone grams) day, true) else (0, false)) := by
    intro h hd
    obtain ⟨c1, c2, c3⟩ := ref_cov (f := fr l zone grams) (fun d => rateV_nonneg h _ _ _) 4001
    change (∀ y ∈ spanL l zone grams, _) at c1
    change List.Pairwise _ (spanL l zone grams) at c2
    have hge := skip_ge (spanL l zone grams) day
    have hle := skip_le (n := 4001) (l := spanL l zone grams) (fun y hy => (c1 y hy).2.2.1) day (by omega)
    have hout := skip_out c2 (fun y hy => (c1 y hy).2.1) day
    obtain ⟨e, he⟩ : ∃ e : Nat, skipS (spanL l zone grams) day = (e : Int) := ⟨(skipS (spanL l zone grams) day).toNat, by omega⟩
    obtain ⟨d, rfl⟩ : ∃ d : Nat, day = (d : Int) := ⟨day.toNat, by omega⟩
    rw [he] at hge hle hout ⊢
    have hpos : ∀ x : Nat, d ≤ x → x < e → ¬ (rateV l (x : Int) zone grams = 0) := by
      intro x h1 h2
      have := skip_in (f := fr l zone grams) (n := 4001) (l := spanL l zone grams) c1 d x h1 (by rw [he]; omega)
      unfold fr at this; omega
    refine lp_is (n := e - d) _ (fun k (s : Int) => s = ((d + k : Nat) : Int)) ?_ ?_ fuel 0 _ (by omega) (by omega) (by simp)
    · rintro k s nx hk rfl hn
      have hle2 : (((d + k : Nat) : Int) ≤ 4000) := by omega
      have hw : IntKind.i64.wrap (((d + k : Nat) : Int) + 1) = ((d + (k + 1) : Nat) : Int) := by rw [wrap_in (by omega) (by omega)]; omega
      have hz : (rateV l ((d + k : Nat) : Int) zone grams == 0) = false := by simpa using hpos (d + k) (by omega) (by omega)
      simp only [GsFirstWithout.l0, letK, decide_eq_true hle2, iteK_if, if_true, l8For_eq, Option.bind_some, hz, Bool.false_eq_true, if_false, hw, appK]
      exact hn _ rfl
    · rintro s nx rfl
      have hde : d + (e - d) = e := by omega
      rw [hde]
      by_cases h4 : (e : Int) ≤ 4000
      · have hz : rateV l (e : Int) zone grams = 0 := by
          refine Classical.byContradiction fun hno => ?_
          have hnn := rateV_nonneg h (e : Int) zone grams
          obtain ⟨y, hy, hcv⟩ := c3 e (by omega) (by unfold fr; omega)
          exact hout y hy hcv
        simp [GsFirstWithout.l0, letK, h4, iteK_if, l8For_eq, hz]
      · simp [GsFirstWithout.l0, letK, h4, iteK_if, appK, GsFirstWithout.e0]
  simp only [GsFirstWithout.P, l8Good_eq l hl (show 17 < fuel by omega), l8Zone_eq, l8Grams_eq, l2Day_eq, Option.bind_some, letK, joinK, appK, iteK_if, firstRes]
  cases hc : okRs l with
  | false => simp
  | true =>
    cases hz : inB zone 0 9 with
    | false => simp
    | true =>
      cases hg : inB grams 1 2000 with
      | false => simp
      | true =>
        cases hd : inB day 0 4000 with
        | false => simp
        | true => simp [loop hc (inB_of hd)]
end Go.Proofs.YtlljmgphgmklcaaDoor.Q8First

/- Chapter 8: rates: the plain functions of the program and of the reference agree, and the laws answer true. (Q8Heavy) No condition but those of each theorem. -/
namespace Go.Proofs.YtlljmgphgmklcaaDoor.Q8Heavy
set_option linter.unusedVariables false
set_option linter.unusedSimpArgs false
open Go.RowKit
open Go.Proofs.YtlljmgphgmklcaaDoor.GoP Go.Proofs.YtlljmgphgmklcaaDoor.PlainStamp Go.Proofs.YtlljmgphgmklcaaDoor.QBase Go.Proofs.YtlljmgphgmklcaaDoor.QFold Go.Proofs.YtlljmgphgmklcaaDoor.Q8For Go.Proofs.YtlljmgphgmklcaaDoor.Q8List Go.Proofs.YtlljmgphgmklcaaDoor.Q8Rate Go.Proofs.YtlljmgphgmklcaaDoor.QLoop Go.Proofs.YtlljmgphgmklcaaDoor.PRate

def hvB (day zone cents : Int) (r : Rate) : Bool := decide (r.zone = zone) && decide (r.cents ≤ cents) && inB day r.from_ r.until_
def heavyV (l : List Rate) (day zone cents : Int) : Int := l.foldl (fun b r => if hvB day zone cents r = true then r.grams else b) 0
def heavyRes (l : List Rate) (day zone cents : Int) : Int × Bool := if (okRs l && inB day 0 4000 && inB zone 0 9 && inB cents 1 9999) = true then (heavyV l day zone cents, decide (0 < heavyV l day zone cents)) else (0, false)
theorem heavy_impl (l : List Rate) (day zone cents : Int) (hl : l.length ≤ 9223372036854775807) : GiHeaviestFor.P l day zone cents = some (heavyRes l day zone cents) := by
  have key : cntK (GiHeaviestFor.l0 l day zone cents) l.length 0 0 GiHeaviestFor.e0 = some (heavyV l day zone cents, decide (0 < heavyV l day zone cents)) := by
    rw [fold_loop (g := fun b r => if hvB day zone cents r = true then r.grams else b)]
    · rfl
    · intro k nx x s hx
      have hi : idx l (k : Int) = some x := by rw [idx_nat, hx]
      simp only [GiHeaviestFor.l0, hi, Option.bind_some, unRate, within_eq, letK, joinK, appK, iteK_if, hvB]
      by_cases h1 : x.zone = zone <;> by_cases h2 : x.cents ≤ cents <;> by_cases h3 : inB day x.from_ x.until_ = true <;> simp [h1, h2, h3]
  simp only [GiHeaviestFor.P, areRates_eq l hl, isDay_eq, isZone_eq, isRateCents_eq, key, Option.bind_some, letK, joinK, appK, iteK_if, heavyRes]
  cases okRs l <;> cases inB day 0 4000 <;> cases inB zone 0 9 <;> cases inB cents 1 9999 <;> simp
end Go.Proofs.YtlljmgphgmklcaaDoor.Q8Heavy

/- Chapter 8: rates: the plain functions of the program and of the reference agree, and the laws answer true. (Q8RateFor) No condition but those of each theorem. -/
namespace Go.Proofs.YtlljmgphgmklcaaDoor.Q8RateFor
set_option linter.unusedVariables false
set_option linter.unusedSimpArgs false
open Go.RowKit
open Go.Proofs.YtlljmgphgmklcaaDoor.GoP Go.Proofs.YtlljmgphgmklcaaDoor.PlainStamp Go.Proofs.YtlljmgphgmklcaaDoor.QBase Go.Proofs.YtlljmgphgmklcaaDoor.Q8For Go.Proofs.YtlljmgphgmklcaaDoor.Q8List Go.Proofs.YtlljmgphgmklcaaDoor.Q8Rate Go.Proofs.YtlljmgphgmklcaaDoor.QLoop Go.Proofs.YtlljmgphgmklcaaDoor.PRate

def forRes (l : List Rate) (day zone grams : Int) : Int × Bool := if (okRs l && inB day 0 4000 && inB zone 0 9 && inB grams 1 2000) = true then (rateV l day zone grams, decide (0 < rateV l day zone grams)) else (0, false)
theorem for_impl (l : List Rate) (day zone grams : Int) (hl : l.length ≤ 9223372036854775807) : GiRateFor.P l day zone grams = some (forRes l day zone grams) := by
  simp only [GiRateFor.P, canSend_eq l zone grams hl, isDay_eq, rateOn_eq, Option.bind_some, letK, joinK, appK, iteK_if, forRes]
  cases okRs l <;> cases inB day 0 4000 <;> cases inB zone 0 9 <;> cases inB grams 1 2000 <;> simp
theorem for_spec {fuel : Nat} (l : List Rate) (day zone grams : Int) (hl : l.length ≤ 9223372036854775807) (hf : 17 < fuel) : GsRateFor.P fuel l day zone grams = some (forRes l day zone grams) := by
  simp only [GsRateFor.P, l8Good_eq l hl hf, l2Day_eq, l8Zone_eq, l8Grams_eq, l8For_eq, Option.bind_some, letK, joinK, appK, iteK_if, forRes]
  cases okRs l <;> cases inB day 0 4000 <;> cases inB zone 0 9 <;> cases inB grams 1 2000 <;> simp
end Go.Proofs.YtlljmgphgmklcaaDoor.Q8RateFor

