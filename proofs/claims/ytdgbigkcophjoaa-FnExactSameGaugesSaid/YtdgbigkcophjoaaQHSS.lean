/- Combs of the same gauges: the plain functions of the program and of the reference agree, and the law answers true. (QHSS) No condition but those of each theorem. -/
import Derived.Test.YtdgbigkcophjoaaQLoop
import Derived.Test.YtdgbigkcophjoaaGlEqIntSS
import Derived.Test.YtdgbigkcophjoaaGlMarkIntSS
import Derived.Test.YtdgbigkcophjoaaGlHeldIntSS
namespace Go.Proofs.Ytdgbigkcophjoaa.QHSS
set_option linter.unusedVariables false
set_option linter.unusedSimpArgs false
open Go.RowKit
open Go.Proofs.Ytdgbigkcophjoaa.GoP Go.Proofs.Ytdgbigkcophjoaa.PlainStamp Go.Proofs.Ytdgbigkcophjoaa.QBase Go.Proofs.Ytdgbigkcophjoaa.QLoop

theorem eqI3 (l : List Int) : GlEqIntS.P l l = some true := by
  simp only [GlEqIntS.P, letK, iteK_if]
  rw [if_neg (by simp)]
  refine cnt_is true (fun _ _ => True) ?_ (fun s _ => rfl) () trivial
  intro k s nx hk _ hn
  obtain ⟨x, hx, hi⟩ := at_lt (l := l) (k := k) hk
  simp only [GlEqIntS.l0, hi, Option.bind_some, letK, appK, iteK_if]
  rw [if_neg (by simp)]
  exact hn () trivial
theorem eqSS (l : List (List Int)) : GlEqIntSS.P l l = some true := by
  simp only [GlEqIntSS.P, letK, iteK_if]
  rw [if_neg (by simp)]
  refine cnt_is true (fun _ _ => True) ?_ (fun s _ => rfl) () trivial
  rintro k ⟨⟩ nx hk _ hn
  obtain ⟨x, hx, hi⟩ := at_lt (l := l) (k := k) hk
  simp only [GlEqIntSS.l0, hi, Option.bind_some, eqI3, letK, appK, iteK_if]
  rw [if_neg (by simp)]
  exact hn () trivial
/-- c, c + 1 .. -/
def upsF (c : Int) (n : Nat) : List Int := (List.range n).map fun i : Nat => c + (i : Int)
theorem upsF_at {c : Int} {n k : Nat} (h : k < n) : (upsF c n)[k]? = some (c + (k : Int)) := by unfold upsF; simp [h]
theorem upsF_len (c : Int) (n : Nat) : (upsF c n).length = n := by simp [upsF]
theorem markF (l : List Int) (c : Int) (h0 : 0 ≤ c) (h1 : c + l.length ≤ 1099511627776) : GlMarkIntS.P l c = some (c + (l.length : Int), upsF c l.length) := by
  simp only [GlMarkIntS.P]
  refine cnt_is _ (fun k (s : List Int × Int) => s.1.length = l.length ∧ s.2 = c + (k : Int) ∧ ∀ i : Nat, i < k → s.1[i]? = some (c + (i : Int))) ?_ ?_ (l, c) ⟨rfl, by simp, fun i hi => by omega⟩
  · rintro k ⟨a, b⟩ nx hk ⟨h1, h2, h3⟩ hn
    dsimp only at h1 h2 h3
    obtain ⟨x, hx, hi⟩ := at_lt (l := a) (k := k) (by omega)
    simp only [GlMarkIntS.l0, unp2, hi, Option.bind_some, letK, appK]
    rw [wrap_in (by omega) (by omega)]
    refine hn _ ⟨by simpa using h1, by dsimp only; omega, fun i hi2 => ?_⟩
    dsimp only
    by_cases he : i = k
    · subst he; rw [List.getElem?_set_self (by omega), h2]
    · rw [List.getElem?_set_ne (by omega)]; exact h3 i (by omega)
  · rintro ⟨a, b⟩ ⟨h1, h2, h3⟩
    dsimp only at h1 h2 h3
    have : a = upsF c l.length := by
      apply List.ext_getElem?
      intro i
      by_cases hi : i < l.length
      · rw [h3 i hi, upsF_at hi]
      · rw [List.getElem?_eq_none (by omega), List.getElem?_eq_none (by rw [upsF_len]; omega)]
    simp only [GlMarkIntS.e0, unp2]
    rw [this, h2]
theorem heldF (c : Int) (n : Nat) (h0 : 0 ≤ c) (h1 : c + n ≤ 1099511627776) : GlHeldIntS.P (upsF c n) c = some (c + (n : Int)) := by
  simp only [GlHeldIntS.P]
  refine cnt_is _ (fun k s => s = c + (k : Int)) ?_ ?_ c (by simp)
  · intro k s nx hk hI hn
    rw [upsF_len] at hk
    have hi : idx (upsF c n) (k : Int) = some (c + (k : Int)) := by rw [idx_nat, upsF_at hk]
    simp only [GlHeldIntS.l0, hi, Option.bind_some, letK, appK, iteK_if]
    rw [if_neg (by simp [hI]), wrap_in (by omega) (by omega)]
    exact hn _ (by omega)
  · intro s hI
    simp only [GlHeldIntS.e0, letK]
    rw [hI, upsF_len]
def st (g : List (List Int)) (i : Nat) : Nat := 1 + ((g.take i).map List.length).sum
theorem st_succ {g : List (List Int)} {k : Nat} {row : List Int} (h : g[k]? = some row) : st g (k + 1) = st g k + row.length := by
  unfold st
  rw [take_next h, List.map_append, List.sum_append]
  simp; omega
theorem st_le {g : List (List Int)} {m : Nat} (h : ∀ row ∈ g, row.length ≤ m) : ∀ i, i ≤ g.length → st g i ≤ 1 + m * i := by
  intro i
  induction i with
  | zero => intro _; simp [st]
  | succ i ih =>
    intro hi
    obtain ⟨row, hr, _⟩ := at_lt (l := g) (k := i) (by omega)
    have h1 := h row (List.mem_of_getElem? hr)
    have h2 := ih (by omega)
    rw [st_succ hr, Nat.mul_succ]
    omega
theorem markSS (g : List (List Int)) (hb : ∀ row ∈ g, row.length ≤ 1000) (hl : g.length ≤ 1000) : ∃ M, GlMarkIntSS.P g 1 = some ((st g g.length : Int), M) ∧ GlHeldIntSS.P M 1 = some (st g g.length : Int) := by
  have hst : ∀ i, i ≤ g.length → st g i ≤ 1000001 := by
    intro i hi
    have := st_le hb i hi
    have h2 : 1000 * i ≤ 1000 * 1000 := Nat.mul_le_mul_left 1000 (by omega)
    omega
  obtain ⟨⟨v, M⟩, h, hv, hM, hrow⟩ : ∃ r : Int × List (List Int), GlMarkIntSS.P g 1 = some r ∧ r.1 = (st g g.length : Int) ∧ r.2.length = g.length ∧ ∀ (i : Nat) (row : List Int), g[i]? = some row → r.2[i]? = some (upsF (st g i : Int) row.length) := by
    simp only [GlMarkIntSS.P]
    refine cnt_ex (n := g.length) (Q := fun r : Int × List (List Int) => r.1 = (st g g.length : Int) ∧ r.2.length = g.length ∧ ∀ (i : Nat) (row : List Int), g[i]? = some row → r.2[i]? = some (upsF (st g i : Int) row.length)) (fun k (s : List (List Int) × Int) => s.1.length = g.length ∧ s.2 = (st g k : Int) ∧ (∀ (i : Nat) (row : List Int), i < k → g[i]? = some row → s.1[i]? = some (upsF (st g i : Int) row.length)) ∧ ∀ i : Nat, k ≤ i → s.1[i]? = g[i]?) ?_ ?_ g.length 0 (g, 1) (by omega) ⟨rfl, by simp [st], fun i row hi _ => by omega, fun i _ => rfl⟩
    · rintro k ⟨a, b⟩ nx hk ⟨h1, h2, h3, h4⟩ hn
      dsimp only at h1 h2 h3 h4
      obtain ⟨row, hr, _⟩ := at_lt (l := g) (k := k) hk
      have ha := h4 k (Nat.le_refl _)
      rw [hr] at ha
      have hai : idx a (k : Int) = some row := by rw [idx_nat, ha]
      have hs := hst (k + 1) (by omega)
      rw [st_succ hr] at hs
      simp only [GlMarkIntSS.l0, unp2, hai, Option.bind_some, h2]
      rw [markF row (st g k : Int) (by omega) (by omega)]
      simp only [bind2_some, letK, appK]
      refine hn _ ⟨by dsimp only; rw [List.length_set]; exact h1, by dsimp only; rw [st_succ hr]; omega, fun i row' hi hr' => ?_, fun i hi => ?_⟩
      · dsimp only
        by_cases he : i = k
        · subst he
          obtain rfl := Option.some.inj (hr.symm.trans hr')
          rw [List.getElem?_set_self (by omega)]
        · rw [List.getElem?_set_ne (by omega)]
          exact h3 i row' (by omega) hr'
      · dsimp only
        rw [List.getElem?_set_ne (by omega)]
        exact h4 i (by omega)
    · rintro ⟨a, b⟩ ⟨h1, h2, h3, h4⟩
      dsimp only at h1 h2 h3 h4
      exact ⟨_, rfl, h2, h1, fun i row hr => h3 i row (List.getElem?_eq_some_iff.1 hr).1 hr⟩
  dsimp only at hv hM hrow
  refine ⟨M, by rw [h, hv], ?_⟩
  simp only [GlHeldIntSS.P]
  refine cnt_is _ (fun k s => s = (st g k : Int)) ?_ ?_ 1 (by simp [st])
  · intro k s nx hk hI hn
    obtain ⟨row, hr, _⟩ := at_lt (l := g) (k := k) (by omega)
    have hMi : idx M (k : Int) = some (upsF (st g k : Int) row.length) := by rw [idx_nat, hrow k row hr]
    have hs := hst (k + 1) (by omega)
    rw [st_succ hr] at hs
    simp only [GlHeldIntSS.l0, letK, hMi, Option.bind_some, hI]
    rw [heldF (st g k : Int) row.length (by omega) (by omega)]
    simp only [Option.bind_some, appK, iteK_if]
    rw [if_neg (by simp; omega)]
    exact hn _ (by rw [st_succ hr]; omega)
  · intro s hI
    simp only [GlHeldIntSS.e0, letK]
    rw [hI, hM]
end Go.Proofs.Ytdgbigkcophjoaa.QHSS
