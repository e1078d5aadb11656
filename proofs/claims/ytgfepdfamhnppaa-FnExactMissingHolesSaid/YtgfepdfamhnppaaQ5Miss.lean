/- Chapter 5: combs, holes, gauges: the plain functions of the program and of the reference agree, and the laws answer true. (Q5Miss) No condition but those of each theorem. -/
import Derived.Test.YtgfepdfamhnppaaQ5Distances
import Derived.Test.YtgfepdfamhnppaaQ5Dist
import Derived.Test.YtgfepdfamhnppaaQ5Holes
import Derived.Test.YtgfepdfamhnppaaQ5Gauge
import Derived.Test.YtgfepdfamhnppaaQ5Most
import Derived.Test.YtgfepdfamhnppaaQUp
import Derived.Test.YtgfepdfamhnppaaQLoop
import Derived.Test.YtgfepdfamhnppaaQAll
import Derived.Test.YtgfepdfamhnppaaQToI
import Derived.Test.YtgfepdfamhnppaaQInt
import Derived.Test.YtgfepdfamhnppaaGlFnExactMissingHoles
namespace Go.Proofs.Ytgfepdfamhnppaa.Q5Miss
set_option linter.unusedVariables false
set_option linter.unusedSimpArgs false
open Go.RowKit
open Go.Proofs.Ytgfepdfamhnppaa.GoP Go.Proofs.Ytgfepdfamhnppaa.PlainStamp Go.Proofs.Ytgfepdfamhnppaa.QBase Go.Proofs.Ytgfepdfamhnppaa.Q5Distances Go.Proofs.Ytgfepdfamhnppaa.Q5Dist Go.Proofs.Ytgfepdfamhnppaa.Q5Holes Go.Proofs.Ytgfepdfamhnppaa.Q5Gauge Go.Proofs.Ytgfepdfamhnppaa.Q5Most Go.Proofs.Ytgfepdfamhnppaa.QUp Go.Proofs.Ytgfepdfamhnppaa.QLoop Go.Proofs.Ytgfepdfamhnppaa.QAll Go.Proofs.Ytgfepdfamhnppaa.QToI Go.Proofs.Ytgfepdfamhnppaa.QInt

def miss1 (g d : Int) : Int := max ((d * g + 100000) / 200000 - 1) 0
theorem prod_in {d g : Int} (hd : 1 ≤ d ∧ d ≤ 9999) (hg : 500 ≤ g ∧ g ≤ 2000) : 0 ≤ d * g ∧ d * g ≤ 19998000 := by
  have h1 : d * g ≤ 9999 * 2000 := Int.mul_le_mul hd.2 hg.2 (by omega) (by omega)
  have h2 : 0 ≤ d * g := Int.mul_nonneg (by omega) (by omega)
  omega
theorem miss1_in {d g : Int} (hd : 1 ≤ d ∧ d ≤ 9999) (hg : 500 ≤ g ∧ g ≤ 2000) : 0 ≤ miss1 g d ∧ miss1 g d ≤ 1000 := by
  have := prod_in hd hg
  unfold miss1; omega
theorem miss1_impl {d g : Int} (hd : 1 ≤ d ∧ d ≤ 9999) (hg : 500 ≤ g ∧ g ≤ 2000) : max (IntKind.i64.wrap (IntKind.i64.wrap (Int.tdiv (IntKind.i64.wrap (IntKind.i64.wrap (d * g) + 100000)) 200000) - 1)) 0 = miss1 g d := by
  have h := prod_in hd hg
  rw [wrap_in (x := d * g) (by omega) (by omega), wrap_in (x := d * g + 100000) (by omega) (by omega), Int.tdiv_eq_ediv_of_nonneg (by omega)]
  unfold miss1
  generalize d * g = p at *
  rw [wrap_in (x := (p + 100000) / 200000) (by omega) (by omega), wrap_in (x := (p + 100000) / 200000 - 1) (by omega) (by omega)]
theorem miss1_spec {d g : Int} (hd : 1 ≤ d ∧ d ≤ 9999) (hg : 500 ≤ g ∧ g ≤ 2000) : max 0 (IntKind.i64.wrap (IntKind.i64.wrap (Int.tdiv (IntKind.i64.wrap (IntKind.i64.wrap (IntKind.i64.wrap (2 * d) * g) + 200000)) 400000) - 1)) = miss1 g d := by
  have h := prod_in hd hg
  rw [wrap_in (x := 2 * d) (by omega) (by omega), Int.mul_assoc]
  unfold miss1
  generalize d * g = p at *
  rw [wrap_in (x := 2 * p) (by omega) (by omega), wrap_in (x := 2 * p + 200000) (by omega) (by omega), Int.tdiv_eq_ediv_of_nonneg (by omega), wrap_in (x := (2 * p + 200000) / 400000) (by omega) (by omega), wrap_in (x := (2 * p + 200000) / 400000 - 1) (by omega) (by omega)]
  omega
def missSum (l : List Int) (g : Int) (k : Nat) : Int := ((List.range k).map (fun i => miss1 g (dAt l i))).sum
theorem missSum_succ (l : List Int) (g : Int) (k : Nat) : missSum l g (k + 1) = missSum l g k + miss1 g (dAt l k) := by
  unfold missSum; rw [List.range_succ, List.map_append, List.sum_append]; simp
theorem missSum_in {l : List Int} {g : Int} (h : holesB l = true) (hg : 500 ≤ g ∧ g ≤ 2000) : ∀ k, k ≤ l.length - 1 → 0 ≤ missSum l g k ∧ missSum l g k ≤ 1000 * (k : Int) := by
  intro k
  induction k with
  | zero => intro _; simp [missSum]
  | succ k ih =>
    intro hk
    have h1 := ih (by omega)
    have h2 := miss1_in (dist_in h (k := k) (by omega)) hg
    rw [missSum_succ]; omega
def missRes (l : List Int) (g : Int) : Int × Bool := if (holesB l && inB g 500 2000) = true then (missSum l g (l.length - 1), true) else (0, false)
theorem miss_impl (l : List Int) (g : Int) (hl : l.length ≤ 9223372036854775807) {fuel : Nat} (hf : 1048577 ≤ fuel) : GiMissingHoles.P fuel l g = some (missRes l g) := by
  simp only [GiMissingHoles.P, areHoles_eq l hl, isGauge_eq, Option.bind_some, letK, joinK, appK, iteK_if, missRes]
  cases h : holesB l with
  | false => simp
  | true =>
    cases hg : inB g 500 2000 with
    | false => simp
    | true =>
      have hn := holes_len h
      have hgb := inB_of hg
      have hd := dist_len l
      simp only [Bool.not_true, Bool.false_eq_true, if_false, distances_eq h hf, Option.bind_some, Bool.and_self, if_true]
      refine cnt_is _ (fun k s => s = missSum l g k) ?_ ?_ _ rfl
      · rintro k s nx hk rfl hnx
        have hk' : k < l.length - 1 := by omega
        have hi : idx (dist l) (k : Int) = some (dAt l k) := by rw [idx_nat, dist_at hk']
        have hdi := dist_in h hk'
        simp only [GiMissingHoles.l0, letK, hi, Option.bind_some, appK, miss1_impl hdi hgb]
        have h1 := missSum_in h hgb k (by omega)
        have h2 := miss1_in hdi hgb
        rw [wrap_in (by omega) (by omega)]
        exact hnx _ (missSum_succ l g k).symm
      · rintro s rfl
        rw [hd]; rfl
theorem miss_spec (l : List Int) (g : Int) (hl : l.length ≤ 9223372036854775807) {fuel : Nat} (hf : 1048577 ≤ fuel) : GsMissingHoles.P fuel l g = some (missRes l g) := by
  simp only [GsMissingHoles.P, l5Holes_eq l hl, l5Gauge_eq, Option.bind_some, letK, joinK, appK, iteK_if, missRes]
  cases h : holesB l with
  | false => simp
  | true =>
    cases hg : inB g 500 2000 with
    | false => simp
    | true =>
      have hn := holes_len h
      have hgb := inB_of hg
      simp only [Bool.not_true, Bool.false_eq_true, if_false, Bool.and_self, if_true]
      refine lp_is (n := l.length - 1) _ (fun k s => s = (missSum l g k, (k : Int) + 1)) ?_ ?_ fuel 0 _ (by omega) (by omega) rfl
      · rintro k s nx hk rfl hnx
        obtain ⟨x, y, hy, hx, hw⟩ := two_at h hk
        have ht : decide ((k : Int) + 1 < (l.length : Int)) = true := by simp; omega
        have hdi := dist_in h hk
        simp only [GsMissingHoles.l0, unp2, letK, ht, iteK_if, if_true, hy, hx, hw, Option.bind_some, appK, most_is, miss1_spec hdi hgb]
        have h1 := missSum_in h hgb k (by omega)
        have h2 := miss1_in hdi hgb
        rw [wrap_in (x := missSum l g k + miss1 g (dAt l k)) (by omega) (by omega), wrap_in (x := (k : Int) + 1 + 1) (by omega) (by omega)]
        exact hnx _ (by rw [missSum_succ]; simp)
      · rintro s nx rfl
        have ht : decide (((l.length - 1 : Nat) : Int) + 1 < (l.length : Int)) = false := by simp; omega
        simp only [GsMissingHoles.l0, unp2, letK, ht, iteK_if, appK, GsMissingHoles.e0]
        simp
theorem law_miss (fuel : Nat) (hf : 1048577 ≤ fuel) (l : List Int) (g : Int) (hl : l.length ≤ 9223372036854775807) : GlFnExactMissingHoles.P fuel l g = some true := by
  simp only [GlFnExactMissingHoles.P, letK, iteK_if]
  by_cases hb : (1048576 : Int) < (l.length : Int)
  · rw [if_pos (by simpa using hb)]
  · rw [if_neg (by simpa using hb)]
    obtain ⟨⟨a, b⟩, hr⟩ : ∃ x, x = missRes l g := ⟨_, rfl⟩
    simp [toI l (by omega), miss_impl l g hl hf, miss_spec l g hl hf, ← hr, bind2, joinK, appK, iteK_if, eqI]
end Go.Proofs.Ytgfepdfamhnppaa.Q5Miss
