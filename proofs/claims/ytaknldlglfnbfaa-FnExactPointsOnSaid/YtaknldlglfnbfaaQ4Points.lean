/- Points on a sheet, the text of a block: the plain functions of the program and of the reference agree, and the laws answer true. (Q4Points) No condition but those of each theorem. -/
import Derived.Test.YtaknldlglfnbfaaQLoop
import Derived.Test.YtaknldlglfnbfaaQStrs
import Derived.Test.YtaknldlglfnbfaaQSheet
import Derived.Test.YtaknldlglfnbfaaGlFnExactPointsOn
namespace Go.Proofs.Ytaknldlglfnbfaa.Q4Points
set_option linter.unusedVariables false
set_option linter.unusedSimpArgs false
open Go.RowKit
open Go.Proofs.Ytaknldlglfnbfaa.GoP Go.Proofs.Ytaknldlglfnbfaa.PlainStamp Go.Proofs.Ytaknldlglfnbfaa.QBase Go.Proofs.Ytaknldlglfnbfaa.QLoop Go.Proofs.Ytaknldlglfnbfaa.QStrs Go.Proofs.Ytaknldlglfnbfaa.QSheet

def cnt (r : ByteArray) (k : Nat) : Int := ((r.toList.take k).count 46 : Nat)
def tot (l : List ByteArray) (k : Nat) : Int := ((l.take k).map (fun r => cnt r r.size)).sum
theorem cnt_in (r : ByteArray) (k : Nat) : 0 ≤ cnt r k ∧ cnt r k ≤ (k : Int) := by
  unfold cnt
  have h1 := List.count_le_length (a := (46 : UInt8)) (l := r.toList.take k)
  rw [List.length_take] at h1
  omega
theorem cnt_all (r : ByteArray) : cnt r r.size = (Lib.countByte r.data.toList 46 : Int) := by
  unfold cnt
  rw [List.take_of_length_le (by rw [size_list]; omega), Lib.toList_data]; rfl
theorem cnt_next {r : ByteArray} {k : Nat} {y : UInt8} (h : r.toList[k]? = some y) : cnt r (k + 1) = cnt r k + (if (y.toNat : Int) == 46 then 1 else 0) := by
  unfold cnt
  rw [take_next h, List.count_append]
  have e : ((y.toNat : Int) == 46) = (y == 46) := by
    rw [Bool.eq_iff_iff, beq_iff_eq, beq_iff_eq]
    constructor
    · intro h2
      have : y.toNat = 46 := by omega
      exact UInt8.toNat.inj this
    · intro h2; rw [h2]; rfl
  rw [e]
  cases hy : y == 46 <;> simp [List.count_cons, hy]
theorem tot_next {l : List ByteArray} {k : Nat} {r : ByteArray} (h : l[k]? = some r) : tot l (k + 1) = tot l k + cnt r r.size := by
  unfold tot; rw [take_next h, List.map_append, List.sum_append]; simp
theorem tot_in {l : List ByteArray} (hs : ∀ s ∈ l, s.size ≤ 1048576) : ∀ k, k ≤ l.length → 0 ≤ tot l k ∧ tot l k ≤ 1048576 * (k : Int) := by
  intro k
  induction k with
  | zero => intro _; simp [tot]
  | succ k ih =>
    intro hk
    obtain ⟨r, hr, _⟩ := at_lt (l := l) (k := k) (by omega)
    have h1 := ih (by omega)
    have h2 := cnt_in r r.size
    have h3 := hs r (List.mem_of_getElem? hr)
    rw [tot_next hr]; omega
theorem rows_len {l : List ByteArray} {m : Int} (h : rowsB l m = true) : (l.length : Int) ≤ m := by
  unfold rowsB at h; simp only [Bool.and_eq_true] at h
  exact (inB_pos h.1).2
def ptsRes (l : List ByteArray) : Int × Bool := if rowsB l 5 = true then (tot l l.length, true) else (0, false)
theorem pts_impl (l : List ByteArray) (hs : ∀ s ∈ l, s.size ≤ 1048576) : GiPointsOn.P l = some (ptsRes l) := by
  simp only [GiPointsOn.P, GiIsSheet.P, impl_eq l 5 hs, Option.bind_some, letK, iteK_if, ptsRes]
  cases hr : rowsB l 5 with
  | false => simp
  | true =>
    have hl := rows_len hr
    have key : GiPointsIn.P l = some (tot l l.length) := by
      simp only [GiPointsIn.P]
      refine cnt_is _ (fun k s => s = tot l k) ?_ ?_ _ rfl
      · rintro k s nx hk rfl hnx
        obtain ⟨r, hr, hri⟩ := at_lt (l := l) (k := k) hk
        have h1 := tot_in hs k (by omega)
        have h2 := cnt_in r r.size
        have h3 := hs r (List.mem_of_getElem? hr)
        have e : GxStringsCount.P r ⟨#[46]⟩ = some (cnt r r.size) := by rw [cnt_all]; rfl
        simp only [GiPointsIn.l0, letK, hri, Option.bind_some, e, appK]
        rw [wrap_in (by omega) (by omega)]
        exact hnx _ (tot_next hr).symm
      · rintro s rfl; rfl
    simp [key]
theorem pts_spec (l : List ByteArray) (hs : ∀ s ∈ l, s.size ≤ 1048576) : GsPointsOn.P 1048577 l = some (ptsRes l) := by
  simp only [GsPointsOn.P, GsIsSheet.P, spec_eq l 5 1048577 (by omega) hs, Option.bind_some, letK, iteK_if, ptsRes]
  cases hr : rowsB l 5 with
  | false => simp
  | true =>
    have hl := rows_len hr
    have key : GsL4Points.P 1048577 l = some (tot l l.length) := by
      simp only [GsL4Points.P]
      refine cnt_is _ (fun k s => s = tot l k) ?_ ?_ _ rfl
      · rintro k s nx hk rfl hnx
        obtain ⟨r, hr, hri⟩ := at_lt (l := l) (k := k) hk
        have h1 := tot_in hs k (by omega)
        have h3 := hs r (List.mem_of_getElem? hr)
        simp only [GsL4Points.l0, letK]
        obtain ⟨v, e1, e2⟩ := lp_ex (n := r.size) (Q := fun v => some v = nx (tot l (k + 1))) (f := GsL4Points.l1 l k) (fin := GsL4Points.e1 nx) (fun i s => s = (tot l k + cnt r i, (i : Int))) (by
            rintro i s nx2 hi rfl hn2
            obtain ⟨y, hy, hyi, _⟩ := at_list hi
            have ht : decide ((i : Int) < (r.size : Int)) = true := by simp; omega
            have h4 := cnt_in r i
            simp only [GsL4Points.l1, unp2, hri, Option.bind_some, letK, ht, iteK_if, if_true, hyi, appK]
            have h5 := hn2 _ (show (tot l k + cnt r (i + 1), ((i + 1 : Nat) : Int)) = _ from rfl)
            rw [cnt_next hy] at h5
            rw [next_i (by omega)]
            cases hc : ((y.toNat : Int) == 46) with
            | true =>
              rw [hc] at h5
              rw [if_pos rfl, wrap_in (x := tot l k + cnt r i + 1) (by omega) (by omega)]
              simpa [Int.add_assoc] using h5
            | false =>
              rw [hc] at h5
              rw [if_neg (by simp)]
              simpa using h5) (by
            rintro s nx2 rfl
            have ht : decide ((r.size : Int) < (r.size : Int)) = false := by simp
            simp only [GsL4Points.l1, unp2, hri, Option.bind_some, letK, ht, iteK_if, appK, GsL4Points.e1]
            rw [if_neg (by simp), ← tot_next hr, hnx _ rfl]
            exact ⟨_, rfl, rfl⟩) 1048577 0 (tot l k, 0) (by omega) (by omega) (by simp [cnt])
        rw [e1, e2, hnx _ rfl]
      · rintro s rfl; rfl
    simp [key]
theorem law_points (l : List ByteArray) (hf : ∀ s ∈ l, s.size ≤ maxLen) (hl : l.length ≤ 9223372036854775807) : GlFnExactPointsOn.P 1048577 l = some true := by
  obtain ⟨v, e, h2, h3⟩ := szS l 1048576 (by omega) (by omega) hf hl
  simp only [GlFnExactPointsOn.P, e, Option.bind_some, letK, iteK_if]
  by_cases hv : v < 0
  · simp [hv]
  · obtain ⟨h4, h5⟩ := h3 (by omega)
    obtain ⟨⟨a, b⟩, hr⟩ : ∃ x, x = ptsRes l := ⟨_, rfl⟩
    simp [hv, toS l h4, eqS l, pts_impl l h5, pts_spec l h5, ← hr, bind2, joinK, appK, iteK_if]
end Go.Proofs.Ytaknldlglfnbfaa.Q4Points
