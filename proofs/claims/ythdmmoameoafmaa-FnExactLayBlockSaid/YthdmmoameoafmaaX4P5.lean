/- Texts on which the proofs of several laws stand, one behind the other (5 of 5). No condition of their own. -/
import Derived.Test.YthdmmoameoafmaaX4P4
import Derived.Test.YthdmmoameoafmaaX4P2
import Derived.Test.YthdmmoameoafmaaX4P3
import Derived.Test.YthdmmoameoafmaaX4P1
import Derived.Test.YthdmmoameoafmaaChecked
import Derived.Lib.SmallJoins
import Derived.Deep.Slices
import Derived.Deep.Fields
import Derived.ChangeSame
import Derived.SliceStrings
import Derived.ChangeSlices
/- Blocks that are laid on sheets: the plain functions of the program and of the reference agree, and the law answers true. (Q4LayS) No condition but those of each theorem. -/
namespace Go.Proofs.Ythdmmoameoafmaa.Q4LayS
set_option linter.unusedVariables false
set_option linter.unusedSimpArgs false
open Go.RowKit
open Go.Proofs.Ythdmmoameoafmaa.GoP Go.Proofs.Ythdmmoameoafmaa.PlainStamp Go.Proofs.Ythdmmoameoafmaa.QBase Go.Proofs.Ythdmmoameoafmaa.Q4Lay Go.Proofs.Ythdmmoameoafmaa.QUp Go.Proofs.Ythdmmoameoafmaa.QByte Go.Proofs.Ythdmmoameoafmaa.Q4Fits Go.Proofs.Ythdmmoameoafmaa.Q4See Go.Proofs.Ythdmmoameoafmaa.QSheet Go.Proofs.Ythdmmoameoafmaa.QStrs Go.Proofs.Ythdmmoameoafmaa.QLoop

theorem cut_one {s : ByteArray} {k : Nat} (h : k < s.size) : s.extract k (k + 1) = bs [ch s k] := by
  obtain ⟨b, hb, _, hd⟩ := at_list h
  have h1 : (bs s.toList).extract k (k + 1) = bs [b] := by
    rw [bs_cut, take_next hb, List.drop_left' (by rw [List.length_take, toList_size]; omega)]
  rw [bs_of] at h1
  rw [h1, show ch s k = b from hd]
theorem lay_spec {l m : List ByteArray} (hl : rowsB l (5 : Nat) = true) (hm : rowsB m (3 : Nat) = true) {r c : Nat} (hr : r + m.length ≤ l.length) (hc : c + (rw_ m 0).size ≤ (rw_ l 0).size) (fuel : Nat) (hf : 10 ≤ fuel) : GsL4Lay.P fuel l m (r : Int) (c : Int) = some (lay l m r c) := by
  obtain ⟨a1, a2, a3, a4, a5⟩ := rowsB_parts hl
  obtain ⟨b1, b2, b3, b4, b5⟩ := rowsB_parts hm
  obtain ⟨m0, hm0, hm0i, hm0d⟩ := at_row (l := m) (k := 0) (by omega)
  have hm0i' : idx m 0 = some m0 := hm0i
  have em0 : m0.size = (rw_ m 0).size := congrArg ByteArray.size hm0d.symm
  have hw0 := wrap_in (x := (m.length : Int) - 1) (by omega) (by omega)
  have hw00 := wrap_in (x := (m0.size : Int) - 1) (by omega) (by omega)
  have hlay : (lay l m r c).length = l.length := by simp [lay]
  simp only [GsL4Lay.P]
  refine cnt_is _ (fun i s => s = (lay l m r c).take i) ?_ ?_ [] rfl
  · rintro i s nx hi rfl hn
    obtain ⟨x, hx, hxi, hxd⟩ := at_row hi
    have hxs : x.size = (rw_ l 0).size := by rw [← a5 i hi]; exact congrArg ByteArray.size hxd.symm
    have hrow : (rowS l m r c i).length = (rw_ l 0).size := by unfold rowS; rw [List.length_map, List.length_range]
    have hlayi : (lay l m r c)[i]? = some (bs (rowS l m r c i)) := by unfold lay; rw [map_range_at _ hi]
    simp only [GsL4Lay.l0, letK]
    refine lp_is (n := (rw_ l 0).size) _ (fun k (s : ByteArray × Int) => s = (bs ((rowS l m r c i).take k), (k : Int))) ?_ ?_ fuel 0 _ (by omega) (by omega) rfl
    · rintro k s nx2 hk rfl hn2
      have hcell : (rowS l m r c i)[k]? = some (cellS l m r c i k) := by unfold rowS; rw [map_range_at _ hk]
      have hchx : ch (rw_ l i) k = ch x k := by rw [show rw_ l i = x from hxd]
      have w1 := wrap_in (x := (k : Int) + 1) (by omega) (by omega)
      have w2 := wrap_in (x := (i : Int) - (r : Int)) (by omega) (by omega)
      have w3 := wrap_in (x := (k : Int) - (c : Int)) (by omega) (by omega)
      have w4 := wrap_in (x := (k : Int) - (c : Int) + 1) (by omega) (by omega)
      have hcut := cut_one (s := x) (k := k) (by omega)
      have hone : ∀ b : UInt8, (bs [b]).size = 1 := fun b => bs_size _
      have htk : (bs ((rowS l m r c i).take k)).size ≤ 5 := by rw [bs_size, List.length_take]; omega
      have fin : ∀ b : UInt8, b = cellS l m r c i k → GsL4Lay.j0 nx2 (bs ((rowS l m r c i).take k)) (k : Int) (bs [b]) = some (lay l m r c) := by
        intro b hb
        simp only [GsL4Lay.j0, letK, w1, appK]
        rw [guardK_pos (by rw [hone]; unfold maxLen; omega), bs_app]
        refine hn2 _ ?_
        rw [take_next hcell, hb]; rfl
      have hlt : (k : Int) < (x.size : Int) := by omega
      simp only [GsL4Lay.l1, unp2, letK, hxi, Option.bind_some, decide_eq_true hlt, iteK_if, if_true, w1, w2, hw0, l1In_eq]
      rw [guardK_pos (by omega), show Int.toNat (k : Int) = k by omega, show Int.toNat ((k : Int) + 1) = k + 1 by omega, hcut]
      simp only [joinK, appK]
      by_cases h1 : r ≤ i ∧ i < r + m.length
      · have e1 : inB ((i : Int) - (r : Int)) 0 ((m.length : Int) - 1) = true := inB_yes (by omega) (by omega)
        simp only [e1, if_true, w3, hm0i', Option.bind_some, hw00, l1In_eq]
        by_cases h2 : c ≤ k ∧ k < c + (rw_ m 0).size
        · have e2 : inB ((k : Int) - (c : Int)) 0 ((m0.size : Int) - 1) = true := inB_yes (by omega) (by omega)
          simp only [e2, if_true]
          have e46 : ((bs [ch x k]).toList == (⟨#[46]⟩ : ByteArray).toList) = (ch x k == 46) := by
            rw [show (⟨#[46]⟩ : ByteArray) = bs [46] from rfl, bs_list, bs_list, Bool.eq_iff_iff]
            simp
          rw [e46]
          cases h46 : (ch x k == 46) with
          | true =>
            have hx46 : ch x k = 46 := by simpa using h46
            obtain ⟨y, hy, hyi, hyd⟩ := at_row (l := m) (k := i - r) (by omega)
            have hys : y.size = (rw_ m 0).size := by rw [← b5 (i - r) (by omega)]; exact congrArg ByteArray.size hyd.symm
            have hyi' : idx m ((i : Int) - (r : Int)) = some y := by rw [show (i : Int) - (r : Int) = ((i - r : Nat) : Int) by omega]; exact hyi
            simp only [if_true, hyi', Option.bind_some, w4]
            rw [guardK_pos (by omega), show Int.toNat ((k : Int) - (c : Int)) = k - c by omega, show Int.toNat ((k : Int) - (c : Int) + 1) = (k - c) + 1 by omega, cut_one (s := y) (k := k - c) (by omega)]
            refine fin _ ?_
            unfold cellS
            rw [if_pos ⟨⟨h1, h2⟩, by rw [hchx]; exact hx46⟩, show rw_ m (i - r) = y from hyd]
          | false =>
            have hx46 : ¬ ch x k = 46 := by simpa using h46
            simp only [Bool.false_eq_true, if_false]
            refine fin _ ?_
            unfold cellS
            rw [if_neg (fun h => hx46 (by rw [← hchx]; exact h.2)), hchx]
        · have e2 : inB ((k : Int) - (c : Int)) 0 ((m0.size : Int) - 1) = false := inB_no (by omega)
          simp only [e2, Bool.false_eq_true, if_false]
          refine fin _ ?_
          unfold cellS
          rw [if_neg (fun h => h2 h.1.2), hchx]
      · have e1 : inB ((i : Int) - (r : Int)) 0 ((m.length : Int) - 1) = false := inB_no (by omega)
        simp only [e1, Bool.false_eq_true, if_false]
        refine fin _ ?_
        unfold cellS
        rw [if_neg (fun h => h1 h.1.1), hchx]
    · rintro s nx2 rfl
      have hnlt : ¬ (((rw_ l 0).size : Nat) : Int) < (x.size : Int) := by omega
      simp only [GsL4Lay.l1, unp2, letK, hxi, Option.bind_some, decide_eq_false hnlt, iteK_if, Bool.false_eq_true, if_false, appK, GsL4Lay.e1]
      have hfull : (rowS l m r c i).take (rw_ l 0).size = rowS l m r c i := List.take_of_length_le (by omega)
      rw [hfull, guardK_pos (by rw [List.length_take]; omega)]
      exact hn _ (take_next hlayi).symm
  · rintro s rfl
    simp only [GsL4Lay.e0, letK]
    have hfull : (lay l m r c).take l.length = lay l m r c := List.take_of_length_le (by omega)
    rw [hfull]
end Go.Proofs.Ythdmmoameoafmaa.Q4LayS

/- Blocks that are laid on sheets: the plain functions of the program and of the reference agree, and the law answers true. (Q4LayB) No condition but those of each theorem. -/
namespace Go.Proofs.Ythdmmoameoafmaa.Q4LayB
set_option linter.unusedVariables false
set_option linter.unusedSimpArgs false
open Go.RowKit
open Go.Proofs.Ythdmmoameoafmaa.GoP Go.Proofs.Ythdmmoameoafmaa.PlainStamp Go.Proofs.Ythdmmoameoafmaa.QBase Go.Proofs.Ythdmmoameoafmaa.Q4LayS Go.Proofs.Ythdmmoameoafmaa.Q4Lay Go.Proofs.Ythdmmoameoafmaa.QUp Go.Proofs.Ythdmmoameoafmaa.QByte Go.Proofs.Ythdmmoameoafmaa.Q4Fits Go.Proofs.Ythdmmoameoafmaa.Q4See Go.Proofs.Ythdmmoameoafmaa.QSheet Go.Proofs.Ythdmmoameoafmaa.QStrs Go.Proofs.Ythdmmoameoafmaa.QLoop

theorem fits_impl_all {l m : List ByteArray} (hl : rowsB l (5 : Nat) = true) (hm : rowsB m (3 : Nat) = true) (hls : ∀ s ∈ l, s.size ≤ 1048576) (hms : ∀ s ∈ m, s.size ≤ 1048576) (r c : Int) : GiFits.P l m r c = some (fitB l m r c) := by
  obtain ⟨a1, a2, a3, a4, a5⟩ := rowsB_parts hl
  obtain ⟨b1, b2, b3, b4, b5⟩ := rowsB_parts hm
  obtain ⟨x, hx, hxi, hdx⟩ := at_row (l := l) (k := 0) (by omega)
  obtain ⟨y, hy, hyi, hdy⟩ := at_row (l := m) (k := 0) (by omega)
  have ex : (rw_ l 0).size = x.size := by rw [show rw_ l 0 = x from hdx]
  have ey : (rw_ m 0).size = y.size := by rw [show rw_ m 0 = y from hdy]
  have hxi' : idx l 0 = some x := hxi
  have hyi' : idx m 0 = some y := hyi
  by_cases hrc : (0 ≤ r ∧ r < 5) ∧ (0 ≤ c ∧ c < 5)
  · have := fits_impl hl hm hls hms r.toNat c.toNat (by omega) (by omega)
    rw [show ((r.toNat : Nat) : Int) = r by omega, show ((c.toNat : Nat) : Int) = c by omega] at this
    exact this
  · simp only [GiFits.P, within_eq, Option.bind_some, letK, joinK, appK, iteK_if, fitB]
    rw [wrap_in (x := (l.length : Int) - m.length) (by omega) (by omega)]
    cases h1 : inB r 0 ((l.length : Int) - m.length) with
    | false => simp
    | true =>
      have h1' := inB_pos h1
      have h2 : inB c 0 ((x.size : Int) - y.size) = false := inB_no (by omega)
      simp only [if_true, hxi', hyi', Option.bind_some, Bool.true_and]
      rw [wrap_in (x := (x.size : Int) - y.size) (by omega) (by omega), ex, ey, h2]
      simp
theorem fits_spec_all {l m : List ByteArray} (hl : rowsB l (5 : Nat) = true) (hm : rowsB m (3 : Nat) = true) (r c : Int) (fuel : Nat) (hf : 10 ≤ fuel) : GsL4Fits.P fuel l m r c = some (fitB l m r c) := by
  obtain ⟨a1, a2, a3, a4, a5⟩ := rowsB_parts hl
  obtain ⟨b1, b2, b3, b4, b5⟩ := rowsB_parts hm
  obtain ⟨x, hx, hxi, hdx⟩ := at_row (l := l) (k := 0) (by omega)
  obtain ⟨y, hy, hyi, hdy⟩ := at_row (l := m) (k := 0) (by omega)
  have ex : (rw_ l 0).size = x.size := by rw [show rw_ l 0 = x from hdx]
  have ey : (rw_ m 0).size = y.size := by rw [show rw_ m 0 = y from hdy]
  have hxi' : idx l 0 = some x := hxi
  have hyi' : idx m 0 = some y := hyi
  by_cases hrc : (0 ≤ r ∧ r < 5) ∧ (0 ≤ c ∧ c < 5)
  · have := fits_spec hl hm r.toNat c.toNat (by omega) (by omega) fuel hf
    rw [show ((r.toNat : Nat) : Int) = r by omega, show ((c.toNat : Nat) : Int) = c by omega] at this
    exact this
  · have hfalse : fitB l m r c = false := by
      unfold fitB
      cases h1 : inB r 0 ((l.length : Int) - m.length) with
      | false => rfl
      | true =>
        have h1' := inB_pos h1
        rw [inB_no (by omega)]; rfl
    rw [hfalse]
    simp only [GsL4Fits.P, letK, joinK, appK, iteK_if, hxi', hyi', Option.bind_some]
    rw [wrap_in (x := (l.length : Int) - m.length) (by omega) (by omega), wrap_in (x := (x.size : Int) - y.size) (by omega) (by omega)]
    by_cases n1 : r < 0
    · simp [n1]
    · by_cases n2 : (l.length : Int) - m.length < r
      · simp [n1, n2]
      · by_cases n3 : c < 0
        · simp [n1, n2, n3]
        · have n4 : (x.size : Int) - y.size < c := by omega
          simp [n1, n2, n3, n4]
def layRes (l m : List ByteArray) (r c : Int) : List ByteArray × Bool := if (rowsB l (5 : Nat) && (rowsB m (3 : Nat) && fitB l m r c)) = true then (lay l m r.toNat c.toNat, true) else ([], false)
theorem layRes_len (l m : List ByteArray) (r c : Int) : (layRes l m r c).1.length ≤ 5 := by
  unfold layRes
  split
  · rename_i h
    simp only [Bool.and_eq_true] at h
    obtain ⟨a1, a2, _⟩ := rowsB_parts h.1
    unfold lay
    rw [List.length_map, List.length_range]; omega
  · simp
theorem fit_parts {l m : List ByteArray} {r c : Int} (hl : rowsB l (5 : Nat) = true) (hm : rowsB m (3 : Nat) = true) (h : fitB l m r c = true) : ((r.toNat : Nat) : Int) = r ∧ ((c.toNat : Nat) : Int) = c ∧ r.toNat + m.length ≤ l.length ∧ c.toNat + (rw_ m 0).size ≤ (rw_ l 0).size ∧ agreeB l m r c = true := by
  unfold fitB at h
  simp only [Bool.and_eq_true] at h
  have h1 := inB_pos h.1
  have h2 := inB_pos h.2.1
  exact ⟨by omega, by omega, by omega, by omega, h.2.2⟩
theorem layB_impl (l m : List ByteArray) (hls : ∀ s ∈ l, s.size ≤ 1048576) (hms : ∀ s ∈ m, s.size ≤ 1048576) (r c : Int) : GiLayBlock.P l m r c = some (layRes l m r c) := by
  have h1 : GiIsSheet.P l = some (rowsB l (5 : Nat)) := by simp only [GiIsSheet.P, impl_eq l 5 hls, Option.bind_some]; rfl
  have h2 : GiIsBlock.P m = some (rowsB m (3 : Nat)) := by simp only [GiIsBlock.P, impl_eq m 3 hms, Option.bind_some]; rfl
  simp only [GiLayBlock.P, h1, h2, Option.bind_some, letK, joinK, appK, iteK_if, layRes]
  cases hl : rowsB l (5 : Nat) with
  | false => simp
  | true =>
    cases hm : rowsB m (3 : Nat) with
    | false => simp
    | true =>
      simp only [Bool.not_true, Bool.false_eq_true, if_false, fits_impl_all hl hm hls hms r c, Option.bind_some, Bool.true_and]
      cases hfi : fitB l m r c with
      | false => simp
      | true =>
        obtain ⟨e1, e2, e3, e4, e5⟩ := fit_parts hl hm hfi
        have := lay_impl hl hm (r := r.toNat) (c := c.toNat) e3 e4 (by rw [e1, e2]; exact e5)
        rw [e1, e2] at this
        simp [this]
theorem layB_spec (l m : List ByteArray) (hls : ∀ s ∈ l, s.size ≤ 1048576) (hms : ∀ s ∈ m, s.size ≤ 1048576) (r c : Int) (fuel : Nat) (hf : 1048577 ≤ fuel) : GsLayBlock.P fuel l m r c = some (layRes l m r c) := by
  have h1 : GsIsSheet.P fuel l = some (rowsB l (5 : Nat)) := by simp only [GsIsSheet.P, spec_eq l 5 fuel hf hls, Option.bind_some]; rfl
  have h2 : GsIsBlock.P fuel m = some (rowsB m (3 : Nat)) := by simp only [GsIsBlock.P, spec_eq m 3 fuel hf hms, Option.bind_some]; rfl
  simp only [GsLayBlock.P, h1, h2, Option.bind_some, letK, joinK, appK, iteK_if, layRes]
  cases hl : rowsB l (5 : Nat) with
  | false => simp
  | true =>
    cases hm : rowsB m (3 : Nat) with
    | false => simp
    | true =>
      simp only [Bool.not_true, Bool.false_eq_true, if_false, fits_spec_all hl hm r c fuel (by omega), Option.bind_some, Bool.true_and]
      cases hfi : fitB l m r c with
      | false => simp
      | true =>
        obtain ⟨e1, e2, e3, e4, e5⟩ := fit_parts hl hm hfi
        have := lay_spec hl hm (r := r.toNat) (c := c.toNat) e3 e4 fuel (by omega)
        rw [e1, e2] at this
        simp [this]
end Go.Proofs.Ythdmmoameoafmaa.Q4LayB

/- Places for blocks on sheets: the plain functions of the program and of the reference agree, and the law answers true. (Q4Blk) No condition but those of each theorem. -/
namespace Go.Proofs.Ythdmmoameoafmaa.Q4Blk
set_option linter.unusedVariables false
set_option linter.unusedSimpArgs false
open Go.RowKit
open Go.Proofs.Ythdmmoameoafmaa.GoP Go.Proofs.Ythdmmoameoafmaa.PlainStamp Go.Proofs.Ythdmmoameoafmaa.QBase Go.Proofs.Ythdmmoameoafmaa.QLoop Go.Proofs.Ythdmmoameoafmaa.QStrs Go.Proofs.Ythdmmoameoafmaa.QSheet Go.Proofs.Ythdmmoameoafmaa.PBlock

theorem szB (l : List ByteArray) (left : Int) (h0 : 0 ≤ left) (h1 : left ≤ 1048576) (hf : ∀ s ∈ l, s.size ≤ maxLen) (hl : l.length ≤ 9223372036854775807) :
    ∃ v, GlSzBlock.P l left = some v ∧ v ≤ 1048576 ∧ (0 ≤ v → l.length ≤ 1048576 ∧ ∀ s ∈ l, s.size ≤ 1048576) := by
  obtain ⟨v, e, h2, h3⟩ := szS l left h0 h1 hf hl
  simp only [GlSzBlock.P, e, Option.bind_some, letK, iteK_if]
  by_cases hv : v < 0
  · exact ⟨-1, by simp [hv], by omega, by omega⟩
  · exact ⟨v, by simp [hv], h2, h3⟩
theorem toB (l : List ByteArray) (hl : l.length ≤ 1048576) : GlToBlock.P l = some (PBlock.Block.mk l) := by simp only [GlToBlock.P, toS l hl, Option.bind_some]
theorem eqB (l : List ByteArray) : GlEqBlock.P l l = some true := by simp [GlEqBlock.P, eqS, letK, iteK_if]
end Go.Proofs.Ythdmmoameoafmaa.Q4Blk

/- The laws' helpers on rows of texts, and on rows of those, as plain functions: equal, marked, held. (QHT) No condition but those of each theorem. -/
namespace Go.Proofs.Ythdmmoameoafmaa.QHT
set_option linter.unusedVariables false
set_option linter.unusedSimpArgs false
open Go.RowKit
open Go.Proofs.Ythdmmoameoafmaa.GoP Go.Proofs.Ythdmmoameoafmaa.PlainStamp Go.Proofs.Ythdmmoameoafmaa.QBase Go.Proofs.Ythdmmoameoafmaa.QLoop

/-- the marks from c on -/
def mtL (c : Int) (n : Nat) : List ByteArray := (List.range n).map fun i : Nat => Go.Proofs.Ythdmmoameoafmaa.MarkStr.mt (c + (i : Int)).toNat
theorem mtL_at {c : Int} {n k : Nat} (h : k < n) : (mtL c n)[k]? = some (Go.Proofs.Ythdmmoameoafmaa.MarkStr.mt (c + (k : Int)).toNat) := by unfold mtL; simp [h]
theorem mtL_len (c : Int) (n : Nat) : (mtL c n).length = n := by simp [mtL]
theorem mark_is {k : Int} (h : 1 ≤ k ∧ k ≤ 1000000000) : GlMarkText.P k = some (Go.Proofs.Ythdmmoameoafmaa.MarkStr.mt k.toNat) := by unfold GlMarkText.P; rw [if_pos h]
theorem markT (l : List ByteArray) (c : Int) (h0 : 1 ≤ c) (h1 : c + l.length ≤ 1000000000) : GlMarkStringS.P l c = some (c + (l.length : Int), mtL c l.length) := by
  simp only [GlMarkStringS.P]
  refine cnt_is _ (fun k (s : List ByteArray × Int) => s.1.length = l.length ∧ s.2 = c + (k : Int) ∧ ∀ i : Nat, i < k → s.1[i]? = some (Go.Proofs.Ythdmmoameoafmaa.MarkStr.mt (c + (i : Int)).toNat)) ?_ ?_ (l, c) ⟨rfl, by simp, fun i hi => by omega⟩
  · rintro k ⟨a, b⟩ nx hk ⟨h1, h2, h3⟩ hn
    dsimp only at h1 h2 h3
    obtain ⟨x, hx, hi⟩ := at_lt (l := a) (k := k) (by omega)
    simp only [GlMarkStringS.l0, unp2]
    rw [mark_is (by omega)]
    simp only [hi, Option.bind_some, letK, appK]
    rw [wrap_in (by omega) (by omega)]
    refine hn _ ⟨by simpa using h1, by dsimp only; omega, fun i hi2 => ?_⟩
    dsimp only
    by_cases he : i = k
    · subst he; rw [List.getElem?_set_self (by omega), h2]
    · rw [List.getElem?_set_ne (by omega)]; exact h3 i (by omega)
  · rintro ⟨a, b⟩ ⟨h1, h2, h3⟩
    dsimp only at h1 h2 h3
    have : a = mtL c l.length := by
      apply List.ext_getElem?
      intro i
      by_cases hi : i < l.length
      · rw [h3 i hi, mtL_at hi]
      · rw [List.getElem?_eq_none (by omega), List.getElem?_eq_none (by rw [mtL_len]; omega)]
    simp only [GlMarkStringS.e0, unp2]
    rw [this, h2]
theorem heldT (c : Int) (n : Nat) (h0 : 1 ≤ c) (h1 : c + n ≤ 1000000000) : GlHeldStringS.P (mtL c n) c = some (c + (n : Int)) := by
  simp only [GlHeldStringS.P]
  refine cnt_is _ (fun k s => s = c + (k : Int)) ?_ ?_ c (by simp)
  · intro k s nx hk hI hn
    rw [mtL_len] at hk
    have hi : idx (mtL c n) (k : Int) = some (Go.Proofs.Ythdmmoameoafmaa.MarkStr.mt (c + (k : Int)).toNat) := by rw [idx_nat, mtL_at hk]
    simp only [GlHeldStringS.l0, hi, Option.bind_some, letK, appK, iteK_if]
    rw [mark_is (by omega)]
    simp only [Option.bind_some]
    rw [if_neg (by simp [hI]), wrap_in (by omega) (by omega)]
    exact hn _ (by omega)
  · intro s hI
    simp only [GlHeldStringS.e0, letK]
    rw [hI, mtL_len]
end Go.Proofs.Ythdmmoameoafmaa.QHT

/- Blocks that are laid on sheets: the plain functions of the program and of the reference agree, and the law answers true. (QL4Lay) No condition but those of each theorem. -/
namespace Go.Proofs.Ythdmmoameoafmaa.QL4Lay
set_option linter.unusedVariables false
set_option linter.unusedSimpArgs false
open Go.RowKit
open Go.Proofs.Ythdmmoameoafmaa.GoP Go.Proofs.Ythdmmoameoafmaa.PlainStamp Go.Proofs.Ythdmmoameoafmaa.QBase Go.Proofs.Ythdmmoameoafmaa.Q4LayB Go.Proofs.Ythdmmoameoafmaa.Q4Blk Go.Proofs.Ythdmmoameoafmaa.QHT Go.Proofs.Ythdmmoameoafmaa.QStrs Go.Proofs.Ythdmmoameoafmaa.QLoop

theorem law_lay (fuel : Nat) (hf : 1048577 ≤ fuel) (l m : List ByteArray) (r c : Int) (hfl : ∀ s ∈ l, s.size ≤ maxLen) (hfm : ∀ s ∈ m, s.size ≤ maxLen) (hl : l.length ≤ 9223372036854775807) (hm : m.length ≤ 9223372036854775807) : GlFnExactLayBlock.P fuel l m r c = some true := by
  obtain ⟨v, e, h2, h3⟩ := szS l 1048576 (by omega) (by omega) hfl hl
  simp only [GlFnExactLayBlock.P, e, Option.bind_some, letK, iteK_if]
  by_cases hv : v < 0
  · simp [hv]
  · obtain ⟨h4, h5⟩ := h3 (by omega)
    obtain ⟨v2, e2, g2, g3⟩ := szB m v (by omega) h2 hfm hm
    simp only [hv, decide_false, Bool.false_eq_true, if_false, e2, Option.bind_some]
    by_cases hv2 : v2 < 0
    · simp [hv2]
    · obtain ⟨g4, g5⟩ := g3 (by omega)
      have hi := layB_impl l m h5 g5 r c
      have hsp := layB_spec l m h5 g5 r c fuel hf
      obtain ⟨⟨a, b⟩, hr⟩ : ∃ z, layRes l m r c = z := ⟨_, rfl⟩
      have hlen := layRes_len l m r c
      rw [hr] at hi hsp hlen
      dsimp only at hlen
      have k1 := markT l 1 (by omega) (by omega)
      have k3 := markT m (1 + (l.length : Int)) (by omega) (by omega)
      have kb : GlMarkBlock.P m (1 + (l.length : Int)) = some (1 + (l.length : Int) + (m.length : Int), mtL (1 + (l.length : Int)) m.length) := by simp only [GlMarkBlock.P, k3, bind2_some]
      have k5 : ¬ 1 + (l.length : Int) + (m.length : Int) < 0 := by omega
      have e1 : ¬ (1 + (a.length : Int) < 0) := by omega
      simp [hv2, toS l h4, Go.Proofs.Ythdmmoameoafmaa.QStrs.eqS l, Go.Proofs.Ythdmmoameoafmaa.QStrs.eqS a, toB m g4, unBlock, eqB m, hi, hsp, k1, kb, k5, markT a 1 (by omega) (by omega), heldT 1 a.length (by omega) (by omega), e1, bind2, joinK, appK, iteK_if]
end Go.Proofs.Ythdmmoameoafmaa.QL4Lay

/- How a struct of one-cell fields that comes in as data is opened, whatever the number of its fields; lists by their members. No condition. -/
namespace Go.Proofs.Ythdmmoameoafmaa.OpenAny
set_option linter.unusedVariables false
open Go.Joins Go.ChangeShapes Go.WideShapes Go.RowKit Go.Deep

theorem add_none (b o n : Nat) : (⟨b, o, none⟩ : Addr).add n = ⟨b, o + n, none⟩ := by
  unfold Addr.add; split
  · rename_i h; subst h; rfl
  · rfl
section
variable {H : Type} {enc : TypeId × Value → H} {P : Program} {w : World} {base : Nat} {spare : Nat → Bool} {held : Bool}
/-- each field reads on its own -/
theorem read_fields {t : TypeId} {fs : Array Field} {fuel : Nat} {cs : List Value} {x : DataW H × List MemPlace} (hs : P.underlying t = some (.struct fs)) (hone : oneCellFields P fs = true) (hC : P.cellsOf t = fs.size)
    (h : DataW.trod enc P w base spare held fuel t cs = some x) :
    cs.length = P.cellsOf t ∧ ∀ (j : Nat) (f : Field), fs[j]? = some f → ∃ (u : Value) (n : Nat) (y : DataW H × List MemPlace), cs[j]? = some u ∧ DataW.trod enc P w base spare held n f.type [u] = some y := by
  obtain ⟨xs, n, _, _, hlen, hxl, hg⟩ := DataW.trod_struct hs h
  refine ⟨hlen, fun j f hj => ?_⟩
  obtain ⟨ho, hk⟩ := hone_of hone j f hj
  have hjl : j < fs.size := (Array.getElem?_eq_some_iff.1 hj).1
  have h1 := hg j f hj
  rw [ho, hk, List.getElem?_eq_getElem (by omega : j < xs.length)] at h1
  have hc : j < cs.length := by omega
  rw [List.drop_eq_getElem_cons hc] at h1
  exact ⟨cs[j], n, _, List.getElem?_eq_getElem hc, h1⟩
/-- an aggregate that comes in reads as its cells do -/
theorem agg_any {r : Reach} {b0 : Nat} {t : TypeId} {fs : Array Field} {v : Value} {d : DataW H} {p : List MemPlace} (hs : P.underlying t = some (.struct fs)) (hv : Value.okWide P w r b0 t v) (h : DataW.Trod enc P w base spare held t v d p) :
    ∃ (cs : Array Value) (n : Nat) (x : DataW H × List MemPlace), v = .agg cs ∧ DataW.trod enc P w base spare held n t cs.toList = some x := by
  obtain ⟨cs, rfl, _⟩ := okWide_struct hs hv
  obtain ⟨fuel, hf⟩ := h
  exact ⟨cs, fuel, _, rfl, hf⟩
end
end Go.Proofs.Ythdmmoameoafmaa.OpenAny

/- A slice of strings or of integers that lies in a record that came in: the list that it reads as. No condition. -/
namespace Go.Proofs.Ythdmmoameoafmaa.OpenNest
set_option linter.unusedVariables false
open Go.Joins Go.ChangeShapes Go.WideShapes Go.RowKit Go.Deep Go.Proofs.Ythdmmoameoafmaa.Rowed
theorem len1 {l : List Value} (h : l.length = 1) : ∃ a, l = [a] := List.length_eq_one_iff.1 h
section
variable {H : Type} {enc : TypeId × Value → H} {P : Program} {w : World}
theorem one_strs {t e : TypeId} {fuel : Nat} {u : Value} {x : DataW H × List MemPlace} (ht : P.underlying t = some (.slice e)) (he : P.underlying e = some .string) (hc : P.cellsOf e = 1)
    (h : DataW.trod enc P w 0 (fun _ => true) true fuel t [u] = some x) :
    ∃ (a : Option Addr) (len cap : Nat) (l : List ByteArray), u = .slice a len cap ∧ Cells w 1 a len (l.map Value.string) ∧ l.length = len ∧ len ≤ maxLen ∧ ∀ s ∈ l, s.size ≤ maxLen := by
  rcases open_strings ht he hc h with ⟨hcs, _⟩ | ⟨x, l, c, zs, hcs, hxb, hl, hm, hz, hdat, hcell, hwz⟩
  · obtain rfl : u = .slice none 0 0 := by simpa using hcs
    exact ⟨none, 0, 0, [], rfl, Cells.nil_ _ _ _, rfl, by unfold maxLen; omega, by intro s hs; simp at hs⟩
  · obtain rfl : u = .slice (some x) l c := by simpa using hcs
    have hz' : zs.length = c := by simpa using hz
    refine ⟨some x, l, c, zs.take l, rfl, ⟨by rw [List.length_map, List.length_take]; omega, fun _ => ⟨x, rfl, fun j u hu => ?_⟩⟩, by rw [List.length_take]; omega, by omega, fun s hs => hwz s (List.mem_of_mem_take hs)⟩
    rw [List.getElem?_map] at hu
    cases hj : (zs.take l)[j]? with
    | none => rw [hj] at hu; simp at hu
    | some y =>
      rw [hj] at hu
      obtain rfl : Value.string y = u := by simpa using hu
      have hjl := (List.getElem?_eq_some_iff.1 hj).1
      rw [List.length_take] at hjl
      rw [List.getElem?_take_of_lt (by omega)] at hj
      rw [hcell j (by omega), List.getD_eq_getElem?_getD, hj]; rfl
end
end Go.Proofs.Ythdmmoameoafmaa.OpenNest

