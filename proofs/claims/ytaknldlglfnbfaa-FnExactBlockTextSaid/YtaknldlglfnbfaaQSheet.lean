/- Rows of a sheet and of a block: the program's test and the reference's are the same. Condition: at most 2^20 rows of at most 2^20 letters. -/
import Derived.Test.YtaknldlglfnbfaaQStrs
import Derived.Test.YtaknldlglfnbfaaGiAreRows
import Derived.Test.YtaknldlglfnbfaaGsL4Rows
namespace Go.Proofs.Ytaknldlglfnbfaa.QSheet
set_option linter.unusedVariables false
set_option linter.unusedSimpArgs false
open Go.RowKit
open Go.Proofs.Ytaknldlglfnbfaa.GoP Go.Proofs.Ytaknldlglfnbfaa.PlainStamp Go.Proofs.Ytaknldlglfnbfaa.QBase Go.Proofs.Ytaknldlglfnbfaa.QLoop Go.Proofs.Ytaknldlglfnbfaa.QStrs

/-- a letter or a point -/
def okc (b : UInt8) : Bool := (b.toNat == 46) || decide (97 ≤ b.toNat ∧ b.toNat ≤ 122)
abbrev rw_ (l : List ByteArray) (i : Nat) : ByteArray := l.getD i ByteArray.empty
abbrev ch (s : ByteArray) (i : Nat) : UInt8 := s.toList.getD i 0
def rowB (l : List ByteArray) (i : Nat) : Bool := decide ((rw_ l i).size = (rw_ l 0).size) && allN (rw_ l i).size (fun k => okc (ch (rw_ l i) k))
def rowsB (l : List ByteArray) (m : Int) : Bool := inB (l.length : Int) 1 m && (inB ((rw_ l 0).size : Int) 1 m && allN l.length (rowB l))
theorem letter_eq (b : UInt8) : GiIsLetter.P (b.toNat : Int) = some (decide (97 ≤ b.toNat ∧ b.toNat ≤ 122)) := by
  simp only [GiIsLetter.P, letK, joinK, appK, iteK_if]
  by_cases h1 : 97 ≤ b.toNat
  · by_cases h2 : b.toNat ≤ 122
    · simp [h1, h2, show (97 : Int) ≤ b.toNat by omega, show (b.toNat : Int) ≤ 122 by omega]
    · simp [h1, h2, show (97 : Int) ≤ b.toNat by omega, show ¬ (b.toNat : Int) ≤ 122 by omega]
  · simp [h1, show ¬ (97 : Int) ≤ b.toNat by omega]
theorem inB_pos {n a b : Int} (h : inB n a b = true) : a ≤ n ∧ n ≤ b := by unfold inB at h; simpa using h
theorem impl_eq (l : List ByteArray) (m : Int) (hs : ∀ s ∈ l, s.size ≤ 1048576) : GiAreRows.P l m = some (rowsB l m) := by
  simp only [GiAreRows.P, within_eq, Option.bind_some, letK, joinK, appK, iteK_if]
  unfold rowsB
  cases h1 : inB (l.length : Int) 1 m with
  | false => simp
  | true =>
    have := (inB_pos h1).1
    obtain ⟨r0, hr0, hi0, hd0⟩ := at_row (l := l) (k := 0) (by omega)
    simp only [Int.ofNat_zero] at hi0
    simp only [hi0, Option.bind_some, Bool.not_true, Bool.false_eq_true, if_false, Bool.true_and]
    rw [show rw_ l 0 = r0 from hd0]
    cases h2 : inB (r0.size : Int) 1 m with
    | false => simp
    | true =>
      simp only [Bool.not_true, Bool.false_eq_true, if_false, Bool.true_and]
      rw [all_cnt (p := rowB l) (no := false)]
      · cases allN l.length (rowB l) <;> rfl
      · intro k nx hk
        obtain ⟨r, hr, hi, hd⟩ := at_row hk
        have hsz := hs r (List.mem_of_getElem? hr)
        simp only [GiAreRows.l0, hi, hi0, Option.bind_some, letK, iteK_if]
        unfold rowB
        rw [show rw_ l 0 = r0 from hd0, show rw_ l k = r from hd]
        by_cases he : r.size = r0.size
        · rw [if_neg (by simp; omega), guardK_pos (by omega)]
          rw [all_cnt (p := fun k => okc (ch r k)) (no := false)]
          · simp only [he, decide_true, Bool.true_and]
            cases allN r0.size (fun k => okc (ch r k)) <;> simp [GiAreRows.e1, appK]
          · intro j nx2 hj
            obtain ⟨b, hb, hib, hdb⟩ := at_list hj
            simp only [GiAreRows.l1, hib, Option.bind_some, letK, joinK, appK, iteK_if, letter_eq]
            rw [show ch r j = b from hdb]
            unfold okc
            by_cases h46 : b.toNat = 46
            · simp [h46]
            · by_cases hl : 97 ≤ b.toNat ∧ b.toNat ≤ 122 <;> simp [h46, hl] <;> omega
        · rw [if_pos (by simp; omega)]
          simp [he]
theorem spec_eq (l : List ByteArray) (m : Int) (fuel : Nat) (hf : 1048577 ≤ fuel) (hs : ∀ s ∈ l, s.size ≤ 1048576) : GsL4Rows.P fuel l m = some (rowsB l m) := by
  simp only [GsL4Rows.P, l1In_eq, Option.bind_some, letK, iteK_if]
  unfold rowsB
  cases h1 : inB (l.length : Int) 1 m with
  | false => simp
  | true =>
    have := (inB_pos h1).1
    obtain ⟨r0, hr0, hi0, hd0⟩ := at_row (l := l) (k := 0) (by omega)
    simp only [Int.ofNat_zero] at hi0
    simp only [Bool.not_true, Bool.false_eq_true, if_false, Bool.true_and]
    rw [show rw_ l 0 = r0 from hd0]
    rw [all_cnt (p := fun k => inB ((rw_ l k).size : Int) 1 m && rowB l k) (no := false)]
    · have e : allN l.length (fun k => inB ((rw_ l k).size : Int) 1 m && rowB l k) = (inB (r0.size : Int) 1 m && allN l.length (rowB l)) := by
        rw [Bool.eq_iff_iff, Bool.and_eq_true, allN_iff, allN_iff]
        constructor
        · intro h
          refine ⟨?_, fun i hi => (by have := h i hi; simp only [Bool.and_eq_true] at this; exact this.2)⟩
          have := h 0 (by omega)
          simp only [Bool.and_eq_true] at this
          rw [← show rw_ l 0 = r0 from hd0]; exact this.1
        · rintro ⟨h2, h3⟩ i hi
          have h4 := h3 i hi
          have h5 : (rw_ l i).size = r0.size := by
            unfold rowB at h4
            simp only [Bool.and_eq_true, decide_eq_true_eq] at h4
            rw [h4.1, show rw_ l 0 = r0 from hd0]
          simp only [Bool.and_eq_true]
          exact ⟨by rw [h5]; exact h2, h4⟩
      rw [e]
      cases inB (r0.size : Int) 1 m <;> cases allN l.length (rowB l) <;> rfl
    · intro k nx hk
      obtain ⟨r, hr, hi, hd⟩ := at_row hk
      have hsz := hs r (List.mem_of_getElem? hr)
      simp only [GsL4Rows.l0, hi, hi0, Option.bind_some, letK, joinK, appK, iteK_if, l1In_eq]
      unfold rowB
      rw [show rw_ l 0 = r0 from hd0, show rw_ l k = r from hd]
      by_cases he : r.size = r0.size
      · rw [if_neg (by simp; omega)]
        cases h3 : inB (r.size : Int) 1 m with
        | false => simp
        | true =>
          simp only [Bool.not_true, Bool.false_eq_true, if_false, Bool.true_and]
          rw [all_lp (n := r.size) (p := fun k => okc (ch r k)) (no := false) _ _ fuel (by omega)]
          · simp only [he, decide_true, Bool.true_and]
            cases allN r0.size (fun k => okc (ch r k)) <;> simp [GsL4Rows.e1, letK, appK]
          · intro j nx2 hj
            obtain ⟨b, hb, hib, hdb⟩ := at_list hj
            simp only [GsL4Rows.l1, hi, hib, Option.bind_some, letK, joinK, appK, iteK_if]
            rw [show ch r j = b from hdb, if_pos (by simp; omega), next_i (by omega)]
            unfold okc
            by_cases h46 : b.toNat = 46
            · simp [h46]
            · by_cases hl : 97 ≤ b.toNat
              · by_cases hl2 : b.toNat ≤ 122
                · simp [h46, hl, hl2, show ¬ ((b.toNat : Int) < 97) by omega, show ¬ ((122 : Int) < b.toNat) by omega]
                  try omega
                · simp [h46, hl, hl2, show ¬ ((b.toNat : Int) < 97) by omega, show ((122 : Int) < b.toNat) by omega]
                  try omega
              · simp [h46, hl, show ((b.toNat : Int) < 97) by omega]
                try omega
          · intro nx2
            simp only [GsL4Rows.l1, hi, Option.bind_some, letK, appK, iteK_if]
            rw [if_neg (by simp)]
      · rw [if_pos (by simp; omega)]
        simp [he]
end Go.Proofs.Ytaknldlglfnbfaa.QSheet
