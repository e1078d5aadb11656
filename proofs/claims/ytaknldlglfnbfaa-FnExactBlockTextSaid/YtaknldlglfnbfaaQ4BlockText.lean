/- Points on a sheet, the text of a block: the plain functions of the program and of the reference agree, and the laws answer true. (Q4BlockText) No condition but those of each theorem. -/
import Derived.Test.YtaknldlglfnbfaaQLoop
import Derived.Test.YtaknldlglfnbfaaQStrs
import Derived.Test.YtaknldlglfnbfaaQSheet
import Derived.Test.YtaknldlglfnbfaaGlFnExactBlockText
namespace Go.Proofs.Ytaknldlglfnbfaa.Q4BlockText
set_option linter.unusedVariables false
set_option linter.unusedSimpArgs false
open Go.RowKit
open Go.Proofs.Ytaknldlglfnbfaa.GoP Go.Proofs.Ytaknldlglfnbfaa.PlainStamp Go.Proofs.Ytaknldlglfnbfaa.QBase Go.Proofs.Ytaknldlglfnbfaa.QLoop Go.Proofs.Ytaknldlglfnbfaa.QStrs Go.Proofs.Ytaknldlglfnbfaa.QSheet

def bs (l : List UInt8) : ByteArray := ⟨l.toArray⟩
theorem bs_size (l : List UInt8) : (bs l).size = l.length := by show l.toArray.size = _; simp
theorem bs_list (l : List UInt8) : (bs l).toList = l := by rw [Lib.toList_data]; simp [bs]
theorem bs_app (l : List UInt8) (r : ByteArray) : bs l ++ r = bs (l ++ r.data.toList) := by apply ByteArray.ext; simp [bs]
def jn (l : List ByteArray) : List UInt8 := Lib.join (l.map (·.data.toList)) [47]
theorem jn_snoc (l : List ByteArray) (r : ByteArray) (h : l ≠ []) : jn (l ++ [r]) = jn l ++ 47 :: r.data.toList := by
  induction l with
  | nil => exact absurd rfl h
  | cons x l ih =>
    cases l with
    | nil => simp [jn, Lib.join, List.intercalate]
    | cons y l =>
      have h1 := ih (by simp)
      have e : ∀ (z : ByteArray) (m : List ByteArray), jn (x :: z :: m) = x.data.toList ++ 47 :: jn (z :: m) := by intro z m; simp [jn, Lib.join, List.intercalate]
      rw [List.cons_append, List.cons_append, e, ← List.cons_append, h1, e]
      simp
theorem jn_len {l : List ByteArray} (hs : ∀ s ∈ l, s.size ≤ 1048576) : ∀ k, k ≤ l.length → (jn (l.take k)).length ≤ 1048577 * k := by
  intro k
  induction k with
  | zero => intro _; simp [jn, Lib.join, List.intercalate]
  | succ k ih =>
    intro hk
    obtain ⟨r, hr, _⟩ := at_lt (l := l) (k := k) (by omega)
    have h1 := ih (by omega)
    have h3 : r.data.toList.length ≤ 1048576 := by have := hs r (List.mem_of_getElem? hr); simpa using this
    rw [take_next hr]
    by_cases h0 : l.take k = []
    · rw [h0]
      have : jn ([] ++ [r]) = r.data.toList := by simp [jn, Lib.join, List.intercalate]
      rw [this]; omega
    · rw [jn_snoc _ _ h0, List.length_append, List.length_cons]; omega
theorem rows_len {l : List ByteArray} {m : Int} (h : rowsB l m = true) : (l.length : Int) ≤ m := by
  unfold rowsB at h; simp only [Bool.and_eq_true] at h
  exact (inB_pos h.1).2
def txtRes (l : List ByteArray) : ByteArray × Bool := if rowsB l 3 = true then (bs (jn l), true) else (⟨#[]⟩, false)
theorem txt_impl (l : List ByteArray) (hs : ∀ s ∈ l, s.size ≤ 1048576) : GiBlockText.P l = some (txtRes l) := by
  simp only [GiBlockText.P, GiIsBlock.P, impl_eq l 3 hs, Option.bind_some, letK, iteK_if, txtRes]
  cases hr : rowsB l 3 with
  | false => simp
  | true =>
    have hl := rows_len hr
    have h2 := jn_len hs l.length (Nat.le_refl _)
    rw [List.take_of_length_le (Nat.le_refl _)] at h2
    have key : GxStringsJoin.P l ⟨#[47]⟩ = some (bs (jn l)) := by
      unfold GxStringsJoin.P
      rw [if_pos ⟨by omega, by show (jn l).length ≤ _; omega⟩]; rfl
    simp [key]
theorem txt_spec (l : List ByteArray) (hs : ∀ s ∈ l, s.size ≤ 1048576) : GsBlockText.P 1048577 l = some (txtRes l) := by
  simp only [GsBlockText.P, GsIsBlock.P, spec_eq l 3 1048577 (by omega) hs, Option.bind_some, letK, iteK_if, txtRes]
  cases hr : rowsB l 3 with
  | false => simp
  | true =>
    have hl := rows_len hr
    simp only [Bool.not_true, Bool.false_eq_true, if_false, if_true]
    obtain ⟨v, e1, e2⟩ := lp_ex (n := l.length) (Q := fun v => v = (bs (jn l), true)) (f := GsBlockText.l0 l) (fin := GsBlockText.e0) (fun k s => s = (bs (jn (l.take k)), (k : Int))) (by
        rintro k s nx hk rfl hn
        obtain ⟨r, hr, hri⟩ := at_lt (l := l) (k := k) hk
        have h1 := jn_len hs k (by omega)
        have h3 : r.size ≤ 1048576 := hs r (List.mem_of_getElem? hr)
        have ht : decide ((k : Int) < (l.length : Int)) = true := by simp; omega
        have h5 := hn _ (show (bs (jn (l.take (k + 1))), ((k + 1 : Nat) : Int)) = _ from rfl)
        have e47 : (⟨#[47]⟩ : ByteArray).size = 1 := rfl
        simp only [GsBlockText.l0, unp2, letK, ht, iteK_if, if_true, GsBlockText.j0, hri, Option.bind_some, appK, next_i (show k ≤ 9223372036854775806 by omega)]
        rw [take_next hr] at h5
        by_cases h0 : k = 0
        · subst h0
          rw [if_neg (by simp), guardK_pos (by rw [bs_size]; unfold maxLen; omega), bs_app]
          simpa [jn, Lib.join, List.intercalate] using h5
        · have hne : l.take k ≠ [] := by intro e; have := congrArg List.length e; rw [List.length_take, List.length_nil] at this; omega
          rw [if_pos (by simp; omega), guardK_pos (by rw [bs_size, e47]; unfold maxLen; omega), guardK_pos (by rw [ByteArray.size_append, bs_size, e47]; unfold maxLen; omega), bs_app, bs_app]
          rw [jn_snoc _ _ hne] at h5
          simpa using h5) (by
        rintro s nx rfl
        have ht : decide ((l.length : Int) < (l.length : Int)) = false := by simp
        simp only [GsBlockText.l0, unp2, letK, ht, iteK_if, appK, GsBlockText.e0]
        exact ⟨_, rfl, by rw [List.take_of_length_le (Nat.le_refl _)]⟩) 1048577 0 (⟨#[]⟩, 0) (by omega) (by omega) (by simp [jn, Lib.join, List.intercalate, bs])
    rw [e1, e2]
theorem szB (l : List ByteArray) (left : Int) (h0 : 0 ≤ left) (h1 : left ≤ 1048576) (hf : ∀ s ∈ l, s.size ≤ maxLen) (hl : l.length ≤ 9223372036854775807) :
    ∃ v, GlSzBlock.P l left = some v ∧ v ≤ 1048576 ∧ (0 ≤ v → l.length ≤ 1048576 ∧ ∀ s ∈ l, s.size ≤ 1048576) := by
  obtain ⟨v, e, h2, h3⟩ := szS l left h0 h1 hf hl
  simp only [GlSzBlock.P, e, Option.bind_some, letK, iteK_if]
  by_cases hv : v < 0
  · exact ⟨-1, by simp [hv], by omega, by omega⟩
  · exact ⟨v, by simp [hv], h2, h3⟩
theorem toB (l : List ByteArray) (hl : l.length ≤ 1048576) : GlToBlock.P l = some (PBlock.Block.mk l) := by simp only [GlToBlock.P, toS l hl, Option.bind_some]
theorem eqB (l : List ByteArray) : GlEqBlock.P l l = some true := by simp [GlEqBlock.P, eqS, letK, iteK_if]
theorem law_blockText (l : List ByteArray) (hf : ∀ s ∈ l, s.size ≤ maxLen) (hl : l.length ≤ 9223372036854775807) : GlFnExactBlockText.P 1048577 l = some true := by
  obtain ⟨v, e, h2, h3⟩ := szB l 1048576 (by omega) (by omega) hf hl
  simp only [GlFnExactBlockText.P, e, Option.bind_some, letK, iteK_if]
  by_cases hv : v < 0
  · simp [hv]
  · obtain ⟨h4, h5⟩ := h3 (by omega)
    obtain ⟨⟨a, b⟩, hr⟩ : ∃ x, x = txtRes l := ⟨_, rfl⟩
    simp [hv, toB l h4, unBlock, eqB l, txt_impl l h5, txt_spec l h5, ← hr, bind2, joinK, appK, iteK_if]
end Go.Proofs.Ytaknldlglfnbfaa.Q4BlockText
