/- The texts on which the proof of FnExactMarkNames stands, one behind the other (3 of 3). No condition of their own. -/
import Derived.Test.YtbnpdaipgamgkaaFnExactMarkNamesP2
import Derived.Test.YtbnpdaipgamgkaaFnExactMarkNamesP1
/- The laws' helpers on rows of texts, and on rows of those, as plain functions: equal, marked, held. (QHT) No condition but those of each theorem. -/
namespace Go.Proofs.Ytbnpdaipgamgkaa.QHT
set_option linter.unusedVariables false
set_option linter.unusedSimpArgs false
open Go.RowKit
open Go.Proofs.Ytbnpdaipgamgkaa.GoP Go.Proofs.Ytbnpdaipgamgkaa.PlainStamp Go.Proofs.Ytbnpdaipgamgkaa.QBase Go.Proofs.Ytbnpdaipgamgkaa.QLoop

theorem eqT (l : List ByteArray) : GlEqStringS.P l l = some true := by
  simp only [GlEqStringS.P, letK, iteK_if]
  rw [if_neg (by simp)]
  refine cnt_is true (fun _ _ => True) ?_ (fun s _ => rfl) () trivial
  intro k s nx hk _ hn
  obtain ⟨x, hx, hi⟩ := at_lt (l := l) (k := k) hk
  simp only [GlEqStringS.l0, hi, Option.bind_some, letK, appK, iteK_if]
  rw [if_neg (by simp)]
  exact hn () trivial
/-- the marks from c on -/
def mtL (c : Int) (n : Nat) : List ByteArray := (List.range n).map fun i : Nat => Go.Proofs.Ytbnpdaipgamgkaa.MarkStr.mt (c + (i : Int)).toNat
theorem mtL_at {c : Int} {n k : Nat} (h : k < n) : (mtL c n)[k]? = some (Go.Proofs.Ytbnpdaipgamgkaa.MarkStr.mt (c + (k : Int)).toNat) := by unfold mtL; simp [h]
theorem mtL_len (c : Int) (n : Nat) : (mtL c n).length = n := by simp [mtL]
theorem mark_is {k : Int} (h : 1 ≤ k ∧ k ≤ 1000000000) : GlMarkText.P k = some (Go.Proofs.Ytbnpdaipgamgkaa.MarkStr.mt k.toNat) := by unfold GlMarkText.P; rw [if_pos h]
theorem markT (l : List ByteArray) (c : Int) (h0 : 1 ≤ c) (h1 : c + l.length ≤ 1000000000) : GlMarkStringS.P l c = some (c + (l.length : Int), mtL c l.length) := by
  simp only [GlMarkStringS.P]
  refine cnt_is _ (fun k (s : List ByteArray × Int) => s.1.length = l.length ∧ s.2 = c + (k : Int) ∧ ∀ i : Nat, i < k → s.1[i]? = some (Go.Proofs.Ytbnpdaipgamgkaa.MarkStr.mt (c + (i : Int)).toNat)) ?_ ?_ (l, c) ⟨rfl, by simp, fun i hi => by omega⟩
  · rintro k ⟨a, b⟩ nx hk ⟨h1, h2, h3⟩ hn
    dsimp only at h1 h2 h3
    obtain ⟨x, hx, hi⟩ := at_lt (l := a) (k := k) (by omega)
    simp only [GlMarkStringS.l0, unp2]
    rw [mark_is (by omega)]
    simp only [hi, Option.bind_some, letK, appK]
    rw [wrap_in (by omega) (by omega)]
    refine hn _ ⟨by simpa using h1, by dsimp only; omega, fun i hi2 => ?_⟩
    dsimp only
    by_cases he : i = k
    · subst he; rw [List.getElem?_set_self (by omega), h2]
    · rw [List.getElem?_set_ne (by omega)]; exact h3 i (by omega)
  · rintro ⟨a, b⟩ ⟨h1, h2, h3⟩
    dsimp only at h1 h2 h3
    have : a = mtL c l.length := by
      apply List.ext_getElem?
      intro i
      by_cases hi : i < l.length
      · rw [h3 i hi, mtL_at hi]
      · rw [List.getElem?_eq_none (by omega), List.getElem?_eq_none (by rw [mtL_len]; omega)]
    simp only [GlMarkStringS.e0, unp2]
    rw [this, h2]
theorem heldT (c : Int) (n : Nat) (h0 : 1 ≤ c) (h1 : c + n ≤ 1000000000) : GlHeldStringS.P (mtL c n) c = some (c + (n : Int)) := by
  simp only [GlHeldStringS.P]
  refine cnt_is _ (fun k s => s = c + (k : Int)) ?_ ?_ c (by simp)
  · intro k s nx hk hI hn
    rw [mtL_len] at hk
    have hi : idx (mtL c n) (k : Int) = some (Go.Proofs.Ytbnpdaipgamgkaa.MarkStr.mt (c + (k : Int)).toNat) := by rw [idx_nat, mtL_at hk]
    simp only [GlHeldStringS.l0, hi, Option.bind_some, letK, appK, iteK_if]
    rw [mark_is (by omega)]
    simp only [Option.bind_some]
    rw [if_neg (by simp [hI]), wrap_in (by omega) (by omega)]
    exact hn _ (by omega)
  · intro s hI
    simp only [GlHeldStringS.e0, letK]
    rw [hI, mtL_len]
end Go.Proofs.Ytbnpdaipgamgkaa.QHT

/- Watermarks of papers: the plain functions of the program and of the reference agree, and the law answers true. (QL3Marks) No condition but those of each theorem. -/
namespace Go.Proofs.Ytbnpdaipgamgkaa.QL3Marks
set_option linter.unusedVariables false
set_option linter.unusedSimpArgs false
open Go.RowKit
open Go.Proofs.Ytbnpdaipgamgkaa.GoP Go.Proofs.Ytbnpdaipgamgkaa.PlainStamp Go.Proofs.Ytbnpdaipgamgkaa.QBase Go.Proofs.Ytbnpdaipgamgkaa.Q3Marks Go.Proofs.Ytbnpdaipgamgkaa.QLoop Go.Proofs.Ytbnpdaipgamgkaa.PPaper Go.Proofs.Ytbnpdaipgamgkaa.QHPaperE Go.Proofs.Ytbnpdaipgamgkaa.QHPaper Go.Proofs.Ytbnpdaipgamgkaa.QHT

theorem law_marks {fuel : Nat} (l : List Paper) (hf : ∀ s ∈ l, s.fits) (hl : l.length ≤ 9223372036854775807) (hfu : 12 < fuel) : GlFnExactMarkNames.P fuel l = some true := by
  obtain ⟨v, hv, hn⟩ := szS l hf hl
  simp only [GlFnExactMarkNames.P, hv, Option.bind_some, letK, iteK_if]
  by_cases hb : v < 0
  · rw [if_pos (by simp; omega)]
  · rw [if_neg (by simp; omega)]
    have hle := hn (by omega)
    obtain ⟨⟨a, b⟩, hr⟩ : ∃ x, x = marksRes l := ⟨_, rfl⟩
    have hlen := marksRes_len l
    rw [← hr] at hlen
    dsimp only at hlen
    obtain ⟨v2, l2, hm, hv2⟩ := markS l hle
    have hv3 : ¬ v2 < 0 := by omega
    have hv4 : ¬ 1 + (a.length : Int) < 0 := by omega
    simp [toS l hle, marks_spec l hf hl hfu, marks_impl l, ← hr, bind2, joinK, appK, iteK_if, eqS, eqT, hm, hv3, markT a 1 (by omega) (by omega), heldT 1 a.length (by omega) (by omega), hv4]
end Go.Proofs.Ytbnpdaipgamgkaa.QL3Marks

