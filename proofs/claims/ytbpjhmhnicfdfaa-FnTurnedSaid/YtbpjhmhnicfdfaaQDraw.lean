/- Draws on tapes: each gives something within its bounds. (QDraw) No condition but those of each theorem. -/
import Derived.Test.YtbpjhmhnicfdfaaQLoop
import Derived.Test.YtbpjhmhnicfdfaaGoC
import Derived.Test.YtbpjhmhnicfdfaaGsL1CurNext
import Derived.Test.YtbpjhmhnicfdfaaGsL1CurPick
import Derived.Test.YtbpjhmhnicfdfaaGsL1CurAmong
namespace Go.Proofs.Ytbpjhmhnicfdfaa.QDraw
set_option linter.unusedVariables false
set_option linter.unusedSimpArgs false
open Go.RowKit
open Go.Proofs.Ytbpjhmhnicfdfaa.GoP Go.Proofs.Ytbpjhmhnicfdfaa.PlainStamp Go.Proofs.Ytbpjhmhnicfdfaa.QBase Go.Proofs.Ytbpjhmhnicfdfaa.QLoop

/-- a tape that may be asked m times more -/
def good (t : GoC.Tape) (m : Nat) : Prop := m ≤ t.left ∧ ∀ i, 0 ≤ t.vals i ∧ t.vals i ≤ 255
theorem good_less {t : GoC.Tape} {m n : Nat} (h : good t m) (hn : n ≤ m) : good t n := ⟨Nat.le_trans hn h.1, h.2⟩
theorem good_of {tapes : List Int → GoC.Tape} (h : GoC.Tells tapes) (code : List Int) {m : Nat} (hm : m ≤ 4611686018427387904) : good (tapes code) m := ⟨by rw [h.1]; exact hm, h.2.1 code⟩
theorem next_ok {t : GoC.Tape} {m : Nat} (h : good t (m + 1)) : ∃ b t', GsL1CurNext.P t = some (b, t') ∧ (0 ≤ b ∧ b ≤ 255) ∧ good t' m := by
  unfold GsL1CurNext.P
  rw [if_pos (by have := h.1; omega)]
  exact ⟨_, _, rfl, h.2 0, by have := h.1; show m ≤ t.left - 1; omega, fun i => h.2 (i + 1)⟩
theorem pick_ok {t : GoC.Tape} {m : Nat} {n : Int} (h : good t (m + 2)) : ∃ x t', GsL1CurPick.P t n = some (x, t') ∧ 0 ≤ x ∧ (x < n ∨ n ≤ 1 ∧ x = 0) ∧ x ≤ 65535 ∧ good t' m := by
  simp only [GsL1CurPick.P, letK, iteK_if]
  by_cases hn : n ≤ 1
  · rw [if_pos (by simpa using hn)]
    exact ⟨0, t, rfl, by omega, by omega, by omega, good_less h (by omega)⟩
  · rw [if_neg (by simpa using hn)]
    obtain ⟨b, t1, e1, hb, h1⟩ := next_ok (m := m + 1) h
    rw [e1]
    simp only [bind2_some]
    by_cases h2 : 200 < n
    · rw [if_pos (by simpa using h2)]
      obtain ⟨b2, t2, e2, hb2, h3⟩ := next_ok (m := m) h1
      rw [e2]
      simp only [bind2_some, GsL1CurPick.j0, unp2, letK]
      rw [guardK_pos (by omega), wrap_in (x := b * 256) (by omega) (by omega), wrap_in (by omega) (by omega), Int.tmod_eq_emod_of_nonneg (by omega)]
      have k1 := Int.emod_nonneg (b * 256 + b2) (show n ≠ 0 by omega)
      have k2 := Int.emod_lt_of_pos (b * 256 + b2) (show 0 < n by omega)
      have k3 : (b * 256 + b2) % n ≤ 65535 := by
        by_cases hq : n ≤ 65536
        · omega
        · rw [Int.emod_eq_of_lt (by omega) (by omega)]; omega
      exact ⟨_, _, rfl, k1, .inl k2, by omega, h3⟩
    · rw [if_neg (by simpa using h2)]
      simp only [GsL1CurPick.j0, unp2, letK]
      rw [guardK_pos (by omega), Int.tmod_eq_emod_of_nonneg (by omega)]
      have k1 := Int.emod_nonneg b (show n ≠ 0 by omega)
      have k2 := Int.emod_lt_of_pos b (show 0 < n by omega)
      exact ⟨_, _, rfl, k1, .inl k2, by omega, good_less h1 (by omega)⟩
theorem among_ok {t : GoC.Tape} {m : Nat} {l : List Int} (h : good t (m + 2)) (h0 : 0 < l.length) : ∃ x t', GsL1CurAmong.P t l = some (x, t') ∧ x ∈ l ∧ good t' m := by
  obtain ⟨x, t', e, hx0, hx, _, hg⟩ := pick_ok (n := (l.length : Int)) h
  simp only [GsL1CurAmong.P, e, bind2_some]
  obtain ⟨y, hy, hyi⟩ := at_lt (l := l) (k := x.toNat) (by omega)
  rw [show ((x.toNat : Nat) : Int) = x by omega] at hyi
  exact ⟨y, t', by rw [hyi]; rfl, List.mem_of_getElem? hy, hg⟩
end Go.Proofs.Ytbpjhmhnicfdfaa.QDraw
