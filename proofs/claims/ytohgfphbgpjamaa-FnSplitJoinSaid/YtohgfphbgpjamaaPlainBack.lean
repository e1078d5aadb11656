/- Plain facts: a string that is split at a byte and joined with it is the string again. No condition. -/
import Derived.Test.YtohgfphbgpjamaaPlainSplit
import Derived.Test.YtohgfphbgpjamaaPlainJoin
import Derived.Lib.Strings
namespace Go.Proofs.Ytohgfphbgpjamaa.PlainBack
set_option linter.unusedVariables false
open Go.Proofs.Ytohgfphbgpjamaa.PlainSplit Go.Proofs.Ytohgfphbgpjamaa.PlainJoin

theorem join_snoc (X : List (List UInt8)) (y : List UInt8) (c : UInt8) : Lib.join (X ++ [y]) [c] = if X = [] then y else Lib.join X [c] ++ [c] ++ y := by
  cases X with
  | nil => simp [Lib.join_one]
  | cons x r =>
    rw [if_neg (by simp)]
    show Lib.join (x :: (r ++ [y])) [c] = _
    rw [Lib.join_cons, Lib.join_cons]
    unfold Lib.joinTail
    simp
theorem lists_app (a b : List ByteArray) : lists (a ++ b) = lists a ++ lists b := by unfold lists; simp

/-- what has been looked at, joined -/
theorem back_at (s : ByteArray) (c : UInt8) (k : Nat) (hk : k ≤ s.size) :
    Lib.join (lists (outs s c k) ++ [(s.data.toList.take k).drop (frm s c k)]) [c] = s.data.toList.take k ∧
    (∀ p ∈ outs s c k, c ∉ p.data.toList) ∧ c ∉ (s.data.toList.take k).drop (frm s c k) := by
  induction k with
  | zero => exact ⟨rfl, by intro p hp; simp [outs, pre] at hp, by simp⟩
  | succ k ih =>
    obtain ⟨h1, h2, h3⟩ := ih (by omega)
    have hf := frm_le s c k
    have hlt : k < s.size := by omega
    have el : s.data.toList.length = s.size := by simp
    have ht : s.data.toList.take (k + 1) = s.data.toList.take k ++ [s[k]] := by
      rw [List.take_succ_eq_append_getElem (by omega)]; rfl
    have hlen : (s.data.toList.take k).length = k := by rw [List.length_take]; omega
    have hp : (s.extract (frm s c k) k).data.toList = (s.data.toList.take k).drop (frm s c k) := by
      rw [Lib.extract_data, List.drop_take]
    by_cases hc : s[k] = c
    · have ho := outs_hit s c k hlt hc
      have hfr := frm_hit s c k hlt hc
      have hL : lists (outs s c (k + 1)) = lists (outs s c k) ++ [(s.data.toList.take k).drop (frm s c k)] := by
        rw [ho, lists_app]; unfold lists; simp only [List.map_cons, List.map_nil]; rw [hp]
      have hd : (s.data.toList.take (k + 1)).drop (k + 1) = [] := List.drop_of_length_le (by rw [List.length_take]; omega)
      refine ⟨?_, ?_, ?_⟩
      · rw [hfr, hd, join_snoc, if_neg (by rw [hL]; simp), hL, h1, ht, hc]
        simp
      · intro p hm
        rw [ho] at hm
        rcases List.mem_append.1 hm with h4 | h4
        · exact h2 p h4
        · obtain rfl : p = s.extract (frm s c k) k := by simpa using h4
          rw [hp]; exact h3
      · rw [hfr, hd]; simp
    · have ho := outs_miss s c k hlt hc
      have hfr := frm_miss s c k hlt hc
      have hd : (s.data.toList.take (k + 1)).drop (frm s c k) = (s.data.toList.take k).drop (frm s c k) ++ [s[k]] := by
        rw [ht, List.drop_append_of_le_length (by omega)]
      refine ⟨?_, by rw [ho]; exact h2, ?_⟩
      · rw [ho, hfr, hd, join_snoc, ht]
        rw [join_snoc] at h1
        by_cases hX : lists (outs s c k) = []
        · rw [if_pos hX] at h1 ⊢
          rw [h1]
        · rw [if_neg hX] at h1 ⊢
          rw [← List.append_assoc, h1]
      · rw [hfr, hd]
        intro hm
        rcases List.mem_append.1 hm with h4 | h4
        · exact h3 h4
        · exact hc (List.mem_singleton.1 h4).symm

theorem split_back (s : ByteArray) (c : UInt8) : full (split s c) c = s.data.toList ∧ ∀ p ∈ split s c, c ∉ p.data.toList := by
  obtain ⟨h1, h2, h3⟩ := back_at s c s.size (Nat.le_refl _)
  have el : s.data.toList.length = s.size := by simp
  have ht : s.data.toList.take s.size = s.data.toList := List.take_of_length_le (by omega)
  have hp : (s.extract (frm s c s.size) s.size).data.toList = (s.data.toList.take s.size).drop (frm s c s.size) := by
    rw [Lib.extract_data, List.drop_take]
  refine ⟨?_, fun p hm => ?_⟩
  · unfold full split
    rw [lists_app]
    have : lists [s.extract (frm s c s.size) s.size] = [(s.data.toList.take s.size).drop (frm s c s.size)] := by
      unfold lists; simp only [List.map_cons, List.map_nil]; rw [hp]
    rw [this, h1, ht]
  · unfold split at hm
    rcases List.mem_append.1 hm with h4 | h4
    · exact h2 p h4
    · obtain rfl : p = s.extract (frm s c s.size) s.size := by simpa using h4
      rw [hp]; exact h3

theorem split_jn (s : ByteArray) (c : UInt8) (hs : s.size ≤ 4000) : Jn (split s c) [c] s.data.toList true := by
  obtain ⟨h1, h2⟩ := split_back s c
  have el : s.data.toList.length = s.size := by simp
  have := yes_join (l := split s c) (b := c) (by have := (split_len s c).1; intro e; rw [e] at this; simp at this) h2 (by rw [h1]; omega)
  rw [h1] at this
  exact this
end Go.Proofs.Ytohgfphbgpjamaa.PlainBack
