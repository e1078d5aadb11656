/- Plain facts on splitting a string at a byte: the pieces behind k bytes, and where the next one starts. No condition. -/
namespace Go.Proofs.Ytohgfphbgpjamaa.PlainSplit

/-- the pieces that are done, and the start of the next one, when k bytes have been looked at -/
def pre (s : ByteArray) (b : UInt8) : Nat → List ByteArray × Nat
  | 0 => ([], 0)
  | k + 1 => if s.data.toList[k]? = some b then ((pre s b k).1 ++ [s.extract (pre s b k).2 k], k + 1) else pre s b k
def outs (s : ByteArray) (b : UInt8) (k : Nat) : List ByteArray := (pre s b k).1
def frm (s : ByteArray) (b : UInt8) (k : Nat) : Nat := (pre s b k).2
def split (s : ByteArray) (b : UInt8) : List ByteArray := outs s b s.size ++ [s.extract (frm s b s.size) s.size]

theorem frm_le (s : ByteArray) (b : UInt8) (k : Nat) : frm s b k ≤ k := by
  induction k with
  | zero => exact Nat.le_refl _
  | succ k ih =>
    unfold frm at ih ⊢
    rw [pre]; split
    · exact Nat.le_refl _
    · omega
theorem outs_len (s : ByteArray) (b : UInt8) (k : Nat) : (outs s b k).length ≤ k := by
  induction k with
  | zero => exact Nat.le_refl _
  | succ k ih =>
    unfold outs at ih ⊢
    rw [pre]; split
    · simp; exact ih
    · omega
theorem at_eq (s : ByteArray) (k : Nat) (h : k < s.size) : s.data.toList[k]? = some s[k] := by
  rw [List.getElem?_eq_getElem (by simpa using h)]; rfl
theorem outs_hit (s : ByteArray) (b : UInt8) (k : Nat) (h : k < s.size) (hb : s[k] = b) : outs s b (k + 1) = outs s b k ++ [s.extract (frm s b k) k] := by
  unfold outs frm; rw [pre, if_pos (by rw [at_eq s k h, hb])]
theorem frm_hit (s : ByteArray) (b : UInt8) (k : Nat) (h : k < s.size) (hb : s[k] = b) : frm s b (k + 1) = k + 1 := by
  unfold frm; rw [pre, if_pos (by rw [at_eq s k h, hb])]
theorem outs_miss (s : ByteArray) (b : UInt8) (k : Nat) (h : k < s.size) (hb : s[k] ≠ b) : outs s b (k + 1) = outs s b k := by
  unfold outs; rw [pre, if_neg (by rw [at_eq s k h]; simpa using hb)]
theorem frm_miss (s : ByteArray) (b : UInt8) (k : Nat) (h : k < s.size) (hb : s[k] ≠ b) : frm s b (k + 1) = frm s b k := by
  unfold frm; rw [pre, if_neg (by rw [at_eq s k h]; simpa using hb)]
theorem split_len (s : ByteArray) (b : UInt8) : 1 ≤ (split s b).length ∧ (split s b).length ≤ s.size + 1 := by
  have := outs_len s b s.size
  unfold split; simp; omega
theorem outs_step (s : ByteArray) (b : UInt8) (k : Nat) : outs s b k <+: outs s b (k + 1) := by
  unfold outs; rw [pre]; split
  · exact List.prefix_append _ _
  · exact List.prefix_rfl
theorem outs_pre (s : ByteArray) (b : UInt8) (k d : Nat) : outs s b k <+: outs s b (k + d) := by
  induction d with
  | zero => exact List.prefix_rfl
  | succ d ih => exact ih.trans (outs_step s b (k + d))
theorem outs_split (s : ByteArray) (b : UInt8) (k : Nat) (h : k ≤ s.size) : outs s b k <+: split s b := by
  have := outs_pre s b k (s.size - k)
  rw [show k + (s.size - k) = s.size by omega] at this
  exact this.trans (List.prefix_append _ _)
theorem outs_lt (s : ByteArray) (b : UInt8) (k : Nat) (h : k ≤ s.size) : (outs s b k).length < (split s b).length := by
  have := outs_pre s b k (s.size - k)
  rw [show k + (s.size - k) = s.size by omega] at this
  have := this.length_le
  unfold split; rw [List.length_append]; simp; omega
end Go.Proofs.Ytohgfphbgpjamaa.PlainSplit
