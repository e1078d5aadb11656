/- Plain facts on joining strings with a byte between them: how the result grows, and how joining ends. No condition. -/
import Derived.Lib.Join
namespace Go.Proofs.Ytohgfphbgpjamaa.PlainJoin
set_option linter.unusedVariables false

def lists (l : List ByteArray) : List (List UInt8) := l.map (·.data.toList)
def J (l : List ByteArray) (b : UInt8) (k : Nat) : List UInt8 := Lib.join ((lists l).take k) [b]
def full (l : List ByteArray) (b : UInt8) : List UInt8 := Lib.join (lists l) [b]

theorem J_zero (l : List ByteArray) (b : UInt8) : J l b 0 = [] := rfl
theorem J_all (l : List ByteArray) (b : UInt8) : J l b l.length = full l b := by
  unfold J full lists; rw [List.take_of_length_le (by simp)]
theorem J_first (l : List ByteArray) (b : UInt8) (x : ByteArray) (h : l[0]? = some x) : J l b 1 = x.data.toList := by
  cases l with
  | nil => simp at h
  | cons y r => obtain rfl : y = x := by simpa using h
                exact Lib.join_one _ _
theorem J_next (l : List ByteArray) (b : UInt8) (k : Nat) (x : ByteArray) (hk : 0 < k) (h : l[k]? = some x) : J l b (k + 1) = J l b k ++ [b] ++ x.data.toList := by
  cases l with
  | nil => simp at h
  | cons y r =>
    obtain ⟨j, rfl⟩ : ∃ j, k = j + 1 := ⟨k - 1, by omega⟩
    have hr : (lists r)[j]? = some x.data.toList := by
      have : r[j]? = some x := by simpa using h
      unfold lists; rw [List.getElem?_map, this]; rfl
    show Lib.join (y.data.toList :: (lists r).take (j + 1)) [b] = Lib.join (y.data.toList :: (lists r).take j) [b] ++ [b] ++ x.data.toList
    rw [Lib.join_cons, Lib.join_cons, Lib.joinTail_take_succ _ _ _ _ hr]
    simp
theorem J_len (l : List ByteArray) (b : UInt8) (k : Nat) (h1 : 1 ≤ k) (h2 : k ≤ l.length) : (J l b k).length = (k - 1) + ((l.take k).map ByteArray.size).sum := by
  cases l with
  | nil => simp at h2; omega
  | cons y r =>
    obtain ⟨j, rfl⟩ : ∃ j, k = j + 1 := ⟨k - 1, by omega⟩
    show (Lib.join (y.data.toList :: (lists r).take j) [b]).length = _
    rw [Lib.join_length]
    have e1 : ((lists r).take j).length = j := by
      rw [List.length_take]; unfold lists; rw [List.length_map]; simp at h2; omega
    have e2 : Lib.lens (y.data.toList :: (lists r).take j) = (((y :: r).take (j + 1)).map ByteArray.size).sum := by
      unfold Lib.lens lists
      rw [List.take_succ_cons, List.map_cons, List.map_cons, List.map_take, List.map_map, List.map_take]
      rfl
    rw [e1, e2]; simp
theorem sizes_take (l : List ByteArray) (k : Nat) : ((l.take k).map ByteArray.size).sum ≤ (l.map ByteArray.size).sum := by
  conv => rhs; rw [← List.take_append_drop k l]
  rw [List.map_append, List.sum_append]; omega
theorem full_len (l : List ByteArray) (b : UInt8) (h : 1 ≤ l.length) : (full l b).length = (l.length - 1) + (l.map ByteArray.size).sum := by
  rw [← J_all, J_len l b l.length h (Nat.le_refl _), List.take_of_length_le (Nat.le_refl _)]
theorem J_le (l : List ByteArray) (b : UInt8) (k : Nat) (h1 : 1 ≤ k) (h2 : k ≤ l.length) : (J l b k).length ≤ (full l b).length := by
  rw [J_len l b k h1 h2, full_len l b (by omega)]
  have := sizes_take l k
  omega

def Good (l : List ByteArray) (b : UInt8) : Prop := l ≠ [] ∧ (∀ x ∈ l, b ∉ x.data.toList) ∧ (full l b).length ≤ 4000
/-- how joining ends -/
def Jn (l : List ByteArray) (sep t : List UInt8) (ok : Bool) : Prop :=
  (ok = true ∧ ∃ b, sep = [b] ∧ Good l b ∧ t = full l b) ∨ (ok = false ∧ t = [] ∧ ∀ b, sep = [b] → ¬ Good l b)
theorem Jn.uniq {l : List ByteArray} {sep t t' : List UInt8} {b b' : Bool} (h : Jn l sep t b) (k : Jn l sep t' b') : t = t' ∧ b = b' := by
  rcases h with ⟨rfl, c, h1, h2, h3⟩ | ⟨rfl, h1, h2⟩ <;> rcases k with ⟨rfl, d, k1, k2, k3⟩ | ⟨rfl, k1, k2⟩
  · obtain rfl : c = d := by rw [h1] at k1; simpa using k1
    exact ⟨h3.trans k3.symm, rfl⟩
  · exact absurd h2 (k2 c h1)
  · exact absurd k2 (h2 d k1)
  · exact ⟨h1.trans k1.symm, rfl⟩
theorem no_sep {l : List ByteArray} {sep : List UInt8} (h : sep.length ≠ 1) : Jn l sep [] false := .inr ⟨rfl, rfl, fun b e => by rw [e] at h; simp at h⟩
theorem no_parts {sep : List UInt8} : Jn [] sep [] false := .inr ⟨rfl, rfl, fun b _ g => g.1 rfl⟩
theorem no_mark {l : List ByteArray} {b : UInt8} {k : Nat} {x : ByteArray} (hx : l[k]? = some x) (h : b ∈ x.data.toList) : Jn l [b] [] false :=
  .inr ⟨rfl, rfl, fun c e g => by obtain rfl : b = c := by simpa using e
                                  exact g.2.1 x (List.mem_of_getElem? hx) h⟩
theorem no_room {l : List ByteArray} {b : UInt8} (h : 4000 < (full l b).length) : Jn l [b] [] false :=
  .inr ⟨rfl, rfl, fun c e g => by obtain rfl : b = c := by simpa using e
                                  have := g.2.2; omega⟩
theorem yes_join {l : List ByteArray} {b : UInt8} (h1 : l ≠ []) (h2 : ∀ x ∈ l, b ∉ x.data.toList) (h3 : (full l b).length ≤ 4000) : Jn l [b] (full l b) true :=
  .inl ⟨rfl, b, rfl, ⟨h1, h2, h3⟩, rfl⟩
/-- no element among the first k holds the byte -/
def NoMark (l : List ByteArray) (b : UInt8) (k : Nat) : Prop := ∀ x ∈ l.take k, b ∉ x.data.toList
theorem NoMark.zero (l : List ByteArray) (b : UInt8) : NoMark l b 0 := by intro x hx; simp at hx
theorem NoMark.succ {l : List ByteArray} {b : UInt8} {k : Nat} {x : ByteArray} (h : NoMark l b k) (hx : l[k]? = some x) (hn : b ∉ x.data.toList) : NoMark l b (k + 1) := by
  intro y hy
  have hk := (List.getElem?_eq_some_iff.1 hx).1
  rw [List.take_succ_eq_append_getElem hk, (List.getElem?_eq_some_iff.1 hx).2] at hy
  rcases List.mem_append.1 hy with h1 | h1
  · exact h y h1
  · obtain rfl : y = x := by simpa using h1
    exact hn
theorem NoMark.all {l : List ByteArray} {b : UInt8} (h : NoMark l b l.length) : ∀ x ∈ l, b ∉ x.data.toList := by
  intro x hx; apply h; rw [List.take_of_length_le (Nat.le_refl _)]; exact hx
end Go.Proofs.Ytohgfphbgpjamaa.PlainJoin
