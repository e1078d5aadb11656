/- Words for a slice that reads as a list of values, nil and empty let in; for slices of strings; and what becomes of them in later worlds. No condition. -/
import Derived.Below
import Derived.Laws.OwnMore
import Derived.Laws.World
import Derived.Deep.Draws
namespace Go.Proofs.YtpaakpbbahbhcaaDoor.Rowed
set_option linter.unusedVariables false
open Go.RowKit

theorem add_block (a : Addr) (n : Nat) : (a.add n).block = a.block := by unfold Addr.add; split <;> rfl
theorem cell_lt {w : World} {a : Addr} {v : Value} (h : w.cell? a = some v) : a.block < w.heap.size := World.block_lt_of_cell? w a h
theorem cell_below {w w' : World} (hb : Below w.heap.size w w') {a : Addr} {v : Value} (hc : w.cell? a = some v) : w'.cell? a = some v := (hb.cell (cell_lt hc)).trans hc
theorem below_drewN (w : World) (m : Nat) : Below w.heap.size w (w.drewN m) := ⟨rfl, rfl, rfl, Nat.le_refl _, fun _ _ => rfl⟩
theorem Below.step {a b c : World} (h : Below a.heap.size a b) (k : Below b.heap.size b c) : Below a.heap.size a c := h.trans (k.mono h.size)

/-- the world has drawn, and nothing else has turned -/
def DrawnTo (w w' : World) : Prop := ∃ m, w' = w.drewN m
theorem DrawnTo.refl (w : World) : DrawnTo w w := ⟨0, rfl⟩
theorem DrawnTo.more {w w' : World} (h : DrawnTo w w') (n : Nat) : DrawnTo w (w'.drewN n) := let ⟨m, e⟩ := h; ⟨m + n, by rw [e, World.drewN_drewN]⟩
theorem DrawnTo.trans {a b c : World} (h : DrawnTo a b) (k : DrawnTo b c) : DrawnTo a c := by
  obtain ⟨m, rfl⟩ := h
  obtain ⟨n, rfl⟩ := k
  exact ⟨m + n, World.drewN_drewN ..⟩
theorem DrawnTo.cell {w w' : World} (h : DrawnTo w w') {a : Addr} {v : Value} (hc : w.cell? a = some v) : w'.cell? a = some v := by
  obtain ⟨m, rfl⟩ := h; exact hc
theorem DrawnTo.below {w w' : World} (h : DrawnTo w w') : Below w.heap.size w w' := by
  obtain ⟨m, rfl⟩ := h; exact below_drewN w m

/-- the slice 'A, n' reads as the cells xs (size cells each element) -/
def Cells (w : World) (size : Nat) (A : Option Addr) (n : Nat) (xs : List Value) : Prop :=
  xs.length = n * size ∧ (0 < xs.length → ∃ ad : Addr, A = some ad ∧ ∀ j u, xs[j]? = some u → w.cell? (ad.add j) = some u)

theorem Cells.below {w w' : World} {size n : Nat} {A : Option Addr} {xs : List Value} (h : Cells w size A n xs) (hb : Below w.heap.size w w') : Cells w' size A n xs :=
  ⟨h.1, fun hn => let ⟨ad, e, hc⟩ := h.2 hn; ⟨ad, e, fun j u hu => cell_below hb (hc j u hu)⟩⟩
theorem Cells.drewN {w : World} {size n : Nat} {A : Option Addr} {xs : List Value} (h : Cells w size A n xs) (m : Nat) : Cells (w.drewN m) size A n xs := h
theorem Cells.nil_ (w : World) (size : Nat) (A : Option Addr) : Cells w size A 0 [] := ⟨by simp, fun h => by simp at h⟩
theorem Cells.at_ {w : World} {n k : Nat} {A : Option Addr} {xs : List Value} (h : Cells w 1 A n xs) (hk : k < n) : ∃ ad u, A = some ad ∧ xs[k]? = some u ∧ w.cell? (ad.add k) = some u := by
  have hl : k < xs.length := by have := h.1; omega
  obtain ⟨ad, e, hc⟩ := h.2 (by omega)
  exact ⟨ad, xs[k], e, List.getElem?_eq_getElem hl, hc k _ (List.getElem?_eq_getElem hl)⟩
theorem Cells.of_own {w : World} {base size n c g : Nat} {e : TypeId} {xs : List Value} (h : w.ownsRow base e size (.slice (some ⟨g, 0, none⟩) n c) n xs) : Cells w size (some ⟨g, 0, none⟩) n xs :=
  ⟨h.1, fun _ => ⟨_, rfl, fun j u hu => h.cells (g := g) rfl j u hu⟩⟩

/-- a row that is filled from the left -/
def fill (a ys : List Value) (k : Nat) : List Value := a.take k ++ ys.drop k
theorem fill_zero (a ys : List Value) : fill a ys 0 = ys := by simp [fill]
theorem fill_all (a ys : List Value) (h : ys.length = a.length) : fill a ys a.length = a := by
  unfold fill; rw [List.take_of_length_le (Nat.le_refl _), ← h, List.drop_of_length_le (Nat.le_refl _), List.append_nil]
theorem fill_set (a ys : List Value) (k : Nat) (u : Value) (hk : k < ys.length) (hu : a[k]? = some u) : (fill a ys k).set k u = fill a ys (k + 1) := by
  have ha := (List.getElem?_eq_some_iff.1 hu).1
  have hau := (List.getElem?_eq_some_iff.1 hu).2
  unfold fill
  have hl : (a.take k).length = k := by rw [List.length_take]; omega
  rw [List.set_append_right _ _ (by omega), hl, Nat.sub_self, List.take_succ_eq_append_getElem ha, hau, List.drop_eq_getElem_cons hk, List.set_cons_zero, List.append_assoc]
  rfl
theorem fill_len (a ys : List Value) (k : Nat) (h : ys.length = a.length) : (fill a ys k).length = ys.length := by
  unfold fill; rw [List.length_append, List.length_take, List.length_drop]; omega

/-- the slice 'A, n' reads as the strings l -/
def Strs (w : World) (A : Option Addr) (n : Nat) (l : List ByteArray) : Prop := Cells w 1 A n (l.map Value.string)
theorem Strs.len {w : World} {A : Option Addr} {n : Nat} {l : List ByteArray} (h : Strs w A n l) : l.length = n := by have := h.1; simpa using this
theorem Strs.below {w w' : World} {A : Option Addr} {n : Nat} {l : List ByteArray} (h : Strs w A n l) (hb : Below w.heap.size w w') : Strs w' A n l := Cells.below h hb
theorem Strs.at_ {w : World} {A : Option Addr} {n k : Nat} {l : List ByteArray} (h : Strs w A n l) (hk : k < n) : ∃ ad x, A = some ad ∧ l[k]? = some x ∧ w.cell? (ad.add k) = some (.string x) := by
  obtain ⟨ad, u, e, hx, hc⟩ := Cells.at_ h hk
  rw [List.getElem?_map] at hx
  cases hl : l[k]? with
  | none => rw [hl] at hx; simp at hx
  | some x => rw [hl] at hx; obtain rfl : Value.string x = u := by simpa using hx
              exact ⟨ad, x, e, rfl, hc⟩

end Go.Proofs.YtpaakpbbahbhcaaDoor.Rowed
