/- Words for a table that a call makes and fills from the left, cell by cell, each cell out of those ahead of it. No condition. -/
import Derived.Test.YtmbfekfpahlmfaaHelpInt
namespace Go.Proofs.Ytmbfekfpahlmfaa.Table
set_option linter.unusedVariables false
open Go.RowKit
open Go.Proofs.Ytmbfekfpahlmfaa.Rowed Go.Proofs.Ytmbfekfpahlmfaa.HelpInt

/-- the table at block g has m cells, those below v hold what T says; nothing of w has turned -/
structure TabRow (E : TypeId) (w : World) (g m : Nat) (T : Nat → Value) (v : Nat) (wr : World) : Prop where
  row : ∃ xs, wr.ownsRow w.heap.size E 1 (.slice (some ⟨g, 0, none⟩) m m) m xs ∧ ∀ u, u < v → xs[u]? = some (T u)
  bel : Below w.heap.size w wr
/-- .. and the cell at v holds t -/
structure TabIn (E : TypeId) (w : World) (g m : Nat) (T : Nat → Value) (v : Nat) (t : Value) (wr : World) : Prop where
  row : ∃ xs, wr.ownsRow w.heap.size E 1 (.slice (some ⟨g, 0, none⟩) m m) m xs ∧ (∀ u, u < v → xs[u]? = some (T u)) ∧ xs[v]? = some t
  bel : Below w.heap.size w wr
section
variable {E : TypeId} {w wr : World} {g m v : Nat} {T : Nat → Value} {t : Value}
theorem TabRow.spot (h : TabRow E w g m T v wr) (hv : v < m) : ∃ y, wr.cell? ⟨g, v, none⟩ = some y ∧ wr.frozen? ⟨g, v, none⟩ = false := by
  obtain ⟨xs, hO, _⟩ := h.row
  have hl := hO.1
  exact ⟨_, (hO.cellAt v (by omega)).trans (List.getElem?_eq_getElem (by omega)), hO.frozenAt v⟩
theorem TabRow.store (h : TabRow E w g m T v wr) (hv : v < m) (t : Value) : TabIn E w g m T v t (wr.setCell ⟨g, v, none⟩ t) := by
  obtain ⟨xs, hO, hx⟩ := h.row
  have hl := hO.1
  refine ⟨⟨_, (hO.stored v t).1, fun u hu => ?_, ?_⟩, h.bel.setCell (hO.lt g rfl).1 _⟩
  · rw [List.getElem?_set_ne (by omega)]; exact hx u hu
  · rw [List.getElem?_set_self (by omega)]
theorem TabRow.read (h : TabRow E w g m T v wr) {u : Nat} (hu : u < v) (hv : v ≤ m) : wr.cell? ⟨g, u, none⟩ = some (T u) := by
  obtain ⟨xs, hO, hx⟩ := h.row
  exact (hO.cellAt u (by omega)).trans (hx u hu)
theorem TabIn.spot (h : TabIn E w g m T v t wr) (hv : v < m) : wr.cell? ⟨g, v, none⟩ = some t ∧ wr.frozen? ⟨g, v, none⟩ = false := by
  obtain ⟨xs, hO, _, hx⟩ := h.row
  exact ⟨(hO.cellAt v (by omega)).trans hx, hO.frozenAt v⟩
theorem TabIn.read (h : TabIn E w g m T v t wr) {u : Nat} (hu : u < v) (hv : v < m) : wr.cell? ⟨g, u, none⟩ = some (T u) := by
  obtain ⟨xs, hO, hx, _⟩ := h.row
  exact (hO.cellAt u (by omega)).trans (hx u hu)
theorem TabIn.store (h : TabIn E w g m T v t wr) (hv : v < m) (t' : Value) : TabIn E w g m T v t' (wr.setCell ⟨g, v, none⟩ t') := by
  obtain ⟨xs, hO, hx, _⟩ := h.row
  have hl := hO.1
  refine ⟨⟨_, (hO.stored v t').1, fun u hu => ?_, ?_⟩, h.bel.setCell (hO.lt g rfl).1 _⟩
  · rw [List.getElem?_set_ne (by omega)]; exact hx u hu
  · rw [List.getElem?_set_self (by omega)]
theorem TabIn.next {w1 : World} (h : TabIn E w g m T v t wr) (hb : Below wr.heap.size wr w1) : TabIn E w g m T v t w1 := by
  obtain ⟨xs, hO, hx⟩ := h.row
  exact ⟨⟨xs, own_below hO hb, hx⟩, Below.step h.bel hb⟩
theorem TabRow.next {w1 : World} (h : TabRow E w g m T v wr) (hb : Below wr.heap.size wr w1) : TabRow E w g m T v w1 := by
  obtain ⟨xs, hO, hx⟩ := h.row
  exact ⟨⟨xs, own_below hO hb, hx⟩, Below.step h.bel hb⟩
theorem TabIn.done (h : TabIn E w g m T v t wr) (ht : t = T v) : TabRow E w g m T (v + 1) wr := by
  obtain ⟨xs, hO, hx, hv⟩ := h.row
  refine ⟨⟨xs, hO, fun u hu => ?_⟩, h.bel⟩
  by_cases e : u = v
  · subst e; rw [hv, ht]
  · exact hx u (by omega)
theorem TabRow.start (h : wr.ownsRow w.heap.size E 1 (.slice (some ⟨g, 0, none⟩) m m) m ((madeCells #[t] (m * 1)).toList)) (hg : w.grownBy wr none) (hm : 0 < m) (ht : t = T 0) : TabRow E w g m T 1 wr := by
  refine ⟨⟨_, h, fun u hu => ?_⟩, (Below.refl _ _).grown hg (Nat.le_refl _) (by simp)⟩
  obtain rfl : u = 0 := by omega
  rw [toList_madeCells_one, Nat.mul_one, List.getElem?_replicate, if_pos hm, ht]
theorem TabRow.startAll {w0 : World} (hb : Below w.heap.size w w0) (h : wr.ownsRow w.heap.size E 1 (.slice (some ⟨g, 0, none⟩) m m) m ((madeCells #[t] (m * 1)).toList)) (hg : w0.grownBy wr none) : TabRow E w g m (fun _ => t) m wr := by
  refine ⟨⟨_, h, fun u hu => ?_⟩, hb.grown hg hb.size (by simp)⟩
  rw [toList_madeCells_one, Nat.mul_one, List.getElem?_replicate, if_pos hu]
theorem TabRow.congr {T' : Nat → Value} (h : TabRow E w g m T v wr) (he : ∀ u, u < v → T u = T' u) : TabRow E w g m T' v wr := by
  obtain ⟨xs, hO, hx⟩ := h.row
  exact ⟨⟨xs, hO, fun u hu => by rw [hx u hu, he u hu]⟩, h.bel⟩
theorem TabRow.set (h : TabRow E w g m T m wr) {q : Nat} (hq : q < m) (t : Value) : TabRow E w g m (fun u => if u = q then t else T u) m (wr.setCell ⟨g, q, none⟩ t) := by
  obtain ⟨xs, hO, hx⟩ := h.row
  have hl := hO.1
  refine ⟨⟨_, (hO.stored q t).1, fun u hu => ?_⟩, h.bel.setCell (hO.lt g rfl).1 _⟩
  by_cases e : u = q
  · subst e; rw [List.getElem?_set_self (by omega)]; simp
  · rw [List.getElem?_set_ne (by omega), hx u hu]; simp [e]
theorem TabRow.full (h : TabRow E w g m T m wr) {q : Nat} (hq : q < m) : wr.cell? ⟨g, q, none⟩ = some (T q) ∧ wr.frozen? ⟨g, q, none⟩ = false := by
  obtain ⟨xs, hO, hx⟩ := h.row
  exact ⟨(hO.cellAt q (by omega)).trans (hx q hq), hO.frozenAt q⟩
end
end Go.Proofs.Ytmbfekfpahlmfaa.Table
