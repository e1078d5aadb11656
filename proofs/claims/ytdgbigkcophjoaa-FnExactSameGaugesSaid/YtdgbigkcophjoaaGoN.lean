/- Rows of rows: a row of slices, each of which is a row of its own, all apart from each other. No condition. -/
import Derived.Test.YtdgbigkcophjoaaGoM
import Derived.Test.YtdgbigkcophjoaaGoK
namespace Go.Proofs.Ytdgbigkcophjoaa.GoN
set_option linter.unusedVariables false
open Go.RowKit
open Go.Proofs.Ytdgbigkcophjoaa.Rowed Go.Proofs.Ytdgbigkcophjoaa.Turn Go.Proofs.Ytdgbigkcophjoaa.GoM Go.Proofs.Ytdgbigkcophjoaa.GoK

/-- the cells of a row of slices whose headers are hs -/
def heads {F : Type} (l : List (List F)) (hs : List (Option Addr × Nat)) : List Value := (l.zip hs).map fun p => Value.slice p.2.1 p.1.length p.2.2
/-- l, laid as rows of its own; B: where they lie -/
def OwnNest {F : Type} (w : World) (b T rT rK : Nat) (f : List F → List Value) (A : Option Addr) (c : Nat) (l : List (List F)) (B : List (Option Addr)) : Prop :=
  ∃ hs : List (Option Addr × Nat), hs.length = l.length ∧ w.ownsRow b T 1 (.slice A l.length c) l.length (heads l hs) ∧
    (∀ (i : Nat) x h, l[i]? = some x → hs[i]? = some h → w.ownsRow b rT rK (.slice h.1 x.length h.2) x.length (f x)) ∧ B = A :: hs.map (·.1) ∧ B.Pairwise Apart
/-- l reads as rows -/
def ReadNest {F : Type} (w : World) (rK : Nat) (f : List F → List Value) (A : Option Addr) (l : List (List F)) : Prop :=
  ∃ hs : List (Option Addr × Nat), hs.length = l.length ∧ Cells w 1 A l.length (heads l hs) ∧
    ∀ (i : Nat) x h, l[i]? = some x → hs[i]? = some h → Cells w rK h.1 x.length (f x) ∧ Room h.1 x.length h.2 ∧ x.length ≤ 9223372036854775807

section
variable {F : Type} {w w' : World} {b T rT rK c : Nat} {f : List F → List Value} {A : Option Addr} {l : List (List F)} {B : List (Option Addr)}

theorem nest_below (h : OwnNest w b T rT rK f A c l B) (hb : Below w.heap.size w w') : OwnNest w' b T rT rK f A c l B := by
  obtain ⟨hs, h1, h2, h3, h4, h5⟩ := h
  exact ⟨hs, h1, own_below h2 hb, fun i x h hx hh => own_below (h3 i x h hx hh) hb, h4, h5⟩
/-- another row is written -/
theorem nest_other {n' c' : Nat} {A' : Option Addr} (h : OwnNest w b T rT rK f A c l B) (hg : w.grownBy w' (Value.slice A' n' c').ownBlock) (hD : ∀ x ∈ B, Apart A' x) : OwnNest w' b T rT rK f A c l B := by
  obtain ⟨hs, h1, h2, h3, h4, h5⟩ := h
  subst h4
  refine ⟨hs, h1, own_other h2 hg (hD _ (by simp)), fun i x h hx hh => own_other (h3 i x h hx hh) hg (hD _ ?_), rfl, h5⟩
  exact List.mem_cons_of_mem _ (List.mem_map.2 ⟨h, List.mem_of_getElem? hh, rfl⟩)
theorem nest_lt (h : OwnNest w b T rT rK f A c l B) : ∀ x ∈ B, ∀ a, x = some a → b ≤ a.block ∧ a.block < w.heap.size := by
  obtain ⟨hs, h1, h2, h3, rfl, h5⟩ := h
  intro x hx a ha
  rcases List.mem_cons.1 hx with rfl | hx
  · exact own_lt h2 a ha
  · obtain ⟨h, hh, rfl⟩ := List.mem_map.1 hx
    obtain ⟨i, hi⟩ := List.getElem?_of_mem hh
    have hil := (List.getElem?_eq_some_iff.1 hi).1
    exact own_lt (h3 i l[i] h (List.getElem?_eq_getElem (by omega)) hi) a ha
/-- what is laid now is apart from all of it -/
theorem nest_fresh (h : OwnNest w b T rT rK f A c l B) : ∀ x ∈ B, Apart (some ⟨w.heap.size, 0, none⟩) x := by
  intro x hx a a' ha ha' e
  have := (nest_lt h x hx a' ha').2
  injection ha with ha
  subst ha
  simp at e
  omega
theorem nest_call {w1 : World} {T' K' n m c' : Nat} {A' : Option Addr} {xs : List Value} (h1 : w1.ownsRow w.heap.size T' K' (.slice A' m c') n xs) (h : OwnNest w b T rT rK f A c l B) : ∀ x ∈ B, Apart A' x := by
  intro x hx a a' ha ha' e
  have := (nest_lt h x hx a' ha').2
  have := (own_lt h1 a ha).1
  omega
theorem nest_empty {wc : World} (h : b ≤ wc.heap.size) : OwnNest (wc.alloc (.cells #[] T)) b T rT rK f (some ⟨wc.heap.size, 0, none⟩) 0 ([] : List (List F)) [some ⟨wc.heap.size, 0, none⟩] :=
  ⟨[], rfl, ⟨by simp [heads], .inr ⟨wc.heap.size, 0, #[], rfl, h, heap_alloc_new wc _, Nat.le_refl _, by unfold maxLen; omega, by simp, by simp [heads]⟩⟩, fun i x h hx _ => by simp at hx, rfl, by simp⟩
theorem heads_at {hs : List (Option Addr × Nat)} {i : Nat} {x : List F} {h : Option Addr × Nat} (hx : l[i]? = some x) (hh : hs[i]? = some h) : (heads l hs)[i]? = some (.slice h.1 x.length h.2) := by
  unfold heads
  rw [List.getElem?_map, (List.getElem?_zip_eq_some (z := (x, h))).2 ⟨hx, hh⟩]; rfl
theorem heads_len {hs : List (Option Addr × Nat)} (h : hs.length = l.length) : (heads l hs).length = l.length := by unfold heads; rw [List.length_map, List.length_zip]; omega
theorem nest_read (h : OwnNest w b T rT rK f A c l B) : ReadNest w rK f A l := by
  obtain ⟨hs, h1, h2, h3, h4, h5⟩ := h
  exact ⟨hs, h1, own_cells h2, fun i x h hx hh => ⟨own_cells (h3 i x h hx hh), own_room (h3 i x h hx hh), own_max (h3 i x h hx hh)⟩⟩
theorem read_below (h : ReadNest w rK f A l) (hb : Below w.heap.size w w') : ReadNest w' rK f A l := by
  obtain ⟨hs, h1, h2, h3⟩ := h
  exact ⟨hs, h1, Cells.below h2 hb, fun i x h hx hh => ⟨Cells.below (h3 i x h hx hh).1 hb, (h3 i x h hx hh).2⟩⟩
/-- the slice at k -/
theorem nest_at {k : Nat} (h : ReadNest w rK f A l) (hk : k < l.length) : ∃ (bb o : Nat) (x : List F) (A1 : Option Addr) (c1 : Nat), A = some ⟨bb, o, none⟩ ∧ l[k]? = some x ∧ w.cell? ⟨bb, o + k, none⟩ = some (.slice A1 x.length c1) ∧
    Cells w rK A1 x.length (f x) ∧ Room A1 x.length c1 ∧ x.length ≤ 9223372036854775807 := by
  obtain ⟨hs, h1, h2, h3⟩ := h
  have hx := List.getElem?_eq_getElem hk
  have hh := List.getElem?_eq_getElem (show k < hs.length by omega)
  obtain ⟨⟨bb, o, sp⟩, e, hc⟩ := h2.2 (by rw [heads_len h1]; omega)
  have h0 := hc 0 _ (heads_at (List.getElem?_eq_getElem (show 0 < l.length by omega)) (List.getElem?_eq_getElem (show 0 < hs.length by omega)))
  obtain rfl : sp = none := cell_spot (b := bb) (o := o) h0
  have h4 := hc k _ (heads_at hx hh)
  rw [add_flat] at h4
  obtain ⟨r1, r2, r3⟩ := h3 k _ _ hx hh
  exact ⟨bb, o, l[k], hs[k].1, hs[k].2, e, hx, h4, r1, r2, r3⟩
/-- one row more, behind an append of its header -/
theorem nest_push {n' c' cx : Nat} {v' : Value} {Ax : Option Addr} {x : List F} {hs : List (Option Addr × Nat)} (h1 : hs.length = l.length)
    (h3 : ∀ (i : Nat) y h, l[i]? = some y → hs[i]? = some h → w'.ownsRow b rT rK (.slice h.1 y.length h.2) y.length (f y)) (hx : w'.ownsRow b rT rK (.slice Ax x.length cx) x.length (f x))
    (ho : w'.ownsRow b T 1 v' (l.length + 1) (heads l hs ++ [.slice Ax x.length cx])) (hp : (hs.map (·.1) ++ [Ax]).Pairwise Apart) (hv : ∀ a, v'.ownBlock = some a → ∀ y ∈ hs.map (·.1) ++ [Ax], ∀ a', y = some a' → a'.block ≠ a) :
    ∃ g cap, v' = .slice (some ⟨g, 0, none⟩) (l ++ [x]).length cap ∧ OwnNest w' b T rT rK f (some ⟨g, 0, none⟩) cap (l ++ [x]) (some ⟨g, 0, none⟩ :: (hs.map (·.1) ++ [Ax])) := by
  obtain ⟨g, cap, rfl⟩ : ∃ g cap, v' = .slice (some ⟨g, 0, none⟩) (l.length + 1) cap := by
    rcases ho.2 with ⟨_, h⟩ | ⟨g3, cap3, _, h, _⟩
    · omega
    · exact ⟨g3, cap3, h⟩
  have el : (l ++ [x]).length = l.length + 1 := by simp
  refine ⟨g, cap, by rw [el], hs ++ [(Ax, cx)], by simp [h1], ?_, ?_, by simp, ?_⟩
  · rw [el]
    have e : heads (l ++ [x]) (hs ++ [(Ax, cx)]) = heads l hs ++ [.slice Ax x.length cx] := by unfold heads; rw [List.zip_append h1.symm]; simp
    rw [e]; exact ho
  · intro i y h hy hh
    by_cases hi : i < l.length
    · rw [List.getElem?_append_left hi] at hy
      rw [List.getElem?_append_left (by omega)] at hh
      exact h3 i y h hy hh
    · have hi2 := (List.getElem?_eq_some_iff.1 hy).1
      rw [el] at hi2
      obtain rfl : i = l.length := by omega
      rw [List.getElem?_append_right (Nat.le_refl _)] at hy
      rw [List.getElem?_append_right (by omega)] at hh
      simp [h1] at hy hh
      subst hy
      subst hh
      exact hx
  · rw [List.pairwise_cons]
    refine ⟨fun y hy a a' ha ha' e => ?_, hp⟩
    injection ha with ha
    subst ha
    exact hv g rfl y hy a' ha' e.symm
theorem nest_head (h : OwnNest w b T rT rK f A c l B) : A ∈ B := by
  obtain ⟨hs, h1, h2, h3, rfl, h5⟩ := h
  simp
theorem nest_lower {b' : Nat} (h : OwnNest w b T rT rK f A c l B) (hb : b' ≤ b) : OwnNest w b' T rT rK f A c l B := by
  obtain ⟨hs, h1, h2, h3, h4, h5⟩ := h
  exact ⟨hs, h1, own_lower h2 hb, fun i x h hx hh => own_lower (h3 i x h hx hh) hb, h4, h5⟩
/-- what a call has laid lies apart from a row that was there -/
theorem nest_callrow {w1 : World} {b' T' K' n m c' : Nat} {A' : Option Addr} {xs : List Value} (h1 : OwnNest w1 w.heap.size T rT rK f A c l B) (h : w.ownsRow b' T' K' (.slice A' m c') n xs) : ∀ x ∈ B, Apart A' x := by
  intro x hx a a' ha ha' e
  have := (nest_lt h1 x hx a' ha').1
  have := (own_lt h a ha).2
  omega
theorem nest_callbox {w1 : World} {g j : Nat} {v : Value} (h1 : OwnNest w1 w.heap.size T rT rK f A c l B) (h : w.cell? ⟨g, j, none⟩ = some v) : ∀ x ∈ B, Apart (some ⟨g, 0, none⟩) x := by
  intro x hx a a' ha ha' e
  have := (nest_lt h1 x hx a' ha').1
  have hl : g < w.heap.size := cell_lt h
  injection ha with ha
  subst ha
  simp at e
  omega
theorem nest_callnest {F' : Type} {w1 : World} {b' T' rT' rK' c' : Nat} {f' : List F' → List Value} {A' : Option Addr} {l' : List (List F')} {B' : List (Option Addr)} (h1 : OwnNest w1 w.heap.size T rT rK f A c l B) (h : OwnNest w b' T' rT' rK' f' A' c' l' B') :
    ∀ x ∈ B, ∀ y ∈ B', Apart x y := by
  intro x hx y hy a a' ha ha' e
  have := (nest_lt h1 x hx a ha).1
  have := (nest_lt h y hy a' ha').2
  omega
theorem nest_flip {B B' : List (Option Addr)} (h : ∀ x ∈ B, ∀ y ∈ B', Apart x y) : ∀ y ∈ B', ∀ x ∈ B, Apart y x := fun y hy x hx => (h x hx y hy).symm
/-- the row at k -/
theorem nest_own {k : Nat} (h : OwnNest w b T rT rK f A c l B) (hk : k < l.length) : ∃ (g : Nat) (x : List F) (A1 : Option Addr) (c1 : Nat), A = some ⟨g, 0, none⟩ ∧ l[k]? = some x ∧ w.cell? ⟨g, k, none⟩ = some (.slice A1 x.length c1) ∧
    w.ownsRow b rT rK (.slice A1 x.length c1) x.length (f x) ∧ A1 ∈ B ∧ Apart A A1 := by
  obtain ⟨hs, h1, h2, h3, rfl, h5⟩ := h
  have hx := List.getElem?_eq_getElem hk
  have hh := List.getElem?_eq_getElem (show k < hs.length by omega)
  obtain ⟨g, rfl⟩ := own_some h2 (by omega)
  obtain ⟨ad, e, hc⟩ := (own_cells h2).2 (by rw [heads_len h1]; omega)
  obtain rfl := Option.some.inj e
  have h4 := hc k _ (heads_at hx hh)
  rw [add_flat, Nat.zero_add] at h4
  have hm : hs[k].1 ∈ hs.map (·.1) := List.mem_map.2 ⟨hs[k], List.getElem_mem _, rfl⟩
  exact ⟨g, l[k], hs[k].1, hs[k].2, rfl, hx, h4, h3 k _ _ hx hh, List.mem_cons_of_mem _ hm, (List.pairwise_cons.1 h5).1 _ hm⟩
/-- a row in it has been written -/
theorem nest_store {k g n' c' : Nat} {x x' : List F} {A1 : Option Addr} {c1 : Nat} (h : OwnNest w b T rT rK f (some ⟨g, 0, none⟩) c l B) (hk : l[k]? = some x) (hcell : w.cell? ⟨g, k, none⟩ = some (.slice A1 x.length c1))
    (hx : w'.ownsRow b rT rK (.slice A1 n' c1) n' (f x')) (hn : x'.length = n') (hn2 : x.length = n') (hg : w.grownBy w' (Value.slice A1 n' c').ownBlock) : OwnNest w' b T rT rK f (some ⟨g, 0, none⟩) c (l.set k x') B := by
  subst hn
  obtain ⟨hs, h1, h2, h3, rfl, h5⟩ := h
  have hkl := (List.getElem?_eq_some_iff.1 hk).1
  have hh := List.getElem?_eq_getElem (show k < hs.length by omega)
  obtain ⟨ad, e, hc⟩ := (own_cells h2).2 (by rw [heads_len h1]; omega)
  obtain rfl := Option.some.inj e
  have h4 := hc k _ (heads_at hk hh)
  rw [add_flat, Nat.zero_add, hcell] at h4
  have h4' := Option.some.inj h4
  simp only [Value.slice.injEq] at h4'
  obtain ⟨e1, _, e2⟩ := h4'
  subst e1
  have hap := List.pairwise_cons.1 h5
  have hmk : hs[k].1 ∈ hs.map (·.1) := List.mem_map.2 ⟨hs[k], List.getElem_mem _, rfl⟩
  refine ⟨hs, by rw [List.length_set]; exact h1, ?_, ?_, rfl, h5⟩
  · have e3 : heads (l.set k x') hs = heads l hs := by
      apply List.ext_getElem?
      intro i
      unfold heads
      rw [List.getElem?_map, List.getElem?_map]
      by_cases hi : i < l.length
      · have hi2 : i < hs.length := by omega
        by_cases hik : k = i
        · subst hik
          rw [(List.getElem?_zip_eq_some (z := (x', hs[k]))).2 ⟨by rw [List.getElem?_set_self hkl], hh⟩, (List.getElem?_zip_eq_some (z := (x, hs[k]))).2 ⟨hk, hh⟩]
          simp [hn2]
        · rw [(List.getElem?_zip_eq_some (z := (l[i], hs[i]))).2 ⟨by rw [List.getElem?_set_ne hik]; exact List.getElem?_eq_getElem hi, List.getElem?_eq_getElem hi2⟩,
            (List.getElem?_zip_eq_some (z := (l[i], hs[i]))).2 ⟨List.getElem?_eq_getElem hi, List.getElem?_eq_getElem hi2⟩]
      · rw [List.getElem?_eq_none (by rw [List.length_zip, List.length_set]; omega), List.getElem?_eq_none (by rw [List.length_zip]; omega)]
    rw [e3, List.length_set]
    refine own_other h2 hg ?_
    exact (hap.1 _ hmk).symm
  · intro i y h hy hhi
    by_cases hik : k = i
    · subst hik
      rw [List.getElem?_set_self hkl] at hy
      obtain rfl := Option.some.inj hy
      obtain rfl := Option.some.inj (hh.symm.trans hhi)
      rw [← e2]
      exact hx
    · rw [List.getElem?_set_ne hik] at hy
      refine own_other (h3 i y h hy hhi) hg ?_
      have hi2 := (List.getElem?_eq_some_iff.1 hhi).1
      have hp := List.pairwise_iff_getElem.1 hap.2
      have ei : h = hs[i] := by rw [List.getElem?_eq_getElem hi2] at hhi; exact (Option.some.inj hhi).symm
      rw [ei]
      rcases Nat.lt_or_gt_of_ne hik with h6 | h6
      · have := hp k i (by rw [List.length_map]; omega) (by rw [List.length_map]; omega) h6
        simpa using this
      · have := hp i k (by rw [List.length_map]; omega) (by rw [List.length_map]; omega) h6
        simpa using this.symm
/-- what lies in B' : what lay in B, the row at Ax, and the headers, where they were or behind all -/
def Pushed (w : World) (A Ax : Option Addr) (B B' : List (Option Addr)) : Prop := A ∈ B ∧ Ax ∈ B' ∧ ∀ y ∈ B', y ∈ B ∨ y = Ax ∨ From w A y
theorem apart_push {R Ax : Option Addr} {B' : List (Option Addr)} (hD : ∀ y ∈ B, Apart R y) (hx : Apart R Ax) (hR : ∀ a, R = some a → a.block < w.heap.size) (h : Pushed w A Ax B B') : ∀ y ∈ B', Apart R y := by
  intro y hy
  rcases h.2.2 y hy with h1 | rfl | h1
  · exact hD y h1
  · exact hx
  · exact (apart_from (hD A h.1).symm hR h1).symm
theorem apart_pushN {Ax : Option Addr} {B' C : List (Option Addr)} (hD : ∀ r ∈ C, ∀ y ∈ B, Apart r y) (hx : ∀ r ∈ C, Apart Ax r) (hR : ∀ r ∈ C, ∀ a, r = some a → a.block < w.heap.size) (h : Pushed w A Ax B B') : ∀ r ∈ C, ∀ y ∈ B', Apart r y :=
  fun r hr => apart_push (hD r hr) (hx r hr).symm (hR r hr) h
/-- append(rows, row): the row is in the nest from here on, and reads as before -/
theorem nest_app {n' c' : Nat} {v' : Value} {Ax : Option Addr} {cx : Nat} {x : List F} {hs : List (Option Addr × Nat)} {l' : List (List F)} (hl' : l ++ [x] = l') (h1 : hs.length = l.length) (h4 : B = A :: hs.map (·.1))
    (h3 : ∀ (i : Nat) y h, l[i]? = some y → hs[i]? = some h → w.ownsRow b rT rK (.slice h.1 y.length h.2) y.length (f y)) (h5 : B.Pairwise Apart) (hx : w.ownsRow b rT rK (.slice Ax x.length cx) x.length (f x))
    (hD : ∀ y ∈ B, Apart Ax y) (hg : w.grownBy w' (Value.slice A n' c').ownBlock) (ho : w'.ownsRow b T 1 v' (l.length + 1) (heads l hs ++ [.slice Ax x.length cx]))
    (hy : v'.ownBlock = (Value.slice A n' c').ownBlock ∨ v'.ownBlock = some w.heap.size) :
    ∃ g cap B', v' = .slice (some ⟨g, 0, none⟩) l'.length cap ∧ OwnNest w' b T rT rK f (some ⟨g, 0, none⟩) cap l' B' ∧ Pushed w A Ax B B' ∧ w'.ownsRow b rT rK (.slice Ax x.length cx) x.length (f x) := by
  subst hl'
  subst h4
  have hp := List.pairwise_cons.1 h5
  have hx' := own_other hx hg (hD A (by simp)).symm
  have hlt : ∀ y ∈ hs.map (·.1) ++ [Ax], ∀ a, y = some a → a.block < w.heap.size := by
    intro y hy a ha
    rcases List.mem_append.1 hy with hy | hy
    · obtain ⟨h, hh, rfl⟩ := List.mem_map.1 hy
      obtain ⟨i, hi⟩ := List.getElem?_of_mem hh
      have hil := (List.getElem?_eq_some_iff.1 hi).1
      exact (own_lt (h3 i l[i] h (List.getElem?_eq_getElem (by omega)) hi) a ha).2
    · simp at hy; subst hy; exact (own_lt hx a ha).2
  obtain ⟨g, cap, e, hN⟩ := nest_push (c' := c') (n' := n') h1 (fun i y h hy hh => own_other (h3 i y h hy hh) hg (hp.1 _ (List.mem_map.2 ⟨h, List.mem_of_getElem? hh, rfl⟩))) hx' ho
    (List.pairwise_append.2 ⟨hp.2, by simp, fun a ha b hb => by simp at hb; subst hb; exact (hD a (List.mem_cons_of_mem _ ha)).symm⟩)
    (by
      intro a ha y hy a' ha' e
      rcases hy with hy
      rcases ‹v'.ownBlock = _ ∨ _› with h6 | h6
      · rw [ha] at h6
        cases hA : A with
        | none => rw [hA] at h6; simp [Value.ownBlock] at h6
        | some z =>
          rw [hA] at h6
          simp only [Value.ownBlock, Option.some.injEq] at h6
          rcases List.mem_append.1 hy with hy | hy
          · exact hp.1 y hy z a' hA ha' (by omega)
          · simp at hy; subst hy; exact hD A (by simp) a' z ha' hA (by omega)
      · rw [ha] at h6
        have := hlt y hy a' ha'
        simp only [Option.some.injEq] at h6; omega)
  refine ⟨g, cap, _, e, hN, ⟨by simp, by simp, ?_⟩, hx'⟩
  intro y hy
  rcases List.mem_cons.1 hy with rfl | hy
  · right; right
    rw [e] at ‹v'.ownBlock = _ ∨ _›
    intro a' ha'
    injection ha' with ha'
    subst ha'
    rcases ‹_ ∨ _› with h6 | h6
    · left
      cases hA : A with
      | none => rw [hA] at h6; simp [Value.ownBlock] at h6
      | some z => rw [hA] at h6; simp only [Value.ownBlock, Option.some.injEq] at h6; exact ⟨z, rfl, h6.symm⟩
    · right; simp only [Value.ownBlock, Option.some.injEq] at h6; exact Nat.le_of_eq h6.symm
  · rcases List.mem_append.1 hy with hy | hy
    · exact .inl (List.mem_cons_of_mem _ hy)
    · simp at hy; exact .inr (.inl hy)
theorem nest_one {X R : Option Addr} (h : Apart X R) : ∀ y ∈ [X], Apart R y := by
  intro y hy
  simp at hy
  subst hy
  exact h.symm
theorem nest_max (h : OwnNest w b T rT rK f A c l B) : l.length ≤ 9223372036854775807 := by
  obtain ⟨hs, h1, h2, h3, h4, h5⟩ := h
  exact own_max h2
theorem nest_room (h : OwnNest w b T rT rK f A c l B) : Room A l.length c := by
  obtain ⟨hs, h1, h2, h3, h4, h5⟩ := h
  exact own_room h2
/-- w' is w but for what lies in B, and for new blocks -/
structure GrownN (w w' : World) (B : List (Option Addr)) : Prop where
  os : w'.os = w.os
  tape : w'.tape = w.tape
  output : w'.output = w.output
  size : w.heap.size ≤ w'.heap.size
  block : ∀ k, k < w.heap.size → (∀ y ∈ B, ∀ a, y = some a → a.block ≠ k) → w'.heap[k]? = w.heap[k]?
theorem grownN_refl (w : World) (B : List (Option Addr)) : GrownN w w B := ⟨rfl, rfl, rfl, Nat.le_refl _, fun _ _ _ => rfl⟩
theorem grownN_below {wr w2 : World} {B : List (Option Addr)} (h : GrownN w wr B) (hb : Below wr.heap.size wr w2) : GrownN w w2 B :=
  ⟨hb.os.trans h.os, hb.tape.trans h.tape, hb.output.trans h.output, Nat.le_trans h.size hb.size, fun k hk h1 => (hb.block k (Nat.lt_of_lt_of_le hk h.size)).trans (h.block k hk h1)⟩
theorem grownN_row {wr w2 : World} {B : List (Option Addr)} {n c' : Nat} {A1 : Option Addr} (h : GrownN w wr B) (hg : wr.grownBy w2 (Value.slice A1 n c').ownBlock) (hm : A1 ∈ B) : GrownN w w2 B :=
  ⟨hg.os.trans h.os, hg.tape.trans h.tape, hg.output.trans h.output, Nat.le_trans h.size hg.size, fun k hk h1 => (hg.block k (Nat.lt_of_lt_of_le hk h.size) (by
    cases hA : A1 with
    | none => simp [Value.ownBlock]
    | some a => simp only [Value.ownBlock, ne_eq, Option.some.injEq]; exact fun e => h1 _ hm a hA e.symm)).trans (h.block k hk h1)⟩
theorem below_nest {wr w2 : World} {B0 : Nat} {B : List (Option Addr)} (h : Below B0 w wr) (hg : GrownN wr w2 B) (hB : B0 ≤ wr.heap.size) (h1 : ∀ y ∈ B, ∀ a, y = some a → B0 ≤ a.block ∧ a.block < wr.heap.size) : Below B0 w w2 :=
  ⟨hg.os.trans h.os, hg.tape.trans h.tape, hg.output.trans h.output, Nat.le_trans h.size hg.size, fun k hk => (hg.block k (Nat.lt_of_lt_of_le hk hB) (fun y hy a e e2 => by have := (h1 y hy a e).1; omega)).trans (h.block k hk)⟩
theorem own_otherN {b' T' K' n m c' : Nat} {R : Option Addr} {ys : List Value} (h : w.ownsRow b' T' K' (.slice R m c') n ys) (hg : GrownN w w' B) (hD : ∀ y ∈ B, Apart R y) : w'.ownsRow b' T' K' (.slice R m c') n ys := by
  refine ⟨h.1, ?_⟩
  rcases h.2 with hn | ⟨g, cap, cur, hv, hb, hgg, rest⟩
  · exact .inl hn
  · have hlt := (h.lt g (by rw [hv]; rfl)).2
    have hR : R = some ⟨g, 0, none⟩ := by simp only [Value.slice.injEq] at hv; exact hv.1
    refine .inr ⟨g, cap, cur, hv, hb, ?_, rest⟩
    rw [hg.block g hlt (fun y hy a e e2 => hD y hy _ a hR e e2.symm)]
    exact hgg
theorem cell_otherN {a : Addr} {v : Value} (h : w.cell? a = some v) (hg : GrownN w w' B) (hD : ∀ y ∈ B, Apart (some ⟨a.block, 0, none⟩) y) : w'.cell? a = some v := by
  rw [World.cell?_of_block (hg.block a.block (cell_lt h) (fun y hy x e e2 => hD y hy _ x rfl e e2.symm))]
  exact h
theorem apart_oldN {wr : World} {b' g : Nat} (h : OwnNest wr b' T rT rK f A c l B) (hg : g < b') : ∀ y ∈ B, Apart (some ⟨g, 0, none⟩) y := by
  intro y hy a a' ha ha' e
  have := (nest_lt h y hy a' ha').1
  injection ha with ha
  subst ha
  simp at e
  omega
theorem nest_otherN {F' : Type} {b' T' rT' rK' c' : Nat} {f' : List F' → List Value} {A' : Option Addr} {l' : List (List F')} {B' : List (Option Addr)} (h : OwnNest w b' T' rT' rK' f' A' c' l' B') (hg : GrownN w w' B) (hD : ∀ x ∈ B', ∀ y ∈ B, Apart x y) : OwnNest w' b' T' rT' rK' f' A' c' l' B' := by
  obtain ⟨hs, h1, h2, h3, rfl, h5⟩ := h
  refine ⟨hs, h1, own_otherN h2 hg (hD _ (by simp)), fun i x h hx hh => own_otherN (h3 i x h hx hh) hg (hD _ ?_), rfl, h5⟩
  exact List.mem_cons_of_mem _ (List.mem_map.2 ⟨h, List.mem_of_getElem? hh, rfl⟩)
end
end Go.Proofs.Ytdgbigkcophjoaa.GoN
