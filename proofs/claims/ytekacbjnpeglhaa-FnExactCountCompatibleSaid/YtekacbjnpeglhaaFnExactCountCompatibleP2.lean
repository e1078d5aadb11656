/- The texts on which the proof of FnExactCountCompatible stands, one behind the other (2 of 3). No condition of their own. -/
import Derived.Test.YtekacbjnpeglhaaFnExactCountCompatibleP1
import Derived.Test.YtekacbjnpeglhaaChecked
import Derived.WalkKit
import Derived.WalkSpells
import Derived.WalkLawsBesides
import Derived.BigQuiet
import Derived.OwnWalk
import Derived.Deep.LoopGhost
import Derived.Deep.QuietTactic
import Derived.IntWalk
import Derived.Lib.QuietBelow
import Derived.Deep.RegionHeld3
/- Rows of rows: a row of slices, each of which is a row of its own, all apart from each other. No condition. -/
namespace Go.Proofs.Ytekacbjnpeglhaa.GoN
set_option linter.unusedVariables false
open Go.RowKit
open Go.Proofs.Ytekacbjnpeglhaa.Rowed Go.Proofs.Ytekacbjnpeglhaa.Turn Go.Proofs.Ytekacbjnpeglhaa.GoM Go.Proofs.Ytekacbjnpeglhaa.GoK

/-- the cells of a row of slices whose headers are hs -/
def heads {F : Type} (l : List (List F)) (hs : List (Option Addr × Nat)) : List Value := (l.zip hs).map fun p => Value.slice p.2.1 p.1.length p.2.2
/-- l, laid as rows of its own; B: where they lie -/
def OwnNest {F : Type} (w : World) (b T rT rK : Nat) (f : List F → List Value) (A : Option Addr) (c : Nat) (l : List (List F)) (B : List (Option Addr)) : Prop :=
  ∃ hs : List (Option Addr × Nat), hs.length = l.length ∧ w.ownsRow b T 1 (.slice A l.length c) l.length (heads l hs) ∧
    (∀ (i : Nat) x h, l[i]? = some x → hs[i]? = some h → w.ownsRow b rT rK (.slice h.1 x.length h.2) x.length (f x)) ∧ B = A :: hs.map (·.1) ∧ B.Pairwise Apart
/-- l reads as rows -/
def ReadNest {F : Type} (w : World) (rK : Nat) (f : List F → List Value) (A : Option Addr) (l : List (List F)) : Prop :=
  ∃ hs : List (Option Addr × Nat), hs.length = l.length ∧ Cells w 1 A l.length (heads l hs) ∧
    ∀ (i : Nat) x h, l[i]? = some x → hs[i]? = some h → Cells w rK h.1 x.length (f x) ∧ Room h.1 x.length h.2 ∧ x.length ≤ 9223372036854775807

section
variable {F : Type} {w w' : World} {b T rT rK c : Nat} {f : List F → List Value} {A : Option Addr} {l : List (List F)} {B : List (Option Addr)}

theorem nest_below (h : OwnNest w b T rT rK f A c l B) (hb : Below w.heap.size w w') : OwnNest w' b T rT rK f A c l B := by
  obtain ⟨hs, h1, h2, h3, h4, h5⟩ := h
  exact ⟨hs, h1, own_below h2 hb, fun i x h hx hh => own_below (h3 i x h hx hh) hb, h4, h5⟩
/-- another row is written -/
theorem nest_other {n' c' : Nat} {A' : Option Addr} (h : OwnNest w b T rT rK f A c l B) (hg : w.grownBy w' (Value.slice A' n' c').ownBlock) (hD : ∀ x ∈ B, Apart A' x) : OwnNest w' b T rT rK f A c l B := by
  obtain ⟨hs, h1, h2, h3, h4, h5⟩ := h
  subst h4
  refine ⟨hs, h1, own_other h2 hg (hD _ (by simp)), fun i x h hx hh => own_other (h3 i x h hx hh) hg (hD _ ?_), rfl, h5⟩
  exact List.mem_cons_of_mem _ (List.mem_map.2 ⟨h, List.mem_of_getElem? hh, rfl⟩)
theorem nest_lt (h : OwnNest w b T rT rK f A c l B) : ∀ x ∈ B, ∀ a, x = some a → b ≤ a.block ∧ a.block < w.heap.size := by
  obtain ⟨hs, h1, h2, h3, rfl, h5⟩ := h
  intro x hx a ha
  rcases List.mem_cons.1 hx with rfl | hx
  · exact own_lt h2 a ha
  · obtain ⟨h, hh, rfl⟩ := List.mem_map.1 hx
    obtain ⟨i, hi⟩ := List.getElem?_of_mem hh
    have hil := (List.getElem?_eq_some_iff.1 hi).1
    exact own_lt (h3 i l[i] h (List.getElem?_eq_getElem (by omega)) hi) a ha
/-- what is laid now is apart from all of it -/
theorem nest_fresh (h : OwnNest w b T rT rK f A c l B) : ∀ x ∈ B, Apart (some ⟨w.heap.size, 0, none⟩) x := by
  intro x hx a a' ha ha' e
  have := (nest_lt h x hx a' ha').2
  injection ha with ha
  subst ha
  simp at e
  omega
theorem nest_call {w1 : World} {T' K' n m c' : Nat} {A' : Option Addr} {xs : List Value} (h1 : w1.ownsRow w.heap.size T' K' (.slice A' m c') n xs) (h : OwnNest w b T rT rK f A c l B) : ∀ x ∈ B, Apart A' x := by
  intro x hx a a' ha ha' e
  have := (nest_lt h x hx a' ha').2
  have := (own_lt h1 a ha).1
  omega
theorem nest_empty {wc : World} (h : b ≤ wc.heap.size) : OwnNest (wc.alloc (.cells #[] T)) b T rT rK f (some ⟨wc.heap.size, 0, none⟩) 0 ([] : List (List F)) [some ⟨wc.heap.size, 0, none⟩] :=
  ⟨[], rfl, ⟨by simp [heads], .inr ⟨wc.heap.size, 0, #[], rfl, h, heap_alloc_new wc _, Nat.le_refl _, by unfold maxLen; omega, by simp, by simp [heads]⟩⟩, fun i x h hx _ => by simp at hx, rfl, by simp⟩
theorem heads_at {hs : List (Option Addr × Nat)} {i : Nat} {x : List F} {h : Option Addr × Nat} (hx : l[i]? = some x) (hh : hs[i]? = some h) : (heads l hs)[i]? = some (.slice h.1 x.length h.2) := by
  unfold heads
  rw [List.getElem?_map, (List.getElem?_zip_eq_some (z := (x, h))).2 ⟨hx, hh⟩]; rfl
theorem heads_len {hs : List (Option Addr × Nat)} (h : hs.length = l.length) : (heads l hs).length = l.length := by unfold heads; rw [List.length_map, List.length_zip]; omega
theorem nest_read (h : OwnNest w b T rT rK f A c l B) : ReadNest w rK f A l := by
  obtain ⟨hs, h1, h2, h3, h4, h5⟩ := h
  exact ⟨hs, h1, own_cells h2, fun i x h hx hh => ⟨own_cells (h3 i x h hx hh), own_room (h3 i x h hx hh), own_max (h3 i x h hx hh)⟩⟩
theorem read_below (h : ReadNest w rK f A l) (hb : Below w.heap.size w w') : ReadNest w' rK f A l := by
  obtain ⟨hs, h1, h2, h3⟩ := h
  exact ⟨hs, h1, Cells.below h2 hb, fun i x h hx hh => ⟨Cells.below (h3 i x h hx hh).1 hb, (h3 i x h hx hh).2⟩⟩
/-- the slice at k -/
theorem nest_at {k : Nat} (h : ReadNest w rK f A l) (hk : k < l.length) : ∃ (bb o : Nat) (x : List F) (A1 : Option Addr) (c1 : Nat), A = some ⟨bb, o, none⟩ ∧ l[k]? = some x ∧ w.cell? ⟨bb, o + k, none⟩ = some (.slice A1 x.length c1) ∧
    Cells w rK A1 x.length (f x) ∧ Room A1 x.length c1 ∧ x.length ≤ 9223372036854775807 := by
  obtain ⟨hs, h1, h2, h3⟩ := h
  have hx := List.getElem?_eq_getElem hk
  have hh := List.getElem?_eq_getElem (show k < hs.length by omega)
  obtain ⟨⟨bb, o, sp⟩, e, hc⟩ := h2.2 (by rw [heads_len h1]; omega)
  have h0 := hc 0 _ (heads_at (List.getElem?_eq_getElem (show 0 < l.length by omega)) (List.getElem?_eq_getElem (show 0 < hs.length by omega)))
  obtain rfl : sp = none := cell_spot (b := bb) (o := o) h0
  have h4 := hc k _ (heads_at hx hh)
  rw [add_flat] at h4
  obtain ⟨r1, r2, r3⟩ := h3 k _ _ hx hh
  exact ⟨bb, o, l[k], hs[k].1, hs[k].2, e, hx, h4, r1, r2, r3⟩
/-- one row more, behind an append of its header -/
theorem nest_push {n' c' cx : Nat} {v' : Value} {Ax : Option Addr} {x : List F} {hs : List (Option Addr × Nat)} (h1 : hs.length = l.length)
    (h3 : ∀ (i : Nat) y h, l[i]? = some y → hs[i]? = some h → w'.ownsRow b rT rK (.slice h.1 y.length h.2) y.length (f y)) (hx : w'.ownsRow b rT rK (.slice Ax x.length cx) x.length (f x))
    (ho : w'.ownsRow b T 1 v' (l.length + 1) (heads l hs ++ [.slice Ax x.length cx])) (hp : (hs.map (·.1) ++ [Ax]).Pairwise Apart) (hv : ∀ a, v'.ownBlock = some a → ∀ y ∈ hs.map (·.1) ++ [Ax], ∀ a', y = some a' → a'.block ≠ a) :
    ∃ g cap, v' = .slice (some ⟨g, 0, none⟩) (l ++ [x]).length cap ∧ OwnNest w' b T rT rK f (some ⟨g, 0, none⟩) cap (l ++ [x]) (some ⟨g, 0, none⟩ :: (hs.map (·.1) ++ [Ax])) := by
  obtain ⟨g, cap, rfl⟩ : ∃ g cap, v' = .slice (some ⟨g, 0, none⟩) (l.length + 1) cap := by
    rcases ho.2 with ⟨_, h⟩ | ⟨g3, cap3, _, h, _⟩
    · omega
    · exact ⟨g3, cap3, h⟩
  have el : (l ++ [x]).length = l.length + 1 := by simp
  refine ⟨g, cap, by rw [el], hs ++ [(Ax, cx)], by simp [h1], ?_, ?_, by simp, ?_⟩
  · rw [el]
    have e : heads (l ++ [x]) (hs ++ [(Ax, cx)]) = heads l hs ++ [.slice Ax x.length cx] := by unfold heads; rw [List.zip_append h1.symm]; simp
    rw [e]; exact ho
  · intro i y h hy hh
    by_cases hi : i < l.length
    · rw [List.getElem?_append_left hi] at hy
      rw [List.getElem?_append_left (by omega)] at hh
      exact h3 i y h hy hh
    · have hi2 := (List.getElem?_eq_some_iff.1 hy).1
      rw [el] at hi2
      obtain rfl : i = l.length := by omega
      rw [List.getElem?_append_right (Nat.le_refl _)] at hy
      rw [List.getElem?_append_right (by omega)] at hh
      simp [h1] at hy hh
      subst hy
      subst hh
      exact hx
  · rw [List.pairwise_cons]
    refine ⟨fun y hy a a' ha ha' e => ?_, hp⟩
    injection ha with ha
    subst ha
    exact hv g rfl y hy a' ha' e.symm
theorem nest_head (h : OwnNest w b T rT rK f A c l B) : A ∈ B := by
  obtain ⟨hs, h1, h2, h3, rfl, h5⟩ := h
  simp
theorem nest_lower {b' : Nat} (h : OwnNest w b T rT rK f A c l B) (hb : b' ≤ b) : OwnNest w b' T rT rK f A c l B := by
  obtain ⟨hs, h1, h2, h3, h4, h5⟩ := h
  exact ⟨hs, h1, own_lower h2 hb, fun i x h hx hh => own_lower (h3 i x h hx hh) hb, h4, h5⟩
/-- what a call has laid lies apart from a row that was there -/
theorem nest_callrow {w1 : World} {b' T' K' n m c' : Nat} {A' : Option Addr} {xs : List Value} (h1 : OwnNest w1 w.heap.size T rT rK f A c l B) (h : w.ownsRow b' T' K' (.slice A' m c') n xs) : ∀ x ∈ B, Apart A' x := by
  intro x hx a a' ha ha' e
  have := (nest_lt h1 x hx a' ha').1
  have := (own_lt h a ha).2
  omega
theorem nest_callbox {w1 : World} {g j : Nat} {v : Value} (h1 : OwnNest w1 w.heap.size T rT rK f A c l B) (h : w.cell? ⟨g, j, none⟩ = some v) : ∀ x ∈ B, Apart (some ⟨g, 0, none⟩) x := by
  intro x hx a a' ha ha' e
  have := (nest_lt h1 x hx a' ha').1
  have hl : g < w.heap.size := cell_lt h
  injection ha with ha
  subst ha
  simp at e
  omega
theorem nest_callnest {F' : Type} {w1 : World} {b' T' rT' rK' c' : Nat} {f' : List F' → List Value} {A' : Option Addr} {l' : List (List F')} {B' : List (Option Addr)} (h1 : OwnNest w1 w.heap.size T rT rK f A c l B) (h : OwnNest w b' T' rT' rK' f' A' c' l' B') :
    ∀ x ∈ B, ∀ y ∈ B', Apart x y := by
  intro x hx y hy a a' ha ha' e
  have := (nest_lt h1 x hx a ha).1
  have := (nest_lt h y hy a' ha').2
  omega
theorem nest_flip {B B' : List (Option Addr)} (h : ∀ x ∈ B, ∀ y ∈ B', Apart x y) : ∀ y ∈ B', ∀ x ∈ B, Apart y x := fun y hy x hx => (h x hx y hy).symm
/-- the row at k -/
theorem nest_own {k : Nat} (h : OwnNest w b T rT rK f A c l B) (hk : k < l.length) : ∃ (g : Nat) (x : List F) (A1 : Option Addr) (c1 : Nat), A = some ⟨g, 0, none⟩ ∧ l[k]? = some x ∧ w.cell? ⟨g, k, none⟩ = some (.slice A1 x.length c1) ∧
    w.ownsRow b rT rK (.slice A1 x.length c1) x.length (f x) ∧ A1 ∈ B ∧ Apart A A1 := by
  obtain ⟨hs, h1, h2, h3, rfl, h5⟩ := h
  have hx := List.getElem?_eq_getElem hk
  have hh := List.getElem?_eq_getElem (show k < hs.length by omega)
  obtain ⟨g, rfl⟩ := own_some h2 (by omega)
  obtain ⟨ad, e, hc⟩ := (own_cells h2).2 (by rw [heads_len h1]; omega)
  obtain rfl := Option.some.inj e
  have h4 := hc k _ (heads_at hx hh)
  rw [add_flat, Nat.zero_add] at h4
  have hm : hs[k].1 ∈ hs.map (·.1) := List.mem_map.2 ⟨hs[k], List.getElem_mem _, rfl⟩
  exact ⟨g, l[k], hs[k].1, hs[k].2, rfl, hx, h4, h3 k _ _ hx hh, List.mem_cons_of_mem _ hm, (List.pairwise_cons.1 h5).1 _ hm⟩
/-- a row in it has been written -/
theorem nest_store {k g n' c' : Nat} {x x' : List F} {A1 : Option Addr} {c1 : Nat} (h : OwnNest w b T rT rK f (some ⟨g, 0, none⟩) c l B) (hk : l[k]? = some x) (hcell : w.cell? ⟨g, k, none⟩ = some (.slice A1 x.length c1))
    (hx : w'.ownsRow b rT rK (.slice A1 n' c1) n' (f x')) (hn : x'.length = n') (hn2 : x.length = n') (hg : w.grownBy w' (Value.slice A1 n' c').ownBlock) : OwnNest w' b T rT rK f (some ⟨g, 0, none⟩) c (l.set k x') B := by
  subst hn
  obtain ⟨hs, h1, h2, h3, rfl, h5⟩ := h
  have hkl := (List.getElem?_eq_some_iff.1 hk).1
  have hh := List.getElem?_eq_getElem (show k < hs.length by omega)
  obtain ⟨ad, e, hc⟩ := (own_cells h2).2 (by rw [heads_len h1]; omega)
  obtain rfl := Option.some.inj e
  have h4 := hc k _ (heads_at hk hh)
  rw [add_flat, Nat.zero_add, hcell] at h4
  have h4' := Option.some.inj h4
  simp only [Value.slice.injEq] at h4'
  obtain ⟨e1, _, e2⟩ := h4'
  subst e1
  have hap := List.pairwise_cons.1 h5
  have hmk : hs[k].1 ∈ hs.map (·.1) := List.mem_map.2 ⟨hs[k], List.getElem_mem _, rfl⟩
  refine ⟨hs, by rw [List.length_set]; exact h1, ?_, ?_, rfl, h5⟩
  · have e3 : heads (l.set k x') hs = heads l hs := by
      apply List.ext_getElem?
      intro i
      unfold heads
      rw [List.getElem?_map, List.getElem?_map]
      by_cases hi : i < l.length
      · have hi2 : i < hs.length := by omega
        by_cases hik : k = i
        · subst hik
          rw [(List.getElem?_zip_eq_some (z := (x', hs[k]))).2 ⟨by rw [List.getElem?_set_self hkl], hh⟩, (List.getElem?_zip_eq_some (z := (x, hs[k]))).2 ⟨hk, hh⟩]
          simp [hn2]
        · rw [(List.getElem?_zip_eq_some (z := (l[i], hs[i]))).2 ⟨by rw [List.getElem?_set_ne hik]; exact List.getElem?_eq_getElem hi, List.getElem?_eq_getElem hi2⟩,
            (List.getElem?_zip_eq_some (z := (l[i], hs[i]))).2 ⟨List.getElem?_eq_getElem hi, List.getElem?_eq_getElem hi2⟩]
      · rw [List.getElem?_eq_none (by rw [List.length_zip, List.length_set]; omega), List.getElem?_eq_none (by rw [List.length_zip]; omega)]
    rw [e3, List.length_set]
    refine own_other h2 hg ?_
    exact (hap.1 _ hmk).symm
  · intro i y h hy hhi
    by_cases hik : k = i
    · subst hik
      rw [List.getElem?_set_self hkl] at hy
      obtain rfl := Option.some.inj hy
      obtain rfl := Option.some.inj (hh.symm.trans hhi)
      rw [← e2]
      exact hx
    · rw [List.getElem?_set_ne hik] at hy
      refine own_other (h3 i y h hy hhi) hg ?_
      have hi2 := (List.getElem?_eq_some_iff.1 hhi).1
      have hp := List.pairwise_iff_getElem.1 hap.2
      have ei : h = hs[i] := by rw [List.getElem?_eq_getElem hi2] at hhi; exact (Option.some.inj hhi).symm
      rw [ei]
      rcases Nat.lt_or_gt_of_ne hik with h6 | h6
      · have := hp k i (by rw [List.length_map]; omega) (by rw [List.length_map]; omega) h6
        simpa using this
      · have := hp i k (by rw [List.length_map]; omega) (by rw [List.length_map]; omega) h6
        simpa using this.symm
/-- what lies in B' : what lay in B, the row at Ax, and the headers, where they were or behind all -/
def Pushed (w : World) (A Ax : Option Addr) (B B' : List (Option Addr)) : Prop := A ∈ B ∧ Ax ∈ B' ∧ ∀ y ∈ B', y ∈ B ∨ y = Ax ∨ From w A y
theorem apart_push {R Ax : Option Addr} {B' : List (Option Addr)} (hD : ∀ y ∈ B, Apart R y) (hx : Apart R Ax) (hR : ∀ a, R = some a → a.block < w.heap.size) (h : Pushed w A Ax B B') : ∀ y ∈ B', Apart R y := by
  intro y hy
  rcases h.2.2 y hy with h1 | rfl | h1
  · exact hD y h1
  · exact hx
  · exact (apart_from (hD A h.1).symm hR h1).symm
theorem apart_pushN {Ax : Option Addr} {B' C : List (Option Addr)} (hD : ∀ r ∈ C, ∀ y ∈ B, Apart r y) (hx : ∀ r ∈ C, Apart Ax r) (hR : ∀ r ∈ C, ∀ a, r = some a → a.block < w.heap.size) (h : Pushed w A Ax B B') : ∀ r ∈ C, ∀ y ∈ B', Apart r y :=
  fun r hr => apart_push (hD r hr) (hx r hr).symm (hR r hr) h
/-- append(rows, row): the row is in the nest from here on, and reads as before -/
theorem nest_app {n' c' : Nat} {v' : Value} {Ax : Option Addr} {cx : Nat} {x : List F} {hs : List (Option Addr × Nat)} {l' : List (List F)} (hl' : l ++ [x] = l') (h1 : hs.length = l.length) (h4 : B = A :: hs.map (·.1))
    (h3 : ∀ (i : Nat) y h, l[i]? = some y → hs[i]? = some h → w.ownsRow b rT rK (.slice h.1 y.length h.2) y.length (f y)) (h5 : B.Pairwise Apart) (hx : w.ownsRow b rT rK (.slice Ax x.length cx) x.length (f x))
    (hD : ∀ y ∈ B, Apart Ax y) (hg : w.grownBy w' (Value.slice A n' c').ownBlock) (ho : w'.ownsRow b T 1 v' (l.length + 1) (heads l hs ++ [.slice Ax x.length cx]))
    (hy : v'.ownBlock = (Value.slice A n' c').ownBlock ∨ v'.ownBlock = some w.heap.size) :
    ∃ g cap B', v' = .slice (some ⟨g, 0, none⟩) l'.length cap ∧ OwnNest w' b T rT rK f (some ⟨g, 0, none⟩) cap l' B' ∧ Pushed w A Ax B B' ∧ w'.ownsRow b rT rK (.slice Ax x.length cx) x.length (f x) := by
  subst hl'
  subst h4
  have hp := List.pairwise_cons.1 h5
  have hx' := own_other hx hg (hD A (by simp)).symm
  have hlt : ∀ y ∈ hs.map (·.1) ++ [Ax], ∀ a, y = some a → a.block < w.heap.size := by
    intro y hy a ha
    rcases List.mem_append.1 hy with hy | hy
    · obtain ⟨h, hh, rfl⟩ := List.mem_map.1 hy
      obtain ⟨i, hi⟩ := List.getElem?_of_mem hh
      have hil := (List.getElem?_eq_some_iff.1 hi).1
      exact (own_lt (h3 i l[i] h (List.getElem?_eq_getElem (by omega)) hi) a ha).2
    · simp at hy; subst hy; exact (own_lt hx a ha).2
  obtain ⟨g, cap, e, hN⟩ := nest_push (c' := c') (n' := n') h1 (fun i y h hy hh => own_other (h3 i y h hy hh) hg (hp.1 _ (List.mem_map.2 ⟨h, List.mem_of_getElem? hh, rfl⟩))) hx' ho
    (List.pairwise_append.2 ⟨hp.2, by simp, fun a ha b hb => by simp at hb; subst hb; exact (hD a (List.mem_cons_of_mem _ ha)).symm⟩)
    (by
      intro a ha y hy a' ha' e
      rcases hy with hy
      rcases ‹v'.ownBlock = _ ∨ _› with h6 | h6
      · rw [ha] at h6
        cases hA : A with
        | none => rw [hA] at h6; simp [Value.ownBlock] at h6
        | some z =>
          rw [hA] at h6
          simp only [Value.ownBlock, Option.some.injEq] at h6
          rcases List.mem_append.1 hy with hy | hy
          · exact hp.1 y hy z a' hA ha' (by omega)
          · simp at hy; subst hy; exact hD A (by simp) a' z ha' hA (by omega)
      · rw [ha] at h6
        have := hlt y hy a' ha'
        simp only [Option.some.injEq] at h6; omega)
  refine ⟨g, cap, _, e, hN, ⟨by simp, by simp, ?_⟩, hx'⟩
  intro y hy
  rcases List.mem_cons.1 hy with rfl | hy
  · right; right
    rw [e] at ‹v'.ownBlock = _ ∨ _›
    intro a' ha'
    injection ha' with ha'
    subst ha'
    rcases ‹_ ∨ _› with h6 | h6
    · left
      cases hA : A with
      | none => rw [hA] at h6; simp [Value.ownBlock] at h6
      | some z => rw [hA] at h6; simp only [Value.ownBlock, Option.some.injEq] at h6; exact ⟨z, rfl, h6.symm⟩
    · right; simp only [Value.ownBlock, Option.some.injEq] at h6; exact Nat.le_of_eq h6.symm
  · rcases List.mem_append.1 hy with hy | hy
    · exact .inl (List.mem_cons_of_mem _ hy)
    · simp at hy; exact .inr (.inl hy)
theorem nest_one {X R : Option Addr} (h : Apart X R) : ∀ y ∈ [X], Apart R y := by
  intro y hy
  simp at hy
  subst hy
  exact h.symm
theorem nest_max (h : OwnNest w b T rT rK f A c l B) : l.length ≤ 9223372036854775807 := by
  obtain ⟨hs, h1, h2, h3, h4, h5⟩ := h
  exact own_max h2
end
end Go.Proofs.Ytekacbjnpeglhaa.GoN

/- loop.example/g01062/impl.within as a plain function, and the contract of the program's: where the plain one has an answer, the program has it. Conditions: slices read as lists. -/
namespace Go.Proofs.Ytekacbjnpeglhaa.GiWithin
set_option linter.unusedVariables false
set_option linter.unusedSimpArgs false
open Go.RowKit
open Go.Proofs.Ytekacbjnpeglhaa.Rowed Go.Proofs.Ytekacbjnpeglhaa.Turn Go.Proofs.Ytekacbjnpeglhaa.Aid Go.Proofs.Ytekacbjnpeglhaa.GoP Go.Proofs.Ytekacbjnpeglhaa.GoM

def P (n_0 : Int) (low : Int) (high : Int) : Option (Bool) :=
  letK (decide (low ≤ n_0)) fun (t_3 : Bool) =>
  joinK (fun (t_8 : Bool) =>
  some t_8) fun jt_8 => iteK t_3 (letK (decide (n_0 ≤ high)) fun (t_7 : Bool) =>
  appK jt_8 t_7) (appK jt_8 false)

set_option maxRecDepth 100000 in
set_option maxHeartbeats 2000000 in
theorem C (n_0 : Int) (low : Int) (high : Int)   (w : World)   {r : Bool} (H : Hid (P n_0 low high = some r)) :
    Calls Try.prog 55 #[.int .i64 n_0, .int .i64 low, .int .i64 high] w (Gives (.bool r) w) := by
  have HB := Lib.hid (Below.refl w.heap.size w)
  unfold P at H
  go_enter Try.func55, Try.ntmps55
  replace H := let_hid H
  obtain ⟨t_3, ht_3, H⟩ := H
  replace H := join_hid H
  cases t_3 with
  | false =>
    replace H := ite_f H
    replace H := app_hid H
    obtain rfl := ret_hid H
    go_wp2_with fail
    go_ret
    exact ⟨rfl, HB.out⟩
  | true =>
    replace H := ite_t H
    replace H := let_hid H
    obtain ⟨t_7, ht_7, H⟩ := H
    replace H := app_hid H
    obtain rfl := ret_hid H
    go_wp2_with fail
    go_ret
    exact ⟨rfl, HB.out⟩

set_option maxRecDepth 100000 in
set_option maxHeartbeats 2000000 in
theorem C0 (n_0 : Int) (low : Int) (high : Int)   (w : World)   {r : Bool} (H : Hid (P n_0 low high = some r)) :
    Calls Try.prog 55 #[.int .i64 n_0, .int .i64 low, .int .i64 high] w (fun e w'' => e = .returned (.bool r) ∧ w'' = w) := by
  have HB := Lib.hid (Below.refl w.heap.size w)
  unfold P at H
  go_enter Try.func55, Try.ntmps55
  replace H := let_hid H
  obtain ⟨t_3, ht_3, H⟩ := H
  replace H := join_hid H
  cases t_3 with
  | false =>
    replace H := ite_f H
    replace H := app_hid H
    obtain rfl := ret_hid H
    go_wp2_with fail
    go_ret
    exact ⟨rfl, rfl⟩
  | true =>
    replace H := ite_t H
    replace H := let_hid H
    obtain ⟨t_7, ht_7, H⟩ := H
    replace H := app_hid H
    obtain rfl := ret_hid H
    go_wp2_with fail
    go_ret
    exact ⟨rfl, rfl⟩
end Go.Proofs.Ytekacbjnpeglhaa.GiWithin

/- loop.example/g01062/impl.hasValue as a plain function, and the contract of the program's: where the plain one has an answer, the program has it. Conditions: slices read as lists. -/
namespace Go.Proofs.Ytekacbjnpeglhaa.GiHasValue
set_option linter.unusedVariables false
set_option linter.unusedSimpArgs false
open Go.RowKit
open Go.Proofs.Ytekacbjnpeglhaa.Rowed Go.Proofs.Ytekacbjnpeglhaa.Turn Go.Proofs.Ytekacbjnpeglhaa.Aid Go.Proofs.Ytekacbjnpeglhaa.GoP Go.Proofs.Ytekacbjnpeglhaa.GoM

def P (sizes : (List Int)) (trait : Int) (value : Int) : Option (Bool) :=
  letK (IntKind.i64.wrap ((sizes.length : Int) - 1)) fun (t_4 : Int) =>
  Option.bind (Go.Proofs.Ytekacbjnpeglhaa.GiWithin.P trait 0 t_4) fun (t_5 : Bool) =>
  joinK (fun (t_14 : Bool) =>
  some t_14) fun jt_14 => iteK t_5 (Option.bind (idx sizes trait) fun (yt_10 : Int) =>
  letK (IntKind.i64.wrap (yt_10 - 1)) fun (t_12 : Int) =>
  Option.bind (Go.Proofs.Ytekacbjnpeglhaa.GiWithin.P value 0 t_12) fun (t_13 : Bool) =>
  appK jt_14 t_13) (appK jt_14 false)

set_option maxRecDepth 100000 in
set_option maxHeartbeats 2000000 in
theorem C (sizes : (List Int)) (trait : Int) (value : Int) (A0 : Option Addr) (c0 : Nat)  (w : World) (M0 : Hid (Cells w 1 A0 sizes.length (Go.Proofs.Ytekacbjnpeglhaa.HelpInt.iv sizes))) (N0 : Hid (sizes.length ≤ 9223372036854775807))  {r : Bool} (H : Hid (P sizes trait value = some r)) :
    Calls Try.prog 73 #[.slice A0 sizes.length c0, .int .i64 trait, .int .i64 value] w (Gives (.bool r) w) := by
  have HB := Lib.hid (Below.refl w.heap.size w)
  unfold P at H
  have N0o := N0.out
  go_enter Try.func73, Try.ntmps73
  replace H := let_hid H
  obtain ⟨t_4, ht_4, H⟩ := H
  try have hv_t_4 : (sizes.length : Int) - 1 = t_4 := by rw [← ht_4]; exact (IntWalk.i64_in _ (by omega)).symm
  try have hv2_t_4 : IntKind.i64.wrap t_4 = t_4 := by rw [← hv_t_4]; exact IntWalk.i64_in _ (by omega)
  replace H := bind_hid H
  obtain ⟨t_5, qt_5, H⟩ := H
  go_wp2_with fail
  go_at_call 55
  refine (Go.Proofs.Ytekacbjnpeglhaa.GiWithin.C (trait) (0) (t_4)  _    qt_5).mono ?_
  rintro e_t_5 wt_5 ⟨rfl, bt_5⟩
  have HBwt_5 := Lib.hid (Below.step HB.out bt_5)
  clear bt_5
  replace H := join_hid H
  cases t_5 with
  | false =>
    replace H := ite_f H
    replace H := app_hid H
    obtain rfl := ret_hid H
    go_wp2_with fail
    go_ret
    exact ⟨rfl, HBwt_5.out⟩
  | true =>
    replace H := ite_t H
    replace H := idx_hid H
    obtain ⟨nt_10, yt_10, et_10, lt_10, gt_10, H⟩ := H
    subst et_10
    obtain ⟨ab_t_10, ao_t_10, zt_10, At_10, z_t_10, ct_10_0⟩ := Go.Proofs.Ytekacbjnpeglhaa.HelpInt.Ints.at_ M0.out lt_10
    obtain rfl := Option.some.inj (gt_10.out.symm.trans z_t_10)
    subst At_10
    have ltt_10 := cell_lt ct_10_0
    replace ct_10_0 := cell_below HBwt_5.out ct_10_0
    clear z_t_10
    have b0t_10 : (0 : Int) ≤ (nt_10 : Int) := by omega
    have b1t_10 : (nt_10 : Int) < ((sizes.length : Nat) : Int) := by omega
    have b2t_10 : ((nt_10 : Int)).toNat = nt_10 := by omega
    replace H := let_hid H
    obtain ⟨t_12, ht_12, H⟩ := H
    replace H := bind_hid H
    obtain ⟨t_13, qt_13, H⟩ := H
    go_wp2_with fail
    go_at_call 55
    refine (Go.Proofs.Ytekacbjnpeglhaa.GiWithin.C (value) (0) (t_12)  _    qt_13).mono ?_
    rintro e_t_13 wt_13 ⟨rfl, bt_13⟩
    have HBwt_13 := Lib.hid (Below.step HBwt_5.out bt_13)
    replace ct_10_0 := cell_below bt_13 ct_10_0
    clear bt_13
    replace H := app_hid H
    obtain rfl := ret_hid H
    go_wp2_with fail
    go_ret
    exact ⟨rfl, HBwt_13.out⟩
end Go.Proofs.Ytekacbjnpeglhaa.GiHasValue

/- loop.example/g01062/impl.isBan as a plain function, and the contract of the program's: where the plain one has an answer, the program has it. Conditions: slices read as lists. -/
namespace Go.Proofs.Ytekacbjnpeglhaa.GiIsBan
set_option linter.unusedVariables false
set_option linter.unusedSimpArgs false
open Go.RowKit
open Go.Proofs.Ytekacbjnpeglhaa.Rowed Go.Proofs.Ytekacbjnpeglhaa.Turn Go.Proofs.Ytekacbjnpeglhaa.Aid Go.Proofs.Ytekacbjnpeglhaa.GoP Go.Proofs.Ytekacbjnpeglhaa.GoM

def P (sizes : (List Int)) (b : Go.Proofs.Ytekacbjnpeglhaa.PBan.Ban) : Option (Bool) :=
  unBan b fun (b_a : Int) (b_x : Int) (b_b : Int) (b_y : Int) =>
  letK (decide (b_a < b_b)) fun (t_6 : Bool) =>
  joinK (fun (t_14 : Bool) =>
  joinK (fun (t_22 : Bool) =>
  some t_22) fun jt_22 => iteK t_14 (Option.bind (Go.Proofs.Ytekacbjnpeglhaa.GiHasValue.P sizes b_b b_y) fun (t_21 : Bool) =>
  appK jt_22 t_21) (appK jt_22 false)) fun jt_14 => iteK t_6 (Option.bind (Go.Proofs.Ytekacbjnpeglhaa.GiHasValue.P sizes b_a b_x) fun (t_13 : Bool) =>
  appK jt_14 t_13) (appK jt_14 false)

set_option maxRecDepth 100000 in
set_option maxHeartbeats 2000000 in
theorem C (sizes : (List Int)) (b : Go.Proofs.Ytekacbjnpeglhaa.PBan.Ban) (A0 : Option Addr) (c0 : Nat)  (w : World) (M0 : Hid (Cells w 1 A0 sizes.length (Go.Proofs.Ytekacbjnpeglhaa.HelpInt.iv sizes))) (N0 : Hid (sizes.length ≤ 9223372036854775807))  {r : Bool} (H : Hid (P sizes b = some r)) :
    Calls Try.prog 56 #[.slice A0 sizes.length c0, b.val] w (Gives (.bool r) w) := by
  have HB := Lib.hid (Below.refl w.heap.size w)
  unfold P at H
  obtain ⟨b_a, b_x, b_b, b_y⟩ := b
  replace H := unBan_hid H
  unfold Go.Proofs.Ytekacbjnpeglhaa.PBan.Ban.val
  have N0o := N0.out
  go_enter Try.func56, Try.ntmps56
  obtain ⟨w_b_0, hw_b_0⟩ : ∃ x, w.alloc (.cells #[.int .i64 b_a, .int .i64 b_x, .int .i64 b_b, .int .i64 b_y] 57) = x := ⟨_, rfl⟩
  have bw_b_0 : Below w.heap.size w w_b_0 := by rw [← hw_b_0]; exact (Below.refl _ _).alloc (Nat.le_refl _) _
  have HBw_b_0 := Lib.hid (Below.step HB.out bw_b_0)
  clear bw_b_0
  have kb_0_0 : w_b_0.cell? ⟨w.heap.size, 0, none⟩ = some (.int .i64 b_a) := by rw [← hw_b_0]; exact box_new _ _ _ 0 _ rfl
  have kb_0_1 : w_b_0.cell? ⟨w.heap.size, 1, none⟩ = some (.int .i64 b_x) := by rw [← hw_b_0]; exact box_new _ _ _ 1 _ rfl
  have kb_0_2 : w_b_0.cell? ⟨w.heap.size, 2, none⟩ = some (.int .i64 b_b) := by rw [← hw_b_0]; exact box_new _ _ _ 2 _ rfl
  have kb_0_3 : w_b_0.cell? ⟨w.heap.size, 3, none⟩ = some (.int .i64 b_y) := by rw [← hw_b_0]; exact box_new _ _ _ 3 _ rfl
  replace H := let_hid H
  obtain ⟨t_6, ht_6, H⟩ := H
  replace H := join_hid H
  cases t_6 with
  | false =>
    replace H := ite_f H
    replace H := app_hid H
    replace H := join_hid H
    replace H := ite_f H
    replace H := app_hid H
    obtain rfl := ret_hid H
    go_wp2_with fail
    go_ret
    exact ⟨rfl, HBw_b_0.out⟩
  | true =>
    replace H := ite_t H
    replace H := bind_hid H
    obtain ⟨t_13, qt_13, H⟩ := H
    go_wp2_with fail
    go_at_call 73
    refine (Go.Proofs.Ytekacbjnpeglhaa.GiHasValue.C (sizes) (b_a) (b_x) A0 c0 _   (Lib.hid (Cells.below M0.out HBw_b_0.out)) N0 qt_13).mono ?_
    rintro e_t_13 wt_13 ⟨rfl, bt_13⟩
    have HBwt_13 := Lib.hid (Below.step HBw_b_0.out bt_13)
    replace kb_0_0 := cell_below bt_13 kb_0_0
    replace kb_0_1 := cell_below bt_13 kb_0_1
    replace kb_0_2 := cell_below bt_13 kb_0_2
    replace kb_0_3 := cell_below bt_13 kb_0_3
    clear bt_13
    replace H := app_hid H
    replace H := join_hid H
    cases t_13 with
    | false =>
      replace H := ite_f H
      replace H := app_hid H
      obtain rfl := ret_hid H
      go_wp2_with fail
      go_ret
      exact ⟨rfl, HBwt_13.out⟩
    | true =>
      replace H := ite_t H
      replace H := bind_hid H
      obtain ⟨t_21, qt_21, H⟩ := H
      go_wp2_with fail
      go_at_call 73
      refine (Go.Proofs.Ytekacbjnpeglhaa.GiHasValue.C (sizes) (b_b) (b_y) A0 c0 _   (Lib.hid (Cells.below M0.out HBwt_13.out)) N0 qt_21).mono ?_
      rintro e_t_21 wt_21 ⟨rfl, bt_21⟩
      have HBwt_21 := Lib.hid (Below.step HBwt_13.out bt_21)
      replace kb_0_0 := cell_below bt_21 kb_0_0
      replace kb_0_1 := cell_below bt_21 kb_0_1
      replace kb_0_2 := cell_below bt_21 kb_0_2
      replace kb_0_3 := cell_below bt_21 kb_0_3
      clear bt_21
      replace H := app_hid H
      obtain rfl := ret_hid H
      go_wp2_with fail
      go_ret
      exact ⟨rfl, HBwt_21.out⟩
end Go.Proofs.Ytekacbjnpeglhaa.GiIsBan

/- cmp.isNaN[int] as a plain function, and the contract of the program's: where the plain one has an answer, the program has it. Conditions: slices read as lists. -/
namespace Go.Proofs.Ytekacbjnpeglhaa.GxCmpIsNaNInt
set_option linter.unusedVariables false
set_option linter.unusedSimpArgs false
open Go.RowKit
open Go.Proofs.Ytekacbjnpeglhaa.Rowed Go.Proofs.Ytekacbjnpeglhaa.Turn Go.Proofs.Ytekacbjnpeglhaa.Aid Go.Proofs.Ytekacbjnpeglhaa.GoP Go.Proofs.Ytekacbjnpeglhaa.GoM

def P (x : Int) : Option (Bool) :=
  some false

set_option maxRecDepth 100000 in
set_option maxHeartbeats 2000000 in
theorem C (x : Int)   (w : World)   {r : Bool} (H : Hid (P x = some r)) :
    Calls Try.prog 102 #[.int .i64 x] w (Gives (.bool r) w) := by
  have HB := Lib.hid (Below.refl w.heap.size w)
  unfold P at H
  go_enter Try.func102, Try.ntmps102
  obtain rfl := ret_hid H
  go_wp2_with fail
  go_ret
  exact ⟨rfl, HB.out⟩

set_option maxRecDepth 100000 in
set_option maxHeartbeats 2000000 in
theorem C0 (x : Int)   (w : World)   {r : Bool} (H : Hid (P x = some r)) :
    Calls Try.prog 102 #[.int .i64 x] w (fun e w'' => e = .returned (.bool r) ∧ w'' = w) := by
  have HB := Lib.hid (Below.refl w.heap.size w)
  unfold P at H
  go_enter Try.func102, Try.ntmps102
  obtain rfl := ret_hid H
  go_wp2_with fail
  go_ret
  exact ⟨rfl, rfl⟩
end Go.Proofs.Ytekacbjnpeglhaa.GxCmpIsNaNInt

/- cmp.Compare[int] as a plain function, and the contract of the program's: where the plain one has an answer, the program has it. Conditions: slices read as lists. -/
namespace Go.Proofs.Ytekacbjnpeglhaa.GxCmpCompareInt
set_option linter.unusedVariables false
set_option linter.unusedSimpArgs false
open Go.RowKit
open Go.Proofs.Ytekacbjnpeglhaa.Rowed Go.Proofs.Ytekacbjnpeglhaa.Turn Go.Proofs.Ytekacbjnpeglhaa.Aid Go.Proofs.Ytekacbjnpeglhaa.GoP Go.Proofs.Ytekacbjnpeglhaa.GoM

def P (x : Int) (y : Int) : Option (Int) :=
  Option.bind (Go.Proofs.Ytekacbjnpeglhaa.GxCmpIsNaNInt.P x) fun (t_2 : Bool) =>
  Option.bind (Go.Proofs.Ytekacbjnpeglhaa.GxCmpIsNaNInt.P y) fun (t_5 : Bool) =>
  iteK t_2
  (iteK t_5
  (some 0)
  (some (-1)))
  (iteK t_5
  (some 1)
  (letK (decide (x < y)) fun (t_15 : Bool) =>
  iteK t_15
  (some (-1))
  (letK (decide (y < x)) fun (t_19 : Bool) =>
  iteK t_19
  (some 1)
  (some 0))))

set_option maxRecDepth 100000 in
set_option maxHeartbeats 2000000 in
theorem C (x : Int) (y : Int)   (w : World)   {r : Int} (H : Hid (P x y = some r)) :
    Calls Try.prog 91 #[.int .i64 x, .int .i64 y] w (Gives (.int .i64 r) w) := by
  have HB := Lib.hid (Below.refl w.heap.size w)
  unfold P at H
  go_enter Try.func91, Try.ntmps91
  replace H := bind_hid H
  obtain ⟨t_2, qt_2, H⟩ := H
  go_wp2_with fail
  go_at_call 102
  refine (Go.Proofs.Ytekacbjnpeglhaa.GxCmpIsNaNInt.C (x)  _    qt_2).mono ?_
  rintro e_t_2 wt_2 ⟨rfl, bt_2⟩
  have HBwt_2 := Lib.hid (Below.step HB.out bt_2)
  clear bt_2
  replace H := bind_hid H
  obtain ⟨t_5, qt_5, H⟩ := H
  go_wp2_with fail
  go_at_call 102
  refine (Go.Proofs.Ytekacbjnpeglhaa.GxCmpIsNaNInt.C (y)  _    qt_5).mono ?_
  rintro e_t_5 wt_5 ⟨rfl, bt_5⟩
  have HBwt_5 := Lib.hid (Below.step HBwt_2.out bt_5)
  clear bt_5
  cases t_2 with
  | false =>
    replace H := ite_f H
    cases t_5 with
    | false =>
      replace H := ite_f H
      replace H := let_hid H
      obtain ⟨t_15, ht_15, H⟩ := H
      cases t_15 with
      | false =>
        replace H := ite_f H
        replace H := let_hid H
        obtain ⟨t_19, ht_19, H⟩ := H
        cases t_19 with
        | false =>
          replace H := ite_f H
          obtain rfl := ret_hid H
          go_wp2_with fail
          go_ret
          exact ⟨rfl, HBwt_5.out⟩
        | true =>
          replace H := ite_t H
          obtain rfl := ret_hid H
          go_wp2_with fail
          go_ret
          exact ⟨rfl, HBwt_5.out⟩
      | true =>
        replace H := ite_t H
        obtain rfl := ret_hid H
        go_wp2_with fail
        go_ret
        exact ⟨rfl, HBwt_5.out⟩
    | true =>
      replace H := ite_t H
      obtain rfl := ret_hid H
      go_wp2_with fail
      go_ret
      exact ⟨rfl, HBwt_5.out⟩
  | true =>
    replace H := ite_t H
    cases t_5 with
    | false =>
      replace H := ite_f H
      obtain rfl := ret_hid H
      go_wp2_with fail
      go_ret
      exact ⟨rfl, HBwt_5.out⟩
    | true =>
      replace H := ite_t H
      obtain rfl := ret_hid H
      go_wp2_with fail
      go_ret
      exact ⟨rfl, HBwt_5.out⟩
end Go.Proofs.Ytekacbjnpeglhaa.GxCmpCompareInt

/- cmp.Or[int] as a plain function, and the contract of the program's: where the plain one has an answer, the program has it. Conditions: slices read as lists. -/
namespace Go.Proofs.Ytekacbjnpeglhaa.GxCmpOrInt
set_option linter.unusedVariables false
set_option linter.unusedSimpArgs false
open Go.RowKit
open Go.Proofs.Ytekacbjnpeglhaa.Rowed Go.Proofs.Ytekacbjnpeglhaa.Turn Go.Proofs.Ytekacbjnpeglhaa.Aid Go.Proofs.Ytekacbjnpeglhaa.GoP Go.Proofs.Ytekacbjnpeglhaa.GoM

def l0 (vals : (List Int)) (k0 : Nat) (s : Unit) (nx0 bk0 : Unit → Option (Int)) : Option (Int) :=
  
  Option.bind (idx vals (k0 : Int)) fun (yt_6 : Int) =>
  letK (yt_6 != 0) fun (t_11 : Bool) =>
  iteK t_11
  (some yt_6)
  (appK nx0 ())

def e0  (s : Unit) : Option (Int) :=
  
  some 0

def P (vals : (List Int)) : Option (Int) :=
  cntK (l0 vals) (vals.length) 0 () (e0 )

set_option maxRecDepth 100000 in
set_option maxHeartbeats 2000000 in
theorem C (vals : (List Int)) (A0 : Option Addr) (c0 : Nat)  (w : World) (M0 : Hid (Cells w 1 A0 vals.length (Go.Proofs.Ytekacbjnpeglhaa.HelpInt.iv vals))) (N0 : Hid (vals.length ≤ 9223372036854775807))  {r : Int} (H : Hid (P vals = some r)) :
    Calls Try.prog 90 #[.slice A0 vals.length c0] w (Gives (.int .i64 r) w) := by
  have HB := Lib.hid (Below.refl w.heap.size w)
  unfold P at H
  have N0o := N0.out
  go_enter Try.func90, Try.ntmps90
  go_wp2_with fail
  go_loopg [8] (vals.length) (fun m_ v8_ wr => ∃ (k0 : Nat) , k0 + m_ = vals.length ∧ v8_ = .int .i64 (k0 : Int) ∧ Hid (cntK (l0 vals) m_ k0 () (e0 ) = some r) ∧ Hid (Below w.heap.size w wr))
  case atStart => exact ⟨0, by omega, rfl, H, HB⟩
  case round =>
    obtain ⟨k0, hkm0, rfl, H, HBwr0⟩ := hrel
    rename World => wr0
    cases gk with
    | zero =>
      obtain rfl : k0 = vals.length := by omega
      have hc0 : decide (((vals.length : Nat) : Int) < ((vals.length : Nat) : Int)) = false := by simp
      replace H := cnt_zero H
      unfold e0 at H
      obtain rfl := ret_hid H
      go_wp2_with fail
      go_ret
      exact ⟨rfl, HBwr0.out⟩
    | succ m0 =>
      have hlt0 : k0 < vals.length := by omega
      have hc0 : decide ((k0 : Int) < ((vals.length : Nat) : Int)) = true := by simp; omega
      replace H := cnt_succ H
      unfold l0 at H
      replace H := idx_hid H
      obtain ⟨nt_6, yt_6, et_6, lt_6, gt_6, H⟩ := H
      obtain rfl : k0 = nt_6 := by omega
      clear et_6
      obtain ⟨ab_t_6, ao_t_6, zt_6, At_6, z_t_6, ct_6_0⟩ := Go.Proofs.Ytekacbjnpeglhaa.HelpInt.Ints.at_ M0.out lt_6
      obtain rfl := Option.some.inj (gt_6.out.symm.trans z_t_6)
      subst At_6
      have ltt_6 := cell_lt ct_6_0
      replace ct_6_0 := cell_below HBwr0.out ct_6_0
      clear z_t_6
      have b0t_6 : (0 : Int) ≤ (k0 : Int) := by omega
      have b1t_6 : (k0 : Int) < ((vals.length : Nat) : Int) := by omega
      have b2t_6 : ((k0 : Int)).toNat = k0 := by omega
      replace H := let_hid H
      obtain ⟨t_11, ht_11, H⟩ := H
      cases t_11 with
      | false =>
        replace H := ite_f H
        replace H := app_hid H
        go_wp2_with fail
        go_roundg m0
        case measure => omega
        case rel => exact ⟨k0 + 1, by omega, by go_num, H, HBwr0⟩
      | true =>
        replace H := ite_t H
        obtain rfl := ret_hid H
        go_wp2_with fail
        go_ret
        exact ⟨rfl, HBwr0.out⟩
end Go.Proofs.Ytekacbjnpeglhaa.GxCmpOrInt

/- loop.example/g01062/impl.compareBans as a plain function, and the contract of the program's: where the plain one has an answer, the program has it. Conditions: slices read as lists. -/
namespace Go.Proofs.Ytekacbjnpeglhaa.GiCompareBans
set_option linter.unusedVariables false
set_option linter.unusedSimpArgs false
open Go.RowKit
open Go.Proofs.Ytekacbjnpeglhaa.Rowed Go.Proofs.Ytekacbjnpeglhaa.Turn Go.Proofs.Ytekacbjnpeglhaa.Aid Go.Proofs.Ytekacbjnpeglhaa.GoP Go.Proofs.Ytekacbjnpeglhaa.GoM

def P (a : Go.Proofs.Ytekacbjnpeglhaa.PBan.Ban) (b : Go.Proofs.Ytekacbjnpeglhaa.PBan.Ban) : Option (Int) :=
  unBan a fun (a_a : Int) (a_x : Int) (a_b : Int) (a_y : Int) =>
  unBan b fun (b_a : Int) (b_x : Int) (b_b : Int) (b_y : Int) =>
  Option.bind (Go.Proofs.Ytekacbjnpeglhaa.GxCmpCompareInt.P a_a b_a) fun (t_7 : Int) =>
  Option.bind (Go.Proofs.Ytekacbjnpeglhaa.GxCmpCompareInt.P a_x b_x) fun (t_12 : Int) =>
  Option.bind (Go.Proofs.Ytekacbjnpeglhaa.GxCmpCompareInt.P a_b b_b) fun (t_17 : Int) =>
  Option.bind (Go.Proofs.Ytekacbjnpeglhaa.GxCmpCompareInt.P a_y b_y) fun (t_22 : Int) =>
  letK ([t_7, t_12, t_17, t_22]) fun (t_23 : (List Int)) =>
  Option.bind (Go.Proofs.Ytekacbjnpeglhaa.GxCmpOrInt.P t_23) fun (t_24 : Int) =>
  some t_24

set_option maxRecDepth 100000 in
set_option maxHeartbeats 2000000 in
theorem C (a : Go.Proofs.Ytekacbjnpeglhaa.PBan.Ban) (b : Go.Proofs.Ytekacbjnpeglhaa.PBan.Ban)   (w : World)   {r : Int} (H : Hid (P a b = some r)) :
    Calls Try.prog 57 #[a.val, b.val] w (Gives (.int .i64 r) w) := by
  have HB := Lib.hid (Below.refl w.heap.size w)
  unfold P at H
  obtain ⟨a_a, a_x, a_b, a_y⟩ := a
  replace H := unBan_hid H
  obtain ⟨b_a, b_x, b_b, b_y⟩ := b
  replace H := unBan_hid H
  unfold Go.Proofs.Ytekacbjnpeglhaa.PBan.Ban.val
  go_enter Try.func57, Try.ntmps57
  obtain ⟨w_a_0, hw_a_0⟩ : ∃ x, w.alloc (.cells #[.int .i64 a_a, .int .i64 a_x, .int .i64 a_b, .int .i64 a_y] 57) = x := ⟨_, rfl⟩
  have bw_a_0 : Below w.heap.size w w_a_0 := by rw [← hw_a_0]; exact (Below.refl _ _).alloc (Nat.le_refl _) _
  have HBw_a_0 := Lib.hid (Below.step HB.out bw_a_0)
  clear bw_a_0
  have ka_0_0 : w_a_0.cell? ⟨w.heap.size, 0, none⟩ = some (.int .i64 a_a) := by rw [← hw_a_0]; exact box_new _ _ _ 0 _ rfl
  have ka_0_1 : w_a_0.cell? ⟨w.heap.size, 1, none⟩ = some (.int .i64 a_x) := by rw [← hw_a_0]; exact box_new _ _ _ 1 _ rfl
  have ka_0_2 : w_a_0.cell? ⟨w.heap.size, 2, none⟩ = some (.int .i64 a_b) := by rw [← hw_a_0]; exact box_new _ _ _ 2 _ rfl
  have ka_0_3 : w_a_0.cell? ⟨w.heap.size, 3, none⟩ = some (.int .i64 a_y) := by rw [← hw_a_0]; exact box_new _ _ _ 3 _ rfl
  obtain ⟨w_b_1, hw_b_1⟩ : ∃ x, w_a_0.alloc (.cells #[.int .i64 b_a, .int .i64 b_x, .int .i64 b_b, .int .i64 b_y] 57) = x := ⟨_, rfl⟩
  have bw_b_1 : Below w_a_0.heap.size w_a_0 w_b_1 := by rw [← hw_b_1]; exact (Below.refl _ _).alloc (Nat.le_refl _) _
  have HBw_b_1 := Lib.hid (Below.step HBw_a_0.out bw_b_1)
  have ka_0_0__126 := cell_below bw_b_1 ka_0_0
  have ka_0_1__127 := cell_below bw_b_1 ka_0_1
  have ka_0_2__128 := cell_below bw_b_1 ka_0_2
  have ka_0_3__129 := cell_below bw_b_1 ka_0_3
  clear bw_b_1
  have kb_1_0 : w_b_1.cell? ⟨w_a_0.heap.size, 0, none⟩ = some (.int .i64 b_a) := by rw [← hw_b_1]; exact box_new _ _ _ 0 _ rfl
  have kb_1_1 : w_b_1.cell? ⟨w_a_0.heap.size, 1, none⟩ = some (.int .i64 b_x) := by rw [← hw_b_1]; exact box_new _ _ _ 1 _ rfl
  have kb_1_2 : w_b_1.cell? ⟨w_a_0.heap.size, 2, none⟩ = some (.int .i64 b_b) := by rw [← hw_b_1]; exact box_new _ _ _ 2 _ rfl
  have kb_1_3 : w_b_1.cell? ⟨w_a_0.heap.size, 3, none⟩ = some (.int .i64 b_y) := by rw [← hw_b_1]; exact box_new _ _ _ 3 _ rfl
  go_wp2_with fail
  clear ka_0_0 ka_0_1 ka_0_2 ka_0_3
  have bd1 : Below w_b_1.heap.size w_b_1 w_b_1.drew := (Below.refl _ _).drew
  have HBw_b_1.drew := Lib.hid (Below.step HBw_b_1.out bd1)
  replace ka_0_0__126 := cell_below bd1 ka_0_0__126
  replace ka_0_1__127 := cell_below bd1 ka_0_1__127
  replace ka_0_2__128 := cell_below bd1 ka_0_2__128
  replace ka_0_3__129 := cell_below bd1 ka_0_3__129
  replace kb_1_0 := cell_below bd1 kb_1_0
  replace kb_1_1 := cell_below bd1 kb_1_1
  replace kb_1_2 := cell_below bd1 kb_1_2
  replace kb_1_3 := cell_below bd1 kb_1_3
  clear bd1
  replace H := bind_hid H
  obtain ⟨t_7, qt_7, H⟩ := H
  replace H := bind_hid H
  obtain ⟨t_12, qt_12, H⟩ := H
  replace H := bind_hid H
  obtain ⟨t_17, qt_17, H⟩ := H
  replace H := bind_hid H
  obtain ⟨t_22, qt_22, H⟩ := H
  replace H := let_hid H
  obtain ⟨t_23, ht_23, H⟩ := H
  replace H := bind_hid H
  obtain ⟨t_24, qt_24, H⟩ := H
  go_region_held3 (fun w' => w'.cell? ⟨w.heap.size, 0, none⟩ = some (.int .i64 a_a) ∧ w'.cell? ⟨w.heap.size, 1, none⟩ = some (.int .i64 a_x) ∧ w'.cell? ⟨w.heap.size, 2, none⟩ = some (.int .i64 a_b) ∧ w'.cell? ⟨w.heap.size, 3, none⟩ = some (.int .i64 a_y) ∧ w'.cell? ⟨w_a_0.heap.size, 0, none⟩ = some (.int .i64 b_a) ∧ w'.cell? ⟨w_a_0.heap.size, 1, none⟩ = some (.int .i64 b_x) ∧ w'.cell? ⟨w_a_0.heap.size, 2, none⟩ = some (.int .i64 b_b) ∧ w'.cell? ⟨w_a_0.heap.size, 3, none⟩ = some (.int .i64 b_y)) (first | exact ⟨ka_0_0__126, ka_0_1__127, ka_0_2__128, ka_0_3__129, kb_1_0, kb_1_1, kb_1_2, kb_1_3⟩ | exact ⟨ka_0_0__130, ka_0_1__131, ka_0_2__132, ka_0_3__133, kb_1_0__134, kb_1_1__135, kb_1_2__136, kb_1_3__137⟩)
      (first
        | (go_at_call 91
           refine (Go.Proofs.Ytekacbjnpeglhaa.GxCmpCompareInt.C (a_a) (b_a)  _    qt_7).mono ?_
           rintro e_t_7 wt_7 ⟨rfl, bt_7⟩
           have HBwt_7 := Lib.hid (Below.step HBw_b_1.drew.out bt_7)
           replace ka_0_0__126 := cell_below bt_7 ka_0_0__126
           replace ka_0_1__127 := cell_below bt_7 ka_0_1__127
           replace ka_0_2__128 := cell_below bt_7 ka_0_2__128
           replace ka_0_3__129 := cell_below bt_7 ka_0_3__129
           replace kb_1_0 := cell_below bt_7 kb_1_0
           replace kb_1_1 := cell_below bt_7 kb_1_1
           replace kb_1_2 := cell_below bt_7 kb_1_2
           replace kb_1_3 := cell_below bt_7 kb_1_3
           clear bt_7
           clear qt_7)
        | (go_at_call 91
           refine (Go.Proofs.Ytekacbjnpeglhaa.GxCmpCompareInt.C (a_x) (b_x)  _    qt_12).mono ?_
           rintro e_t_12 wt_12 ⟨rfl, bt_12⟩
           have HBwt_12 := Lib.hid (Below.step HBwt_7.out bt_12)
           replace ka_0_0__126 := cell_below bt_12 ka_0_0__126
           replace ka_0_1__127 := cell_below bt_12 ka_0_1__127
           replace ka_0_2__128 := cell_below bt_12 ka_0_2__128
           replace ka_0_3__129 := cell_below bt_12 ka_0_3__129
           replace kb_1_0 := cell_below bt_12 kb_1_0
           replace kb_1_1 := cell_below bt_12 kb_1_1
           replace kb_1_2 := cell_below bt_12 kb_1_2
           replace kb_1_3 := cell_below bt_12 kb_1_3
           clear bt_12
           clear qt_12)
        | (go_at_call 91
           refine (Go.Proofs.Ytekacbjnpeglhaa.GxCmpCompareInt.C (a_b) (b_b)  _    qt_17).mono ?_
           rintro e_t_17 wt_17 ⟨rfl, bt_17⟩
           have HBwt_17 := Lib.hid (Below.step HBwt_12.out bt_17)
           replace ka_0_0__126 := cell_below bt_17 ka_0_0__126
           replace ka_0_1__127 := cell_below bt_17 ka_0_1__127
           replace ka_0_2__128 := cell_below bt_17 ka_0_2__128
           replace ka_0_3__129 := cell_below bt_17 ka_0_3__129
           replace kb_1_0 := cell_below bt_17 kb_1_0
           replace kb_1_1 := cell_below bt_17 kb_1_1
           replace kb_1_2 := cell_below bt_17 kb_1_2
           replace kb_1_3 := cell_below bt_17 kb_1_3
           clear bt_17
           clear qt_17)
        | (go_at_call 91
           refine (Go.Proofs.Ytekacbjnpeglhaa.GxCmpCompareInt.C (a_y) (b_y)  _    qt_22).mono ?_
           rintro e_t_22 wt_22 ⟨rfl, bt_22⟩
           have HBwt_22 := Lib.hid (Below.step HBwt_17.out bt_22)
           replace ka_0_0__126 := cell_below bt_22 ka_0_0__126
           replace ka_0_1__127 := cell_below bt_22 ka_0_1__127
           replace ka_0_2__128 := cell_below bt_22 ka_0_2__128
           replace ka_0_3__129 := cell_below bt_22 ka_0_3__129
           replace kb_1_0 := cell_below bt_22 kb_1_0
           replace kb_1_1 := cell_below bt_22 kb_1_1
           replace kb_1_2 := cell_below bt_22 kb_1_2
           replace kb_1_3 := cell_below bt_22 kb_1_3
           clear bt_22
           clear qt_22
           obtain ⟨w_t_23, hw_t_23⟩ : ∃ x, wt_22.alloc (.cells #[.int .i64 t_7, .int .i64 t_12, .int .i64 t_17, .int .i64 t_22] 3) = x := ⟨_, rfl⟩
           have bw_t_23 : Below wt_22.heap.size wt_22 w_t_23 := by rw [← hw_t_23]; exact (Below.refl _ _).alloc (Nat.le_refl _) _
           have hs_t_23 := HBwt_22.out.size
           have nt_23 : t_23.length = 4 := by rw [← ht_23]; rfl
           have Ot_23 : Hid (w_t_23.ownsRow w.heap.size 3 1 (.slice (some ⟨wt_22.heap.size, 0, none⟩) 4 4) 4 (Go.Proofs.Ytekacbjnpeglhaa.HelpInt.iv t_23)) := by
             rw [← hw_t_23, ← ht_23]
             have e_ : ([.int .i64 t_7, .int .i64 t_12, .int .i64 t_17, .int .i64 t_22] : List Value) = (Go.Proofs.Ytekacbjnpeglhaa.HelpInt.iv ([t_7, t_12, t_17, t_22] : List Int)) := rfl
             exact Lib.hid (own_laid (n := 4) hs_t_23 e_ rfl (by unfold maxLen; omega))
           clear hs_t_23
           have hht_23 := Lib.hid ht_23
           clear ht_23
           replace nt_23 := Lib.hid nt_23
           have Dt_23_a_0 := Lib.hid (apart_box ka_0_0__126)
           have Dt_23_b_1 := Lib.hid (apart_box kb_1_0)
           have HBw_t_23 := Lib.hid (Below.step HBwt_22.out bw_t_23)
           have ka_0_0__130 := cell_below bw_t_23 ka_0_0__126
           have ka_0_1__131 := cell_below bw_t_23 ka_0_1__127
           have ka_0_2__132 := cell_below bw_t_23 ka_0_2__128
           have ka_0_3__133 := cell_below bw_t_23 ka_0_3__129
           have kb_1_0__134 := cell_below bw_t_23 kb_1_0
           have kb_1_1__135 := cell_below bw_t_23 kb_1_1
           have kb_1_2__136 := cell_below bw_t_23 kb_1_2
           have kb_1_3__137 := cell_below bw_t_23 kb_1_3
           clear bw_t_23)
        | (have hc0_ := nt_23.out
           have Oct_24_1 := Lib.hid (own_len hc0_ Ot_23.out)
           have con_ := Go.Proofs.Ytekacbjnpeglhaa.GxCmpOrInt.C (t_23) (some ⟨wt_22.heap.size, 0, none⟩) 4 _   (Lib.hid (own_cells Oct_24_1.out)) (Lib.hid (own_max Oct_24_1.out)) qt_24
           rw [hc0_] at con_
           clear hc0_ Oct_24_1
           go_at_call 90
           refine con_.mono ?_
           rintro e_t_24 wt_24 ⟨rfl, bt_24⟩
           have HBwt_24 := Lib.hid (Below.step HBw_t_23.out bt_24)
           replace ka_0_0__130 := cell_below bt_24 ka_0_0__130
           replace ka_0_1__131 := cell_below bt_24 ka_0_1__131
           replace ka_0_2__132 := cell_below bt_24 ka_0_2__132
           replace ka_0_3__133 := cell_below bt_24 ka_0_3__133
           replace kb_1_0__134 := cell_below bt_24 kb_1_0__134
           replace kb_1_1__135 := cell_below bt_24 kb_1_1__135
           replace kb_1_2__136 := cell_below bt_24 kb_1_2__136
           replace kb_1_3__137 := cell_below bt_24 kb_1_3__137
           replace Ot_23 := Lib.hid (own_below Ot_23.out bt_24)
           clear bt_24
           clear qt_24))
  try clear ka_0_0__126
  try clear ka_0_1__127
  try clear ka_0_2__128
  try clear ka_0_3__129
  try clear kb_1_0
  try clear kb_1_1
  try clear kb_1_2
  try clear kb_1_3
  obtain rfl := ret_hid H
  go_wp2_with fail
  go_ret
  exact ⟨rfl, HBwt_24.out⟩
end Go.Proofs.Ytekacbjnpeglhaa.GiCompareBans

/- loop.example/g01062/impl.IsKindTable as a plain function, and the contract of the program's: where the plain one has an answer, the program has it. Conditions: slices read as lists. -/
namespace Go.Proofs.Ytekacbjnpeglhaa.GiIsKindTable
set_option linter.unusedVariables false
set_option linter.unusedSimpArgs false
open Go.RowKit
open Go.Proofs.Ytekacbjnpeglhaa.Rowed Go.Proofs.Ytekacbjnpeglhaa.Turn Go.Proofs.Ytekacbjnpeglhaa.Aid Go.Proofs.Ytekacbjnpeglhaa.GoP Go.Proofs.Ytekacbjnpeglhaa.GoM

def l0 (t_sizes : (List Int)) (k0 : Nat) (s : Unit) (nx0 bk0 : Unit → Option (Bool)) : Option (Bool) :=
  
  Option.bind (idx t_sizes (k0 : Int)) fun (yt_19 : Int) =>
  Option.bind (Go.Proofs.Ytekacbjnpeglhaa.GiWithin.P yt_19 1 5) fun (t_23 : Bool) =>
  letK (!t_23) fun (t_24 : Bool) =>
  iteK t_24
  (some false)
  (appK nx0 ())

def l1 (t_sizes : (List Int)) (t_bans : (List Go.Proofs.Ytekacbjnpeglhaa.PBan.Ban)) (k1 : Nat) (s : Unit) (nx1 bk1 : Unit → Option (Bool)) : Option (Bool) :=
  
  Option.bind (idx t_bans (k1 : Int)) fun (yt_34 : Go.Proofs.Ytekacbjnpeglhaa.PBan.Ban) =>
  unBan yt_34 fun (t_34_a : Int) (t_34_x : Int) (t_34_b : Int) (t_34_y : Int) =>
  Option.bind (Go.Proofs.Ytekacbjnpeglhaa.GiIsBan.P t_sizes (Go.Proofs.Ytekacbjnpeglhaa.PBan.Ban.mk t_34_a t_34_x t_34_b t_34_y)) fun (t_42 : Bool) =>
  letK (!t_42) fun (t_43 : Bool) =>
  joinK (fun (t_58 : Bool) =>
  iteK t_58
  (some false)
  (appK nx1 ())) fun jt_58 => iteK t_43 (appK jt_58 true) (letK (decide (0 < (k1 : Int))) fun (t_46 : Bool) =>
  joinK (fun (t_57 : Bool) =>
  appK jt_58 t_57) fun jt_57 => iteK t_46 (letK (IntKind.i64.wrap ((k1 : Int) - 1)) fun (t_51 : Int) =>
  Option.bind (idx t_bans t_51) fun (yt_52 : Go.Proofs.Ytekacbjnpeglhaa.PBan.Ban) =>
  unBan yt_52 fun (t_52_a : Int) (t_52_x : Int) (t_52_b : Int) (t_52_y : Int) =>
  Option.bind (Go.Proofs.Ytekacbjnpeglhaa.GiCompareBans.P (Go.Proofs.Ytekacbjnpeglhaa.PBan.Ban.mk t_52_a t_52_x t_52_b t_52_y) (Go.Proofs.Ytekacbjnpeglhaa.PBan.Ban.mk t_34_a t_34_x t_34_b t_34_y)) fun (t_55 : Int) =>
  letK (decide (0 ≤ t_55)) fun (t_56 : Bool) =>
  appK jt_57 t_56) (appK jt_57 false))

def e1  (s : Unit) : Option (Bool) :=
  
  some true

def e0 (t_sizes : (List Int)) (t_bans : (List Go.Proofs.Ytekacbjnpeglhaa.PBan.Ban)) (s : Unit) : Option (Bool) :=
  
  cntK (l1 t_sizes t_bans) (t_bans.length) 0 () (e1 )

def P (t_sizes : (List Int)) (t_bans : (List Go.Proofs.Ytekacbjnpeglhaa.PBan.Ban)) : Option (Bool) :=
  Option.bind (Go.Proofs.Ytekacbjnpeglhaa.GiWithin.P (t_sizes.length : Int) 1 5) fun (t_5 : Bool) =>
  letK (!t_5) fun (t_6 : Bool) =>
  joinK (fun (t_12 : Bool) =>
  iteK t_12
  (some false)
  (cntK (l0 t_sizes) (t_sizes.length) 0 () (e0 t_sizes t_bans))) fun jt_12 => iteK t_6 (appK jt_12 true) (letK (decide (20 < (t_bans.length : Int))) fun (t_11 : Bool) =>
  appK jt_12 t_11)

set_option maxRecDepth 100000 in
set_option maxHeartbeats 2000000 in
theorem C (t_sizes : (List Int)) (t_bans : (List Go.Proofs.Ytekacbjnpeglhaa.PBan.Ban)) (A0_0 : Option Addr) (c0_0 : Nat) (A0_1 : Option Addr) (c0_1 : Nat)  (w : World) (M0_0 : Hid (Cells w 1 A0_0 t_sizes.length (Go.Proofs.Ytekacbjnpeglhaa.HelpInt.iv t_sizes))) (N0_0 : Hid (t_sizes.length ≤ 9223372036854775807)) (M0_1 : Hid (Cells w 4 A0_1 t_bans.length (Go.Proofs.Ytekacbjnpeglhaa.PBan.flat t_bans))) (N0_1 : Hid (t_bans.length ≤ 9223372036854775807))  {r : Bool} (H : Hid (P t_sizes t_bans = some r)) :
    Calls Try.prog 16 #[.agg #[.slice A0_0 t_sizes.length c0_0, .slice A0_1 t_bans.length c0_1]] w (Gives (.bool r) w) := by
  have HB := Lib.hid (Below.refl w.heap.size w)
  unfold P at H
  have N0_0o := N0_0.out
  have N0_1o := N0_1.out
  go_enter Try.func16, Try.ntmps16
  obtain ⟨w_t_0, hw_t_0⟩ : ∃ x, w.alloc (.cells #[.slice A0_0 t_sizes.length c0_0, .slice A0_1 t_bans.length c0_1] 30) = x := ⟨_, rfl⟩
  have bw_t_0 : Below w.heap.size w w_t_0 := by rw [← hw_t_0]; exact (Below.refl _ _).alloc (Nat.le_refl _) _
  have HBw_t_0 := Lib.hid (Below.step HB.out bw_t_0)
  clear bw_t_0
  have kt_0_0 : w_t_0.cell? ⟨w.heap.size, 0, none⟩ = some (.slice A0_0 t_sizes.length c0_0) := by rw [← hw_t_0]; exact box_new _ _ _ 0 _ rfl
  have kt_0_1 : w_t_0.cell? ⟨w.heap.size, 1, none⟩ = some (.slice A0_1 t_bans.length c0_1) := by rw [← hw_t_0]; exact box_new _ _ _ 1 _ rfl
  replace H := bind_hid H
  obtain ⟨t_5, qt_5, H⟩ := H
  go_wp2_with fail
  go_at_call 55
  refine (Go.Proofs.Ytekacbjnpeglhaa.GiWithin.C ((t_sizes.length : Int)) (1) (5)  _    qt_5).mono ?_
  rintro e_t_5 wt_5 ⟨rfl, bt_5⟩
  have HBwt_5 := Lib.hid (Below.step HBw_t_0.out bt_5)
  replace kt_0_0 := cell_below bt_5 kt_0_0
  replace kt_0_1 := cell_below bt_5 kt_0_1
  clear bt_5
  cases t_5 with
  | false =>
    replace H := let_hid H
    obtain ⟨t_6, ht_6, H⟩ := H
    obtain rfl : t_6 = true := ht_6.symm
    replace H := join_hid H
    replace H := ite_t H
    replace H := app_hid H
    replace H := ite_t H
    obtain rfl := ret_hid H
    go_wp2_with fail
    go_ret
    exact ⟨rfl, HBwt_5.out⟩
  | true =>
    replace H := let_hid H
    obtain ⟨t_6, ht_6, H⟩ := H
    obtain rfl : t_6 = false := ht_6.symm
    replace H := join_hid H
    replace H := ite_f H
    replace H := let_hid H
    obtain ⟨t_11, ht_11, H⟩ := H
    replace H := app_hid H
    cases t_11 with
    | false =>
      have nht_11 : ¬ (20 < t_bans.length) := by have := of_decide_eq_false ht_11; omega
      replace H := ite_f H
      go_wp2_with fail
      go_loopg [21] (t_sizes.length) (fun m_ v21_ wr => ∃ (k0 : Nat) , k0 + m_ = t_sizes.length ∧ v21_ = .int .i64 (k0 : Int) ∧ Hid (cntK (l0 t_sizes) m_ k0 () (e0 t_sizes t_bans) = some r) ∧ Hid (Below w.heap.size w wr) ∧ wr.cell? ⟨w.heap.size, 0, none⟩ = some (.slice A0_0 t_sizes.length c0_0) ∧ wr.cell? ⟨w.heap.size, 1, none⟩ = some (.slice A0_1 t_bans.length c0_1))
      case atStart => exact ⟨0, by omega, rfl, H, HBwt_5, kt_0_0, kt_0_1⟩
      case round =>
        obtain ⟨k0, hkm0, rfl, H, HBwr0, kt_0_0, kt_0_1⟩ := hrel
        rename World => wr0
        cases gk with
        | zero =>
          obtain rfl : k0 = t_sizes.length := by omega
          have hc0 : decide (((t_sizes.length : Nat) : Int) < ((t_sizes.length : Nat) : Int)) = false := by simp
          replace H := cnt_zero H
          unfold e0 at H
          go_wp2_with fail
          go_loopg [32] (t_bans.length) (fun m_ v32_ wr => ∃ (k1 : Nat) , k1 + m_ = t_bans.length ∧ v32_ = .int .i64 (k1 : Int) ∧ Hid (cntK (l1 t_sizes t_bans) m_ k1 () (e1 ) = some r) ∧ Hid (Below w.heap.size w wr) ∧ wr.cell? ⟨w.heap.size, 0, none⟩ = some (.slice A0_0 t_sizes.length c0_0) ∧ wr.cell? ⟨w.heap.size, 1, none⟩ = some (.slice A0_1 t_bans.length c0_1))
          case atStart => exact ⟨0, by omega, rfl, H, HBwr0, kt_0_0, kt_0_1⟩
          case round =>
            obtain ⟨k1, hkm1, rfl, H, HBwr1, kt_0_0, kt_0_1⟩ := hrel
            rename World => wr1
            cases gk with
            | zero =>
              obtain rfl : k1 = t_bans.length := by omega
              have hc1 : decide (((t_bans.length : Nat) : Int) < ((t_bans.length : Nat) : Int)) = false := by simp
              replace H := cnt_zero H
              unfold e1 at H
              obtain rfl := ret_hid H
              go_wp2_with fail
              go_ret
              exact ⟨rfl, HBwr1.out⟩
            | succ m1 =>
              have hlt1 : k1 < t_bans.length := by omega
              have hc1 : decide ((k1 : Int) < ((t_bans.length : Nat) : Int)) = true := by simp; omega
              replace H := cnt_succ H
              unfold l1 at H
              replace H := idx_hid H
              obtain ⟨nt_34, yt_34, et_34, lt_34, gt_34, H⟩ := H
              obtain rfl : k1 = nt_34 := by omega
              clear et_34
              obtain ⟨t_34_a, t_34_x, t_34_b, t_34_y⟩ := yt_34
              replace H := unBan_hid H
              obtain ⟨ab_t_34, ao_t_34, zt_34, At_34, z_t_34, ct_34_0, ct_34_1, ct_34_2, ct_34_3⟩ := Go.Proofs.Ytekacbjnpeglhaa.OBan.at_ M0_1.out lt_34
              obtain rfl := Option.some.inj (gt_34.out.symm.trans z_t_34)
              subst At_34
              have ltt_34 := cell_lt ct_34_0
              replace ct_34_0 := cell_below HBwr1.out ct_34_0
              replace ct_34_1 := cell_below HBwr1.out ct_34_1
              replace ct_34_2 := cell_below HBwr1.out ct_34_2
              replace ct_34_3 := cell_below HBwr1.out ct_34_3
              clear z_t_34
              have b0t_34 : (0 : Int) ≤ (k1 : Int) := by omega
              have b1t_34 : (k1 : Int) < ((t_bans.length : Nat) : Int) := by omega
              have b2t_34 : ((k1 : Int)).toNat = k1 := by omega
              obtain ⟨w_b_36, hw_b_36⟩ : ∃ x, wr1.alloc (.cells #[.int .i64 t_34_a, .int .i64 t_34_x, .int .i64 t_34_b, .int .i64 t_34_y] 57) = x := ⟨_, rfl⟩
              have bw_b_36 : Below wr1.heap.size wr1 w_b_36 := by rw [← hw_b_36]; exact (Below.refl _ _).alloc (Nat.le_refl _) _
              have HBw_b_36 := Lib.hid (Below.step HBwr1.out bw_b_36)
              have kt_0_0__138 := cell_below bw_b_36 kt_0_0
              have kt_0_1__139 := cell_below bw_b_36 kt_0_1
              have ct_34_0__140 := cell_below bw_b_36 ct_34_0
              have ct_34_1__141 := cell_below bw_b_36 ct_34_1
              have ct_34_2__142 := cell_below bw_b_36 ct_34_2
              have ct_34_3__143 := cell_below bw_b_36 ct_34_3
              clear bw_b_36
              have kb_36_0 : w_b_36.cell? ⟨wr1.heap.size, 0, none⟩ = some (.int .i64 t_34_a) := by rw [← hw_b_36]; exact box_new _ _ _ 0 _ rfl
              have kb_36_1 : w_b_36.cell? ⟨wr1.heap.size, 1, none⟩ = some (.int .i64 t_34_x) := by rw [← hw_b_36]; exact box_new _ _ _ 1 _ rfl
              have kb_36_2 : w_b_36.cell? ⟨wr1.heap.size, 2, none⟩ = some (.int .i64 t_34_b) := by rw [← hw_b_36]; exact box_new _ _ _ 2 _ rfl
              have kb_36_3 : w_b_36.cell? ⟨wr1.heap.size, 3, none⟩ = some (.int .i64 t_34_y) := by rw [← hw_b_36]; exact box_new _ _ _ 3 _ rfl
              go_wp2_with fail
              clear kt_0_0 kt_0_1 ct_34_0 ct_34_1 ct_34_2 ct_34_3
              have Hkt_0_0__138 := Lib.hid kt_0_0__138
              replace kt_0_0__138 := cell_regrown kt_0_0__138
              have Hkt_0_1__139 := Lib.hid kt_0_1__139
              replace kt_0_1__139 := cell_regrown kt_0_1__139
              have Hct_34_0__140 := Lib.hid ct_34_0__140
              replace ct_34_0__140 := cell_regrown ct_34_0__140
              have Hct_34_1__141 := Lib.hid ct_34_1__141
              replace ct_34_1__141 := cell_regrown ct_34_1__141
              have Hct_34_2__142 := Lib.hid ct_34_2__142
              replace ct_34_2__142 := cell_regrown ct_34_2__142
              have Hct_34_3__143 := Lib.hid ct_34_3__143
              replace ct_34_3__143 := cell_regrown ct_34_3__143
              have Hkb_36_0 := Lib.hid kb_36_0
              replace kb_36_0 := cell_regrown kb_36_0
              have Hkb_36_1 := Lib.hid kb_36_1
              replace kb_36_1 := cell_regrown kb_36_1
              have Hkb_36_2 := Lib.hid kb_36_2
              replace kb_36_2 := cell_regrown kb_36_2
              have Hkb_36_3 := Lib.hid kb_36_3
              replace kb_36_3 := cell_regrown kb_36_3
              replace H := bind_hid H
              obtain ⟨t_42, qt_42, H⟩ := H
              have nt_42 : ∀ d os, Calls Try.prog 56 #[.slice A0_0 t_sizes.length c0_0, .agg #[.int .i64 t_34_a, .int .i64 t_34_x, .int .i64 t_34_b, .int .i64 t_34_y]] (Go.Sort.grow (redrawn w_b_36 d) os) fun e w'' => e = .returned (.bool t_42) ∧ ∃ p : Regrown, w'' = Go.Sort.grow (redrawn w_b_36 p.d) p.os := fun d os => Calls.regrown_of (Go.Proofs.Ytekacbjnpeglhaa.GiIsBan.C (t_sizes) ((Go.Proofs.Ytekacbjnpeglhaa.PBan.Ban.mk t_34_a t_34_x t_34_b t_34_y)) A0_0 c0_0 _   (Lib.hid (Cells.below (Cells.below M0_0.out HBw_b_36.out) (below_regrown _ _ _))) N0_0 qt_42)
              cases t_42 with
              | false =>
                replace H := let_hid H
                obtain ⟨t_43, ht_43, H⟩ := H
                obtain rfl : t_43 = true := ht_43.symm
                replace H := join_hid H
                replace H := ite_t H
                replace H := app_hid H
                refine wp_region_quiet_below (by kernel_rfl) (by kernel_rfl) ?_
                repeat (go_big_quiet_step (first | (go_at_call 56; exact nt_42 _ _)))
                refine wpQuiet_nil ?_
                intro Y12 hY12
                replace hY12 := below_class hY12
                clear nt_42
                replace kt_0_0__138 := Hkt_0_0__138.out
                clear Hkt_0_0__138
                replace kt_0_1__139 := Hkt_0_1__139.out
                clear Hkt_0_1__139
                replace ct_34_0__140 := Hct_34_0__140.out
                clear Hct_34_0__140
                replace ct_34_1__141 := Hct_34_1__141.out
                clear Hct_34_1__141
                replace ct_34_2__142 := Hct_34_2__142.out
                clear Hct_34_2__142
                replace ct_34_3__143 := Hct_34_3__143.out
                clear Hct_34_3__143
                replace kb_36_0 := Hkb_36_0.out
                clear Hkb_36_0
                replace kb_36_1 := Hkb_36_1.out
                clear Hkb_36_1
                replace kb_36_2 := Hkb_36_2.out
                clear Hkb_36_2
                replace kb_36_3 := Hkb_36_3.out
                clear Hkb_36_3
                have HBY12 := Lib.hid (Below.step HBw_b_36.out hY12)
                replace kt_0_0__138 := cell_below hY12 kt_0_0__138
                replace kt_0_1__139 := cell_below hY12 kt_0_1__139
                replace ct_34_0__140 := cell_below hY12 ct_34_0__140
                replace ct_34_1__141 := cell_below hY12 ct_34_1__141
                replace ct_34_2__142 := cell_below hY12 ct_34_2__142
                replace ct_34_3__143 := cell_below hY12 ct_34_3__143
                replace kb_36_0 := cell_below hY12 kb_36_0
                replace kb_36_1 := cell_below hY12 kb_36_1
                replace kb_36_2 := cell_below hY12 kb_36_2
                replace kb_36_3 := cell_below hY12 kb_36_3
                clear hY12
                replace H := ite_t H
                obtain rfl := ret_hid H
                go_wp2_with fail
                go_ret
                exact ⟨rfl, HBY12.out⟩
              | true =>
                replace H := let_hid H
                obtain ⟨t_43, ht_43, H⟩ := H
                obtain rfl : t_43 = false := ht_43.symm
                replace H := join_hid H
                replace H := ite_f H
                replace H := let_hid H
                obtain ⟨t_46, ht_46, H⟩ := H
                replace H := join_hid H
                cases t_46 with
                | false =>
                  have nht_46 : ¬ (0 < k1) := by have := of_decide_eq_false ht_46; omega
                  replace H := ite_f H
                  replace H := app_hid H
                  replace H := app_hid H
                  refine wp_region_quiet_below (by kernel_rfl) (by kernel_rfl) ?_
                  repeat (go_big_quiet_step (first | (go_at_call 56; exact nt_42 _ _)))
                  refine wpQuiet_nil ?_
                  intro Y12 hY12
                  replace hY12 := below_class hY12
                  clear nt_42
                  replace kt_0_0__138 := Hkt_0_0__138.out
                  clear Hkt_0_0__138
                  replace kt_0_1__139 := Hkt_0_1__139.out
                  clear Hkt_0_1__139
                  replace ct_34_0__140 := Hct_34_0__140.out
                  clear Hct_34_0__140
                  replace ct_34_1__141 := Hct_34_1__141.out
                  clear Hct_34_1__141
                  replace ct_34_2__142 := Hct_34_2__142.out
                  clear Hct_34_2__142
                  replace ct_34_3__143 := Hct_34_3__143.out
                  clear Hct_34_3__143
                  replace kb_36_0 := Hkb_36_0.out
                  clear Hkb_36_0
                  replace kb_36_1 := Hkb_36_1.out
                  clear Hkb_36_1
                  replace kb_36_2 := Hkb_36_2.out
                  clear Hkb_36_2
                  replace kb_36_3 := Hkb_36_3.out
                  clear Hkb_36_3
                  have HBY12 := Lib.hid (Below.step HBw_b_36.out hY12)
                  replace kt_0_0__138 := cell_below hY12 kt_0_0__138
                  replace kt_0_1__139 := cell_below hY12 kt_0_1__139
                  replace ct_34_0__140 := cell_below hY12 ct_34_0__140
                  replace ct_34_1__141 := cell_below hY12 ct_34_1__141
                  replace ct_34_2__142 := cell_below hY12 ct_34_2__142
                  replace ct_34_3__143 := cell_below hY12 ct_34_3__143
                  replace kb_36_0 := cell_below hY12 kb_36_0
                  replace kb_36_1 := cell_below hY12 kb_36_1
                  replace kb_36_2 := cell_below hY12 kb_36_2
                  replace kb_36_3 := cell_below hY12 kb_36_3
                  clear hY12
                  replace H := ite_f H
                  replace H := app_hid H
                  go_wp2_with fail
                  go_roundg m1
                  case measure => omega
                  case rel => exact ⟨k1 + 1, by omega, by go_num, H, HBY12, kt_0_0__138, kt_0_1__139⟩
                | true =>
                  have nht_46 : 0 < k1 := by have := of_decide_eq_true ht_46; omega
                  replace H := ite_t H
                  replace H := let_hid H
                  obtain ⟨t_51, ht_51, H⟩ := H
                  replace H := idx_hid H
                  obtain ⟨nt_52, yt_52, et_52, lt_52, gt_52, H⟩ := H
                  subst et_52
                  obtain ⟨t_52_a, t_52_x, t_52_b, t_52_y⟩ := yt_52
                  replace H := unBan_hid H
                  obtain ⟨ab_t_52, ao_t_52, zt_52, At_52, z_t_52, ct_52_0, ct_52_1, ct_52_2, ct_52_3⟩ := Go.Proofs.Ytekacbjnpeglhaa.OBan.at_ M0_1.out lt_52
                  obtain rfl := Option.some.inj (gt_52.out.symm.trans z_t_52)
                  simp only [Option.some.injEq, Addr.mk.injEq] at At_52
                  obtain ⟨rfl, rfl, _⟩ := At_52
                  have ltt_52 := cell_lt ct_52_0
                  replace ct_52_0 := cell_below HBw_b_36.out ct_52_0
                  replace ct_52_1 := cell_below HBw_b_36.out ct_52_1
                  replace ct_52_2 := cell_below HBw_b_36.out ct_52_2
                  replace ct_52_3 := cell_below HBw_b_36.out ct_52_3
                  clear z_t_52
                  have b0t_52 : (0 : Int) ≤ (nt_52 : Int) := by omega
                  have b1t_52 : (nt_52 : Int) < ((t_bans.length : Nat) : Int) := by omega
                  have b2t_52 : ((nt_52 : Int)).toNat = nt_52 := by omega
                  have Hct_52_0 := Lib.hid ct_52_0
                  replace ct_52_0 := cell_regrown ct_52_0
                  have Hct_52_1 := Lib.hid ct_52_1
                  replace ct_52_1 := cell_regrown ct_52_1
                  have Hct_52_2 := Lib.hid ct_52_2
                  replace ct_52_2 := cell_regrown ct_52_2
                  have Hct_52_3 := Lib.hid ct_52_3
                  replace ct_52_3 := cell_regrown ct_52_3
                  replace H := bind_hid H
                  obtain ⟨t_55, qt_55, H⟩ := H
                  have nt_55 : ∀ d os, Calls Try.prog 57 #[.agg #[.int .i64 t_52_a, .int .i64 t_52_x, .int .i64 t_52_b, .int .i64 t_52_y], .agg #[.int .i64 t_34_a, .int .i64 t_34_x, .int .i64 t_34_b, .int .i64 t_34_y]] (Go.Sort.grow (redrawn w_b_36 d) os) fun e w'' => e = .returned (.int .i64 t_55) ∧ ∃ p : Regrown, w'' = Go.Sort.grow (redrawn w_b_36 p.d) p.os := fun d os => Calls.regrown_of (Go.Proofs.Ytekacbjnpeglhaa.GiCompareBans.C ((Go.Proofs.Ytekacbjnpeglhaa.PBan.Ban.mk t_52_a t_52_x t_52_b t_52_y)) ((Go.Proofs.Ytekacbjnpeglhaa.PBan.Ban.mk t_34_a t_34_x t_34_b t_34_y))  _    qt_55)
                  replace H := let_hid H
                  obtain ⟨t_56, ht_56, H⟩ := H
                  replace H := app_hid H
                  replace H := app_hid H
                  refine wp_region_quiet_below (by kernel_rfl) (by kernel_rfl) ?_
                  repeat (go_big_quiet_step (first | (go_at_call 56; exact nt_42 _ _) | (go_at_call 57; exact nt_55 _ _)))
                  refine wpQuiet_nil ?_
                  intro Y12 hY12
                  replace hY12 := below_class hY12
                  clear nt_42 nt_55
                  replace kt_0_0__138 := Hkt_0_0__138.out
                  clear Hkt_0_0__138
                  replace kt_0_1__139 := Hkt_0_1__139.out
                  clear Hkt_0_1__139
                  replace ct_34_0__140 := Hct_34_0__140.out
                  clear Hct_34_0__140
                  replace ct_34_1__141 := Hct_34_1__141.out
                  clear Hct_34_1__141
                  replace ct_34_2__142 := Hct_34_2__142.out
                  clear Hct_34_2__142
                  replace ct_34_3__143 := Hct_34_3__143.out
                  clear Hct_34_3__143
                  replace kb_36_0 := Hkb_36_0.out
                  clear Hkb_36_0
                  replace kb_36_1 := Hkb_36_1.out
                  clear Hkb_36_1
                  replace kb_36_2 := Hkb_36_2.out
                  clear Hkb_36_2
                  replace kb_36_3 := Hkb_36_3.out
                  clear Hkb_36_3
                  replace ct_52_0 := Hct_52_0.out
                  clear Hct_52_0
                  replace ct_52_1 := Hct_52_1.out
                  clear Hct_52_1
                  replace ct_52_2 := Hct_52_2.out
                  clear Hct_52_2
                  replace ct_52_3 := Hct_52_3.out
                  clear Hct_52_3
                  have HBY12 := Lib.hid (Below.step HBw_b_36.out hY12)
                  replace kt_0_0__138 := cell_below hY12 kt_0_0__138
                  replace kt_0_1__139 := cell_below hY12 kt_0_1__139
                  replace ct_34_0__140 := cell_below hY12 ct_34_0__140
                  replace ct_34_1__141 := cell_below hY12 ct_34_1__141
                  replace ct_34_2__142 := cell_below hY12 ct_34_2__142
                  replace ct_34_3__143 := cell_below hY12 ct_34_3__143
                  replace kb_36_0 := cell_below hY12 kb_36_0
                  replace kb_36_1 := cell_below hY12 kb_36_1
                  replace kb_36_2 := cell_below hY12 kb_36_2
                  replace kb_36_3 := cell_below hY12 kb_36_3
                  replace ct_52_0 := cell_below hY12 ct_52_0
                  replace ct_52_1 := cell_below hY12 ct_52_1
                  replace ct_52_2 := cell_below hY12 ct_52_2
                  replace ct_52_3 := cell_below hY12 ct_52_3
                  clear hY12
                  cases t_56 with
                  | false =>
                    replace H := ite_f H
                    replace H := app_hid H
                    go_wp2_with fail
                    go_roundg m1
                    case measure => omega
                    case rel => exact ⟨k1 + 1, by omega, by go_num, H, HBY12, kt_0_0__138, kt_0_1__139⟩
                  | true =>
                    replace H := ite_t H
                    obtain rfl := ret_hid H
                    go_wp2_with fail
                    go_ret
                    exact ⟨rfl, HBY12.out⟩
        | succ m0 =>
          have hlt0 : k0 < t_sizes.length := by omega
          have hc0 : decide ((k0 : Int) < ((t_sizes.length : Nat) : Int)) = true := by simp; omega
          replace H := cnt_succ H
          unfold l0 at H
          replace H := idx_hid H
          obtain ⟨nt_19, yt_19, et_19, lt_19, gt_19, H⟩ := H
          obtain rfl : k0 = nt_19 := by omega
          clear et_19
          obtain ⟨ab_t_19, ao_t_19, zt_19, At_19, z_t_19, ct_19_0⟩ := Go.Proofs.Ytekacbjnpeglhaa.HelpInt.Ints.at_ M0_0.out lt_19
          obtain rfl := Option.some.inj (gt_19.out.symm.trans z_t_19)
          subst At_19
          have ltt_19 := cell_lt ct_19_0
          replace ct_19_0 := cell_below HBwr0.out ct_19_0
          clear z_t_19
          have b0t_19 : (0 : Int) ≤ (k0 : Int) := by omega
          have b1t_19 : (k0 : Int) < ((t_sizes.length : Nat) : Int) := by omega
          have b2t_19 : ((k0 : Int)).toNat = k0 := by omega
          replace H := bind_hid H
          obtain ⟨t_23, qt_23, H⟩ := H
          go_wp2_with fail
          go_at_call 55
          refine (Go.Proofs.Ytekacbjnpeglhaa.GiWithin.C (yt_19) (1) (5)  _    qt_23).mono ?_
          rintro e_t_23 wt_23 ⟨rfl, bt_23⟩
          have HBwt_23 := Lib.hid (Below.step HBwr0.out bt_23)
          replace kt_0_0 := cell_below bt_23 kt_0_0
          replace kt_0_1 := cell_below bt_23 kt_0_1
          replace ct_19_0 := cell_below bt_23 ct_19_0
          clear bt_23
          cases t_23 with
          | false =>
            replace H := let_hid H
            obtain ⟨t_24, ht_24, H⟩ := H
            obtain rfl : t_24 = true := ht_24.symm
            replace H := ite_t H
            obtain rfl := ret_hid H
            go_wp2_with fail
            go_ret
            exact ⟨rfl, HBwt_23.out⟩
          | true =>
            replace H := let_hid H
            obtain ⟨t_24, ht_24, H⟩ := H
            obtain rfl : t_24 = false := ht_24.symm
            replace H := ite_f H
            replace H := app_hid H
            go_wp2_with fail
            go_roundg m0
            case measure => omega
            case rel => exact ⟨k0 + 1, by omega, by go_num, H, HBwt_23, kt_0_0, kt_0_1⟩
    | true =>
      have nht_11 : 20 < t_bans.length := by have := of_decide_eq_true ht_11; omega
      replace H := ite_t H
      obtain rfl := ret_hid H
      go_wp2_with fail
      go_ret
      exact ⟨rfl, HBwt_5.out⟩
end Go.Proofs.Ytekacbjnpeglhaa.GiIsKindTable

/- loop.example/g01062/impl.forbids as a plain function, and the contract of the program's: where the plain one has an answer, the program has it. Conditions: slices read as lists. -/
namespace Go.Proofs.Ytekacbjnpeglhaa.GiForbids
set_option linter.unusedVariables false
set_option linter.unusedSimpArgs false
open Go.RowKit
open Go.Proofs.Ytekacbjnpeglhaa.Rowed Go.Proofs.Ytekacbjnpeglhaa.Turn Go.Proofs.Ytekacbjnpeglhaa.Aid Go.Proofs.Ytekacbjnpeglhaa.GoP Go.Proofs.Ytekacbjnpeglhaa.GoM

def P (b : Go.Proofs.Ytekacbjnpeglhaa.PBan.Ban) (kind : (List Int)) : Option (Bool) :=
  unBan b fun (b_a : Int) (b_x : Int) (b_b : Int) (b_y : Int) =>
  Option.bind (idx kind b_a) fun (yt_5 : Int) =>
  letK (yt_5 == b_x) fun (t_9 : Bool) =>
  joinK (fun (t_19 : Bool) =>
  some t_19) fun jt_19 => iteK t_9 (Option.bind (idx kind b_b) fun (yt_14 : Int) =>
  letK (yt_14 == b_y) fun (t_18 : Bool) =>
  appK jt_19 t_18) (appK jt_19 false)

set_option maxRecDepth 100000 in
set_option maxHeartbeats 2000000 in
theorem C (b : Go.Proofs.Ytekacbjnpeglhaa.PBan.Ban) (kind : (List Int)) (A1 : Option Addr) (c1 : Nat)  (w : World) (M1 : Hid (Cells w 1 A1 kind.length (Go.Proofs.Ytekacbjnpeglhaa.HelpInt.iv kind))) (N1 : Hid (kind.length ≤ 9223372036854775807))  {r : Bool} (H : Hid (P b kind = some r)) :
    Calls Try.prog 64 #[b.val, .slice A1 kind.length c1] w (Gives (.bool r) w) := by
  have HB := Lib.hid (Below.refl w.heap.size w)
  unfold P at H
  obtain ⟨b_a, b_x, b_b, b_y⟩ := b
  replace H := unBan_hid H
  unfold Go.Proofs.Ytekacbjnpeglhaa.PBan.Ban.val
  have N1o := N1.out
  go_enter Try.func64, Try.ntmps64
  obtain ⟨w_b_0, hw_b_0⟩ : ∃ x, w.alloc (.cells #[.int .i64 b_a, .int .i64 b_x, .int .i64 b_b, .int .i64 b_y] 57) = x := ⟨_, rfl⟩
  have bw_b_0 : Below w.heap.size w w_b_0 := by rw [← hw_b_0]; exact (Below.refl _ _).alloc (Nat.le_refl _) _
  have HBw_b_0 := Lib.hid (Below.step HB.out bw_b_0)
  clear bw_b_0
  have kb_0_0 : w_b_0.cell? ⟨w.heap.size, 0, none⟩ = some (.int .i64 b_a) := by rw [← hw_b_0]; exact box_new _ _ _ 0 _ rfl
  have kb_0_1 : w_b_0.cell? ⟨w.heap.size, 1, none⟩ = some (.int .i64 b_x) := by rw [← hw_b_0]; exact box_new _ _ _ 1 _ rfl
  have kb_0_2 : w_b_0.cell? ⟨w.heap.size, 2, none⟩ = some (.int .i64 b_b) := by rw [← hw_b_0]; exact box_new _ _ _ 2 _ rfl
  have kb_0_3 : w_b_0.cell? ⟨w.heap.size, 3, none⟩ = some (.int .i64 b_y) := by rw [← hw_b_0]; exact box_new _ _ _ 3 _ rfl
  go_wp2_with fail
  have Hkb_0_0 := Lib.hid kb_0_0
  replace kb_0_0 := cell_regrown kb_0_0
  have Hkb_0_1 := Lib.hid kb_0_1
  replace kb_0_1 := cell_regrown kb_0_1
  have Hkb_0_2 := Lib.hid kb_0_2
  replace kb_0_2 := cell_regrown kb_0_2
  have Hkb_0_3 := Lib.hid kb_0_3
  replace kb_0_3 := cell_regrown kb_0_3
  replace H := idx_hid H
  obtain ⟨nt_5, yt_5, et_5, lt_5, gt_5, H⟩ := H
  subst et_5
  obtain ⟨ab_t_5, ao_t_5, zt_5, At_5, z_t_5, ct_5_0⟩ := Go.Proofs.Ytekacbjnpeglhaa.HelpInt.Ints.at_ M1.out lt_5
  obtain rfl := Option.some.inj (gt_5.out.symm.trans z_t_5)
  subst At_5
  have ltt_5 := cell_lt ct_5_0
  replace ct_5_0 := cell_below HBw_b_0.out ct_5_0
  clear z_t_5
  have b0t_5 : (0 : Int) ≤ (nt_5 : Int) := by omega
  have b1t_5 : (nt_5 : Int) < ((kind.length : Nat) : Int) := by omega
  have b2t_5 : ((nt_5 : Int)).toNat = nt_5 := by omega
  have Hct_5_0 := Lib.hid ct_5_0
  replace ct_5_0 := cell_regrown ct_5_0
  replace H := let_hid H
  obtain ⟨t_9, ht_9, H⟩ := H
  replace H := join_hid H
  cases t_9 with
  | false =>
    replace H := ite_f H
    replace H := app_hid H
    refine wp_region_quiet_below (by kernel_rfl) (by kernel_rfl) ?_
    repeat (go_big_quiet_step (fail))
    refine wpQuiet_nil ?_
    intro Y1 hY1
    replace hY1 := below_class hY1
    replace kb_0_0 := Hkb_0_0.out
    clear Hkb_0_0
    replace kb_0_1 := Hkb_0_1.out
    clear Hkb_0_1
    replace kb_0_2 := Hkb_0_2.out
    clear Hkb_0_2
    replace kb_0_3 := Hkb_0_3.out
    clear Hkb_0_3
    replace ct_5_0 := Hct_5_0.out
    clear Hct_5_0
    have HBY1 := Lib.hid (Below.step HBw_b_0.out hY1)
    replace kb_0_0 := cell_below hY1 kb_0_0
    replace kb_0_1 := cell_below hY1 kb_0_1
    replace kb_0_2 := cell_below hY1 kb_0_2
    replace kb_0_3 := cell_below hY1 kb_0_3
    replace ct_5_0 := cell_below hY1 ct_5_0
    clear hY1
    obtain rfl := ret_hid H
    go_wp2_with fail
    go_ret
    exact ⟨rfl, HBY1.out⟩
  | true =>
    replace H := ite_t H
    replace H := idx_hid H
    obtain ⟨nt_14, yt_14, et_14, lt_14, gt_14, H⟩ := H
    subst et_14
    obtain ⟨ab_t_14, ao_t_14, zt_14, At_14, z_t_14, ct_14_0⟩ := Go.Proofs.Ytekacbjnpeglhaa.HelpInt.Ints.at_ M1.out lt_14
    obtain rfl := Option.some.inj (gt_14.out.symm.trans z_t_14)
    simp only [Option.some.injEq, Addr.mk.injEq] at At_14
    obtain ⟨rfl, rfl, _⟩ := At_14
    have ltt_14 := cell_lt ct_14_0
    replace ct_14_0 := cell_below HBw_b_0.out ct_14_0
    clear z_t_14
    have b0t_14 : (0 : Int) ≤ (nt_14 : Int) := by omega
    have b1t_14 : (nt_14 : Int) < ((kind.length : Nat) : Int) := by omega
    have b2t_14 : ((nt_14 : Int)).toNat = nt_14 := by omega
    have Hct_14_0 := Lib.hid ct_14_0
    replace ct_14_0 := cell_regrown ct_14_0
    replace H := let_hid H
    obtain ⟨t_18, ht_18, H⟩ := H
    replace H := app_hid H
    refine wp_region_quiet_below (by kernel_rfl) (by kernel_rfl) ?_
    repeat (go_big_quiet_step (fail))
    refine wpQuiet_nil ?_
    intro Y1 hY1
    replace hY1 := below_class hY1
    replace kb_0_0 := Hkb_0_0.out
    clear Hkb_0_0
    replace kb_0_1 := Hkb_0_1.out
    clear Hkb_0_1
    replace kb_0_2 := Hkb_0_2.out
    clear Hkb_0_2
    replace kb_0_3 := Hkb_0_3.out
    clear Hkb_0_3
    replace ct_5_0 := Hct_5_0.out
    clear Hct_5_0
    replace ct_14_0 := Hct_14_0.out
    clear Hct_14_0
    have HBY1 := Lib.hid (Below.step HBw_b_0.out hY1)
    replace kb_0_0 := cell_below hY1 kb_0_0
    replace kb_0_1 := cell_below hY1 kb_0_1
    replace kb_0_2 := cell_below hY1 kb_0_2
    replace kb_0_3 := cell_below hY1 kb_0_3
    replace ct_5_0 := cell_below hY1 ct_5_0
    replace ct_14_0 := cell_below hY1 ct_14_0
    clear hY1
    obtain rfl := ret_hid H
    go_wp2_with fail
    go_ret
    exact ⟨rfl, HBY1.out⟩
end Go.Proofs.Ytekacbjnpeglhaa.GiForbids

/- loop.example/g01062/impl.advance as a plain function, and the contract of the program's: where the plain one has an answer, the program has it. Conditions: slices read as lists. -/
namespace Go.Proofs.Ytekacbjnpeglhaa.GiAdvance
set_option linter.unusedVariables false
set_option linter.unusedSimpArgs false
open Go.RowKit
open Go.Proofs.Ytekacbjnpeglhaa.Rowed Go.Proofs.Ytekacbjnpeglhaa.Turn Go.Proofs.Ytekacbjnpeglhaa.Aid Go.Proofs.Ytekacbjnpeglhaa.GoP Go.Proofs.Ytekacbjnpeglhaa.GoM

def l0 (sizes : (List Int)) (s : (List Int) × Int) (nx0 bk0 : (List Int) × Int → Option (Bool × (List Int))) : Option (Bool × (List Int)) :=
  unp2 s fun kind_1l0 k_7l0 =>
  letK (decide (0 ≤ k_7l0)) fun (t_9 : Bool) =>
  iteK t_9
  (Option.bind (idx kind_1l0 k_7l0) fun (yt_12 : Int) =>
  letK (IntKind.i64.wrap (yt_12 + 1)) fun (t_14 : Int) =>
  Option.bind (idx kind_1l0 k_7l0) fun (yt_15 : Int) =>
  letK (kind_1l0.set (k_7l0).toNat t_14) fun (l16_16 : (List Int)) =>
  Option.bind (idx l16_16 k_7l0) fun (yt_19 : Int) =>
  Option.bind (idx sizes k_7l0) fun (yt_23 : Int) =>
  letK (decide (yt_19 < yt_23)) fun (t_25 : Bool) =>
  iteK t_25
  (some (true, l16_16))
  (Option.bind (idx l16_16 k_7l0) fun (yt_29 : Int) =>
  letK (l16_16.set (k_7l0).toNat 0) fun (l30_30 : (List Int)) =>
  letK (IntKind.i64.wrap (k_7l0 - 1)) fun (t_32 : Int) =>
  appK nx0 (l30_30, t_32)))
  (appK bk0 (kind_1l0, k_7l0))

def e0  (s : (List Int) × Int) : Option (Bool × (List Int)) :=
  unp2 s fun kind_1l0 k_7l0 =>
  some (false, kind_1l0)

def P (fuel : Nat) (sizes : (List Int)) (kind : (List Int)) (trait : Int) : Option (Bool × (List Int)) :=
  letK (IntKind.i64.wrap (trait + 1)) fun (t_3 : Int) =>
  guardK ((0 : Int) ≤ t_3 ∧ (t_3 : Int) ≤ (kind.length : Int)) <|
  letK (List.take (Int.toNat t_3) kind ++ List.replicate (kind.length - Int.toNat t_3) 0) fun (cl_5 : (List Int)) =>
  loopK (l0 sizes) fuel (cl_5, trait) (e0 )

set_option maxRecDepth 100000 in
set_option maxHeartbeats 2000000 in
theorem C (fuel : Nat) (sizes : (List Int)) (kind : (List Int)) (trait : Int) (A0 : Option Addr) (c0 : Nat) (A1 : Option Addr) (c1 : Nat)  (b0 : Nat) (w : World) (M0 : Hid (Cells w 1 A0 sizes.length (Go.Proofs.Ytekacbjnpeglhaa.HelpInt.iv sizes))) (N0 : Hid (sizes.length ≤ 9223372036854775807)) (M1 : Hid (w.ownsRow b0 3 1 (.slice A1 kind.length c1) kind.length (Go.Proofs.Ytekacbjnpeglhaa.HelpInt.iv kind))) (N1 : Hid (kind.length ≤ 9223372036854775807))  (X0 : Hid (0 < sizes.length → Apart A0 A1)) {r : Bool} {l_ : (List Int)} (H : Hid (P fuel sizes kind trait = some (r, l_))) :
    Calls Try.prog 97 #[.slice A0 sizes.length c0, .slice A1 kind.length c1, .int .i64 trait] w (fun e w' => e = .returned (.bool r) ∧ w'.ownsRow b0 3 1 (.slice A1 kind.length c1) kind.length (Go.Proofs.Ytekacbjnpeglhaa.HelpInt.iv l_) ∧ l_.length = kind.length ∧ w.grownBy w' (Value.slice A1 kind.length c1).ownBlock) := by
  have HB := Lib.hid (Aid.grown_refl w (Value.slice A1 kind.length c1).ownBlock)
  unfold P at H
  have N0o := N0.out
  have N1o := N1.out
  obtain ⟨i0_3, hi_3, hz0_3, hz1_3, hz2_3⟩ := Aid.info_parts (P := Try.prog) (T := 3) (z := .int .i64 0) (s := 1) (b := 8) (by kernel_rfl)
  go_enter Try.func97, Try.ntmps97
  replace H := let_hid H
  obtain ⟨t_3, ht_3, H⟩ := H
  replace H := guard_hid H
  obtain ⟨hl_cl_5, H⟩ := H
  replace H := let_hid H
  obtain ⟨cl_5, hcl_5, H⟩ := H
  have dcl_5 : ((Go.Proofs.Ytekacbjnpeglhaa.HelpInt.iv kind)).take (Int.toNat t_3) ++ List.replicate (kind.length - Int.toNat t_3) (.int .i64 0) = (Go.Proofs.Ytekacbjnpeglhaa.HelpInt.iv cl_5) := by rw [← hcl_5]; simp [Go.Proofs.Ytekacbjnpeglhaa.HelpInt.iv, List.map_take]
  have ncl_5 : Hid (cl_5.length = kind.length) := Lib.hid (by rw [← hcl_5, List.length_append, List.length_take, List.length_replicate]; omega)
  obtain ⟨Acl_5, mcl_5, ccl_5, wcl_5, rcl_5, ucl_5, ocl_5, gcl_5⟩ := Go.Proofs.Ytekacbjnpeglhaa.GoK.own_clear (P := Try.prog) (t := 22) (e := 3) (k := .i64) (by kernel_rfl) (by kernel_rfl) hi_3 hz1_3 hz0_3 (by rfl) (by rfl) M1.out hl_cl_5 dcl_5
  have Pcl_5 := Lib.hid ocl_5
  have Gcl_5 := Lib.hid gcl_5
  clear ocl_5 gcl_5 dcl_5 hl_cl_5
  have hhcl_5 := Lib.hid hcl_5
  clear hcl_5
  have HBwcl_5 := Lib.hid (Aid.grown_tr HB.out Gcl_5.out)
  clear M1 Gcl_5
  go_wp2_with fail
  clear rcl_5 ucl_5
  go_wp2_with fail
  go_loopg [7] (fuel) (fun m_ v7_ wr => ∃ (kind_1l0 : (List Int)) (k_7l0 : Int), v7_ = .int .i64 k_7l0 ∧ Hid (loopK (l0 sizes) m_ (kind_1l0, k_7l0) (e0 ) = some (r, l_)) ∧ Hid (w.grownBy wr (Value.slice A1 kind.length c1).ownBlock) ∧ Hid (wr.ownsRow b0 3 1 (.slice A1 kind.length c1) kind.length (Go.Proofs.Ytekacbjnpeglhaa.HelpInt.iv kind_1l0)) ∧ Hid (kind_1l0.length = kind.length))
  case atStart => exact ⟨_, _, rfl, H, HBwcl_5, Pcl_5, Lib.hid (ncl_5.out)⟩
  case round =>
    obtain ⟨kind_1l0, k_7l0, rfl, H, HBwr0, Okind_1l0, hnkind_1l0⟩ := hrel
    rename World => wr0
    cases gk with
    | zero => exact (loop_zero H).elim
    | succ m0 =>
      replace H := loop_succ H
      unfold l0 at H
      replace H := unp2_hid H
      replace H := let_hid H
      obtain ⟨t_9, ht_9, H⟩ := H
      cases t_9 with
      | false =>
        replace H := ite_f H
        replace H := app_hid H
        unfold e0 at H
        replace H := unp2_hid H
        cases ret_hid H
        go_wp2_with fail
        go_ret
        exact ⟨rfl, Okind_1l0.out, hnkind_1l0.out, HBwr0.out⟩
      | true =>
        replace H := ite_t H
        replace H := idx_hid H
        obtain ⟨nt_12, yt_12, et_12, lt_12, gt_12, H⟩ := H
        subst et_12
        have nc_144 : 0 ≤ nt_12 := by have := of_decide_eq_true ht_9; omega
        have hqt_12 := hnkind_1l0.out
        obtain ⟨qt_12, Qt_12⟩ := own_some Okind_1l0.out (by omega)
        subst Qt_12
        obtain ⟨ab_t_12, ao_t_12, zt_12, At_12, z_t_12, ct_12_0⟩ := Go.Proofs.Ytekacbjnpeglhaa.HelpInt.Ints.at_ (own_cells Okind_1l0.out) (k := nt_12) (by omega)
        obtain rfl := Option.some.inj (gt_12.out.symm.trans z_t_12)
        simp only [Option.some.injEq, Addr.mk.injEq] at At_12
        obtain ⟨rfl, rfl, _⟩ := At_12
        clear z_t_12
        simp only [Nat.zero_add] at ct_12_0
        have b0t_12 : (0 : Int) ≤ (nt_12 : Int) := by omega
        have b1t_12 : (nt_12 : Int) < ((kind.length : Nat) : Int) := by omega
        have b2t_12 : ((nt_12 : Int)).toNat = nt_12 := by omega
        clear hqt_12
        replace H := let_hid H
        obtain ⟨t_14, ht_14, H⟩ := H
        replace H := idx_hid H
        obtain ⟨nt_15, yt_15, et_15, lt_15, gt_15, H⟩ := H
        obtain rfl : nt_12 = nt_15 := by omega
        clear et_15
        obtain rfl := Option.some.inj (gt_12.out.symm.trans gt_15.out)
        clear gt_15 lt_15
        replace H := let_hid H
        obtain ⟨l16_16, hl16_16, H⟩ := H
        obtain ⟨wl16_16, hwl16_16⟩ : ∃ x, (wr0).setCell ⟨qt_12, nt_12, none⟩ (.int .i64 t_14) = x := ⟨_, rfl⟩
        have z0l16_16 := Okind_1l0.out.frozenAt (nt_12)
        have Sl16_16 := Lib.hid (own_stores [(nt_12, .int .i64 t_14)] Okind_1l0.out)
        have nl16_16 : Hid (l16_16.length = kind.length) := Lib.hid (by rw [← hl16_16, List.length_set]; exact hnkind_1l0.out)
        have Pl16_16 : Hid (wl16_16.ownsRow b0 3 1 (.slice (some ⟨qt_12, 0, none⟩) kind.length c1) kind.length (Go.Proofs.Ytekacbjnpeglhaa.HelpInt.iv l16_16)) := Lib.hid (by have e_ : ([(nt_12, .int .i64 t_14)] : List (Nat × Value)).foldl (fun xs p => xs.set p.1 p.2) (Go.Proofs.Ytekacbjnpeglhaa.HelpInt.iv kind_1l0) = (Go.Proofs.Ytekacbjnpeglhaa.HelpInt.iv l16_16) := (by rw [← hl16_16]; first | done | simp [Go.Proofs.Ytekacbjnpeglhaa.HelpInt.iv, List.map_set]); rw [← hwl16_16, ← e_]; exact Sl16_16.out.1)
        have Gl16_16 : Hid (wr0.grownBy wl16_16 (Value.slice (some ⟨qt_12, 0, none⟩) kind.length c1).ownBlock) := Lib.hid (by rw [← hwl16_16]; exact Sl16_16.out.2)
        have HBwl16_16 := Lib.hid (Aid.grown_tr HBwr0.out Gl16_16.out)
        have hhl16_16 := Lib.hid hl16_16
        clear hl16_16 Sl16_16
        clear Okind_1l0 Gl16_16
        go_wp2_with fail
        clear z0l16_16 ct_12_0
        replace H := idx_hid H
        obtain ⟨nt_19, yt_19, et_19, lt_19, gt_19, H⟩ := H
        obtain rfl : nt_12 = nt_19 := by omega
        clear et_19
        have hqt_19 := nl16_16.out
        obtain ⟨ab_t_19, ao_t_19, zt_19, At_19, z_t_19, ct_19_0⟩ := Go.Proofs.Ytekacbjnpeglhaa.HelpInt.Ints.at_ (own_cells Pl16_16.out) (k := nt_12) (by omega)
        obtain rfl := Option.some.inj (gt_19.out.symm.trans z_t_19)
        simp only [Option.some.injEq, Addr.mk.injEq] at At_19
        obtain ⟨rfl, rfl, _⟩ := At_19
        clear z_t_19
        simp only [Nat.zero_add] at ct_19_0
        have b0t_19 : (0 : Int) ≤ (nt_12 : Int) := by omega
        have b1t_19 : (nt_12 : Int) < ((kind.length : Nat) : Int) := by omega
        have b2t_19 : ((nt_12 : Int)).toNat = nt_12 := by omega
        clear hqt_19
        have Hct_19_0 := Lib.hid ct_19_0
        replace ct_19_0 := cell_regrown ct_19_0
        replace H := idx_hid H
        obtain ⟨nt_23, yt_23, et_23, lt_23, gt_23, H⟩ := H
        obtain rfl : nt_12 = nt_23 := by omega
        clear et_23
        obtain ⟨ab_t_23, ao_t_23, zt_23, At_23, z_t_23, ct_23_0⟩ := Go.Proofs.Ytekacbjnpeglhaa.HelpInt.Ints.at_ M0.out lt_23
        obtain rfl := Option.some.inj (gt_23.out.symm.trans z_t_23)
        subst At_23
        have ltt_23 := cell_lt ct_23_0
        replace ct_23_0 := cell_other ct_23_0 HBwl16_16.out (Go.Proofs.Ytekacbjnpeglhaa.GoK.apart_xio X0.out (by omega))
        clear z_t_23
        have b0t_23 : (0 : Int) ≤ (nt_12 : Int) := by omega
        have b1t_23 : (nt_12 : Int) < ((sizes.length : Nat) : Int) := by omega
        have b2t_23 : ((nt_12 : Int)).toNat = nt_12 := by omega
        have Hct_23_0 := Lib.hid ct_23_0
        replace ct_23_0 := cell_regrown ct_23_0
        replace H := let_hid H
        obtain ⟨t_25, ht_25, H⟩ := H
        refine wp_region_quiet_below (by kernel_rfl) (by kernel_rfl) ?_
        repeat (go_big_quiet_step (fail))
        refine wpQuiet_nil ?_
        intro Y6 hY6
        replace hY6 := below_class hY6
        replace ct_19_0 := Hct_19_0.out
        clear Hct_19_0
        replace ct_23_0 := Hct_23_0.out
        clear Hct_23_0
        have HBY6 := Lib.hid (grown_below HBwl16_16.out hY6)
        replace ct_19_0 := cell_below hY6 ct_19_0
        replace ct_23_0 := cell_below hY6 ct_23_0
        replace Pl16_16 := Lib.hid (own_below Pl16_16.out hY6)
        clear hY6
        cases t_25 with
        | false =>
          replace H := ite_f H
          replace H := idx_hid H
          obtain ⟨nt_29, yt_29, et_29, lt_29, gt_29, H⟩ := H
          obtain rfl : nt_12 = nt_29 := by omega
          clear et_29
          obtain rfl := Option.some.inj (gt_19.out.symm.trans gt_29.out)
          clear gt_29 lt_29
          replace H := let_hid H
          obtain ⟨l30_30, hl30_30, H⟩ := H
          obtain ⟨wl30_30, hwl30_30⟩ : ∃ x, (Y6).setCell ⟨qt_12, nt_12, none⟩ (.int .i64 0) = x := ⟨_, rfl⟩
          have z0l30_30 := Pl16_16.out.frozenAt (nt_12)
          have Sl30_30 := Lib.hid (own_stores [(nt_12, .int .i64 0)] Pl16_16.out)
          have nl30_30 : Hid (l30_30.length = kind.length) := Lib.hid (by rw [← hl30_30, List.length_set]; exact nl16_16.out)
          have Pl30_30 : Hid (wl30_30.ownsRow b0 3 1 (.slice (some ⟨qt_12, 0, none⟩) kind.length c1) kind.length (Go.Proofs.Ytekacbjnpeglhaa.HelpInt.iv l30_30)) := Lib.hid (by have e_ : ([(nt_12, .int .i64 0)] : List (Nat × Value)).foldl (fun xs p => xs.set p.1 p.2) (Go.Proofs.Ytekacbjnpeglhaa.HelpInt.iv l16_16) = (Go.Proofs.Ytekacbjnpeglhaa.HelpInt.iv l30_30) := (by rw [← hl30_30]; first | done | simp [Go.Proofs.Ytekacbjnpeglhaa.HelpInt.iv, List.map_set]); rw [← hwl30_30, ← e_]; exact Sl30_30.out.1)
          have Gl30_30 : Hid (Y6.grownBy wl30_30 (Value.slice (some ⟨qt_12, 0, none⟩) kind.length c1).ownBlock) := Lib.hid (by rw [← hwl30_30]; exact Sl30_30.out.2)
          have HBwl30_30 := Lib.hid (Aid.grown_tr HBY6.out Gl30_30.out)
          have hhl30_30 := Lib.hid hl30_30
          clear hl30_30 Sl30_30
          have ct_23_0__145 := cell_other ct_23_0 Gl30_30.out (Go.Proofs.Ytekacbjnpeglhaa.GoK.apart_xio X0.out (by have := lt_23; omega))
          clear Pl16_16 Gl30_30
          replace H := let_hid H
          obtain ⟨t_32, ht_32, H⟩ := H
          replace H := app_hid H
          go_wp2_with fail
          clear z0l30_30 ct_19_0 ct_23_0
          go_roundg m0
          case measure => omega
          case rel => exact ⟨_, _, rfl, H, HBwl30_30, Pl30_30, Lib.hid (nl30_30.out)⟩
        | true =>
          replace H := ite_t H
          cases ret_hid H
          go_wp2_with fail
          go_ret
          exact ⟨rfl, Pl16_16.out, nl16_16.out, HBY6.out⟩
end Go.Proofs.Ytekacbjnpeglhaa.GiAdvance

/- loop.example/g01062/impl.firstFrom as a plain function, and the contract of the program's: where the plain one has an answer, the program has it. Conditions: slices read as lists. -/
namespace Go.Proofs.Ytekacbjnpeglhaa.GiFirstFrom
set_option linter.unusedVariables false
set_option linter.unusedSimpArgs false
open Go.RowKit
open Go.Proofs.Ytekacbjnpeglhaa.Rowed Go.Proofs.Ytekacbjnpeglhaa.Turn Go.Proofs.Ytekacbjnpeglhaa.Aid Go.Proofs.Ytekacbjnpeglhaa.GoP Go.Proofs.Ytekacbjnpeglhaa.GoM

def l1 (t_sizes : (List Int)) (t_bans : (List Go.Proofs.Ytekacbjnpeglhaa.PBan.Ban)) (fuel : Nat) (nx0 : ((List Int)) → Option ((List Int) × Bool)) (kind_1l0 : (List Int)) (k1 : Nat) (s : Unit) (nx1 bk1 : Unit → Option ((List Int) × Bool)) : Option ((List Int) × Bool) :=
  
  Option.bind (idx t_bans (k1 : Int)) fun (yt_8 : Go.Proofs.Ytekacbjnpeglhaa.PBan.Ban) =>
  unBan yt_8 fun (t_8_a : Int) (t_8_x : Int) (t_8_b : Int) (t_8_y : Int) =>
  Option.bind (Go.Proofs.Ytekacbjnpeglhaa.GiForbids.P (Go.Proofs.Ytekacbjnpeglhaa.PBan.Ban.mk t_8_a t_8_x t_8_b t_8_y) kind_1l0) fun (t_14 : Bool) =>
  letK (!t_14) fun (t_15 : Bool) =>
  iteK t_15
  (appK nx1 ())
  (bind2 (Go.Proofs.Ytekacbjnpeglhaa.GiAdvance.P fuel t_sizes kind_1l0 t_8_b) fun (t_21 : Bool) (lt_21 : (List Int)) =>
  letK (!t_21) fun (t_22 : Bool) =>
  iteK t_22
  (some (([] : List Int), false))
  (appK nx0 (lt_21)))

def e1 (kind_1l0 : (List Int)) (s : Unit) : Option ((List Int) × Bool) :=
  
  some (kind_1l0, true)

def l0 (t_sizes : (List Int)) (t_bans : (List Go.Proofs.Ytekacbjnpeglhaa.PBan.Ban)) (fuel : Nat) (s : (List Int)) (nx0 bk0 : (List Int) → Option ((List Int) × Bool)) : Option ((List Int) × Bool) :=
  letK s fun kind_1l0 =>
  cntK (l1 t_sizes t_bans fuel nx0 kind_1l0) (t_bans.length) 0 () (e1 kind_1l0)

def e0  (s : (List Int)) : Option ((List Int) × Bool) :=
  letK s fun kind_1l0 =>
  some ([], false)

def P (fuel : Nat) (t_sizes : (List Int)) (t_bans : (List Go.Proofs.Ytekacbjnpeglhaa.PBan.Ban)) (kind : (List Int)) : Option ((List Int) × Bool) :=
  loopK (l0 t_sizes t_bans fuel) fuel (kind) (e0 )

set_option maxRecDepth 100000 in
set_option maxHeartbeats 2000000 in
theorem C (fuel : Nat) (t_sizes : (List Int)) (t_bans : (List Go.Proofs.Ytekacbjnpeglhaa.PBan.Ban)) (kind : (List Int)) (A0_0 : Option Addr) (c0_0 : Nat) (A0_1 : Option Addr) (c0_1 : Nat) (A1 : Option Addr) (c1 : Nat)  (b0 : Nat) (w : World) (M0_0 : Hid (Cells w 1 A0_0 t_sizes.length (Go.Proofs.Ytekacbjnpeglhaa.HelpInt.iv t_sizes))) (N0_0 : Hid (t_sizes.length ≤ 9223372036854775807)) (M0_1 : Hid (Cells w 4 A0_1 t_bans.length (Go.Proofs.Ytekacbjnpeglhaa.PBan.flat t_bans))) (N0_1 : Hid (t_bans.length ≤ 9223372036854775807)) (M1 : Hid (w.ownsRow b0 3 1 (.slice A1 kind.length c1) kind.length (Go.Proofs.Ytekacbjnpeglhaa.HelpInt.iv kind))) (N1 : Hid (kind.length ≤ 9223372036854775807))  (LB : Hid (b0 ≤ w.heap.size)) (X0_0 : Hid (0 < t_sizes.length → Apart A0_0 A1)) (X0_1 : Hid (0 < t_bans.length → Apart A0_1 A1)) {r0 : (List Int)} {r1 : Bool} (H : Hid (P fuel t_sizes t_bans kind = some (r0, r1))) :
    Calls Try.prog 96 #[.agg #[.slice A0_0 t_sizes.length c0_0, .slice A0_1 t_bans.length c0_1], .slice A1 kind.length c1] w (fun e w' => ∃ A_r0 c_r0, e = .returned (.tuple #[.slice A_r0 r0.length c_r0, .bool r1]) ∧ w'.ownsRow b0 3 1 (.slice A_r0 r0.length c_r0) r0.length (Go.Proofs.Ytekacbjnpeglhaa.HelpInt.iv r0) ∧ w.grownBy w' (Value.slice A1 kind.length c1).ownBlock ∧ Go.Proofs.Ytekacbjnpeglhaa.GoK.From w A1 A_r0) := by
  have HB := Lib.hid (Aid.grown_refl w (Value.slice A1 kind.length c1).ownBlock)
  unfold P at H
  have N0_0o := N0_0.out
  have N0_1o := N0_1.out
  have N1o := N1.out
  go_enter Try.func96, Try.ntmps96
  obtain ⟨w_t_0, hw_t_0⟩ : ∃ x, w.alloc (.cells #[.slice A0_0 t_sizes.length c0_0, .slice A0_1 t_bans.length c0_1] 30) = x := ⟨_, rfl⟩
  have bw_t_0 : Below w.heap.size w w_t_0 := by rw [← hw_t_0]; exact (Below.refl _ _).alloc (Nat.le_refl _) _
  have Dt_0_io1 := Lib.hid (apart_fresh M1.out)
  have HBw_t_0 := Lib.hid (grown_below HB.out bw_t_0)
  replace M1 := Lib.hid (own_below M1.out bw_t_0)
  clear bw_t_0
  have kt_0_0 : w_t_0.cell? ⟨w.heap.size, 0, none⟩ = some (.slice A0_0 t_sizes.length c0_0) := by rw [← hw_t_0]; exact box_new _ _ _ 0 _ rfl
  have kt_0_1 : w_t_0.cell? ⟨w.heap.size, 1, none⟩ = some (.slice A0_1 t_bans.length c0_1) := by rw [← hw_t_0]; exact box_new _ _ _ 1 _ rfl
  go_wp2_with fail
  first | refine wp_scope_straight (wp_seq (wp_label ?_)) | refine wp_seq (wp_label ?_)
  try simp only [Exit.then]
  go_wp2_with fail
  go_wp2_with fail
  go_loopg [] (fuel) (fun m_  wr => ∃ (kind_1l0 : (List Int)), Hid (loopK (l0 t_sizes t_bans fuel) m_ (kind_1l0) (e0 ) = some (r0, r1)) ∧ Hid (w.grownBy wr (Value.slice A1 kind.length c1).ownBlock) ∧ wr.cell? ⟨w.heap.size, 0, none⟩ = some (.slice A0_0 t_sizes.length c0_0) ∧ wr.cell? ⟨w.heap.size, 1, none⟩ = some (.slice A0_1 t_bans.length c0_1) ∧ Hid (wr.ownsRow b0 3 1 (.slice A1 kind.length c1) kind.length (Go.Proofs.Ytekacbjnpeglhaa.HelpInt.iv kind_1l0)) ∧ Hid (kind_1l0.length = kind.length) ∧ Hid (Apart A1 (some ⟨w.heap.size, 0, none⟩)))
  case atStart => exact ⟨_, H, HBw_t_0, kt_0_0, kt_0_1, M1, Lib.hid (rfl), Lib.hid (Apart.symm Dt_0_io1.out)⟩
  case round =>
    obtain ⟨kind_1l0, H, HBwr0, kt_0_0, kt_0_1, Okind_1l0, hnkind_1l0, Dkind_1l0_t_0⟩ := hrel
    rename World => wr0
    cases gk with
    | zero => exact (loop_zero H).elim
    | succ m0 =>
      replace H := loop_succ H
      unfold l0 at H
      replace H := let_hid H
      obtain ⟨_, rfl, H⟩ := H
      go_wp2_with fail
      go_loopg [11] (t_bans.length) (fun m_ v11_ wr => ∃ (k1 : Nat) , k1 + m_ = t_bans.length ∧ v11_ = .int .i64 (k1 : Int) ∧ Hid (cntK (l1 t_sizes t_bans fuel (fun s' => loopK (l0 t_sizes t_bans fuel) m0 s' (e0 )) kind_1l0) m_ k1 () (e1 kind_1l0) = some (r0, r1)) ∧ Hid (w.grownBy wr (Value.slice A1 kind.length c1).ownBlock) ∧ wr.cell? ⟨w.heap.size, 0, none⟩ = some (.slice A0_0 t_sizes.length c0_0) ∧ wr.cell? ⟨w.heap.size, 1, none⟩ = some (.slice A0_1 t_bans.length c0_1) ∧ Hid (wr.ownsRow b0 3 1 (.slice A1 kind.length c1) kind.length (Go.Proofs.Ytekacbjnpeglhaa.HelpInt.iv kind_1l0)))
      case atStart => exact ⟨0, by omega, rfl, H, HBwr0, kt_0_0, kt_0_1, Okind_1l0⟩
      case round =>
        obtain ⟨k1, hkm1, rfl, H, HBwr1, kt_0_0, kt_0_1, Okind_1l0⟩ := hrel
        rename World => wr1
        cases gk with
        | zero =>
          obtain rfl : k1 = t_bans.length := by omega
          have hc1 : decide (((t_bans.length : Nat) : Int) < ((t_bans.length : Nat) : Int)) = false := by simp
          replace H := cnt_zero H
          unfold e1 at H
          cases ret_hid H
          go_wp2_with fail
          try simp only [Exit.noGoto]
          go_wp2_with fail
          go_ret2
          have hr_0 := hnkind_1l0.out
          replace Okind_1l0 := Lib.hid (own_len hr_0 Okind_1l0.out)
          exact ⟨A1, c1, (by first | (rw [hr_0]; done) | (rw [hr_0]; rfl)), Okind_1l0.out, HBwr1.out, Go.Proofs.Ytekacbjnpeglhaa.GoK.from_self⟩
        | succ m1 =>
          have hlt1 : k1 < t_bans.length := by omega
          have hc1 : decide ((k1 : Int) < ((t_bans.length : Nat) : Int)) = true := by simp; omega
          replace H := cnt_succ H
          unfold l1 at H
          replace H := idx_hid H
          obtain ⟨nt_8, yt_8, et_8, lt_8, gt_8, H⟩ := H
          obtain rfl : k1 = nt_8 := by omega
          clear et_8
          obtain ⟨t_8_a, t_8_x, t_8_b, t_8_y⟩ := yt_8
          replace H := unBan_hid H
          obtain ⟨ab_t_8, ao_t_8, zt_8, At_8, z_t_8, ct_8_0, ct_8_1, ct_8_2, ct_8_3⟩ := Go.Proofs.Ytekacbjnpeglhaa.OBan.at_ M0_1.out lt_8
          obtain rfl := Option.some.inj (gt_8.out.symm.trans z_t_8)
          subst At_8
          have ltt_8 := cell_lt ct_8_0
          replace ct_8_0 := cell_other ct_8_0 HBwr1.out (Go.Proofs.Ytekacbjnpeglhaa.GoK.apart_xio X0_1.out (by omega))
          replace ct_8_1 := cell_other ct_8_1 HBwr1.out (Go.Proofs.Ytekacbjnpeglhaa.GoK.apart_xio X0_1.out (by omega))
          replace ct_8_2 := cell_other ct_8_2 HBwr1.out (Go.Proofs.Ytekacbjnpeglhaa.GoK.apart_xio X0_1.out (by omega))
          replace ct_8_3 := cell_other ct_8_3 HBwr1.out (Go.Proofs.Ytekacbjnpeglhaa.GoK.apart_xio X0_1.out (by omega))
          clear z_t_8
          have b0t_8 : (0 : Int) ≤ (k1 : Int) := by omega
          have b1t_8 : (k1 : Int) < ((t_bans.length : Nat) : Int) := by omega
          have b2t_8 : ((k1 : Int)).toNat = k1 := by omega
          obtain ⟨w_b_10, hw_b_10⟩ : ∃ x, wr1.alloc (.cells #[.int .i64 t_8_a, .int .i64 t_8_x, .int .i64 t_8_b, .int .i64 t_8_y] 57) = x := ⟨_, rfl⟩
          have bw_b_10 : Below wr1.heap.size wr1 w_b_10 := by rw [← hw_b_10]; exact (Below.refl _ _).alloc (Nat.le_refl _) _
          have Db_10_kind_1l0 := Lib.hid (apart_fresh Okind_1l0.out)
          have HBw_b_10 := Lib.hid (grown_below HBwr1.out bw_b_10)
          have kt_0_0__146 := cell_below bw_b_10 kt_0_0
          have kt_0_1__147 := cell_below bw_b_10 kt_0_1
          have ct_8_0__148 := cell_below bw_b_10 ct_8_0
          have ct_8_1__149 := cell_below bw_b_10 ct_8_1
          have ct_8_2__150 := cell_below bw_b_10 ct_8_2
          have ct_8_3__151 := cell_below bw_b_10 ct_8_3
          replace Okind_1l0 := Lib.hid (own_below Okind_1l0.out bw_b_10)
          clear bw_b_10
          have kb_10_0 : w_b_10.cell? ⟨wr1.heap.size, 0, none⟩ = some (.int .i64 t_8_a) := by rw [← hw_b_10]; exact box_new _ _ _ 0 _ rfl
          have kb_10_1 : w_b_10.cell? ⟨wr1.heap.size, 1, none⟩ = some (.int .i64 t_8_x) := by rw [← hw_b_10]; exact box_new _ _ _ 1 _ rfl
          have kb_10_2 : w_b_10.cell? ⟨wr1.heap.size, 2, none⟩ = some (.int .i64 t_8_b) := by rw [← hw_b_10]; exact box_new _ _ _ 2 _ rfl
          have kb_10_3 : w_b_10.cell? ⟨wr1.heap.size, 3, none⟩ = some (.int .i64 t_8_y) := by rw [← hw_b_10]; exact box_new _ _ _ 3 _ rfl
          replace H := bind_hid H
          obtain ⟨t_14, qt_14, H⟩ := H
          go_wp2_with fail
          clear kt_0_0 kt_0_1 ct_8_0 ct_8_1 ct_8_2 ct_8_3
          have hc0_ := hnkind_1l0.out
          have Oct_14_1 := Lib.hid (own_len hc0_ Okind_1l0.out)
          have con_ := Go.Proofs.Ytekacbjnpeglhaa.GiForbids.C ((Go.Proofs.Ytekacbjnpeglhaa.PBan.Ban.mk t_8_a t_8_x t_8_b t_8_y)) (kind_1l0) A1 c1 _   (Lib.hid (own_cells Oct_14_1.out)) (Lib.hid (own_max Oct_14_1.out)) qt_14
          rw [hc0_] at con_
          clear hc0_ Oct_14_1
          go_at_call 64
          refine con_.mono ?_
          rintro e_t_14 wt_14 ⟨rfl, bt_14⟩
          have HBwt_14 := Lib.hid (grown_below HBw_b_10.out bt_14)
          replace kt_0_0__146 := cell_below bt_14 kt_0_0__146
          replace kt_0_1__147 := cell_below bt_14 kt_0_1__147
          replace ct_8_0__148 := cell_below bt_14 ct_8_0__148
          replace ct_8_1__149 := cell_below bt_14 ct_8_1__149
          replace ct_8_2__150 := cell_below bt_14 ct_8_2__150
          replace ct_8_3__151 := cell_below bt_14 ct_8_3__151
          replace kb_10_0 := cell_below bt_14 kb_10_0
          replace kb_10_1 := cell_below bt_14 kb_10_1
          replace kb_10_2 := cell_below bt_14 kb_10_2
          replace kb_10_3 := cell_below bt_14 kb_10_3
          replace Okind_1l0 := Lib.hid (own_below Okind_1l0.out bt_14)
          clear bt_14
          cases t_14 with
          | false =>
            replace H := let_hid H
            obtain ⟨t_15, ht_15, H⟩ := H
            obtain rfl : t_15 = true := ht_15.symm
            replace H := ite_t H
            replace H := app_hid H
            go_wp2_with fail
            go_roundg m1
            case measure => omega
            case rel => exact ⟨k1 + 1, by omega, by go_num, H, HBwt_14, kt_0_0__146, kt_0_1__147, Okind_1l0⟩
          | true =>
            replace H := let_hid H
            obtain ⟨t_15, ht_15, H⟩ := H
            obtain rfl : t_15 = false := ht_15.symm
            replace H := ite_f H
            replace H := bind2_hid H
            obtain ⟨t_21, lt_21, qt_21, H⟩ := H
            go_wp2_with fail
            have hc0_ := hnkind_1l0.out
            have Oct_21_1 := Lib.hid (own_len hc0_ Okind_1l0.out)
            have con_ := Go.Proofs.Ytekacbjnpeglhaa.GiAdvance.C fuel (t_sizes) (kind_1l0) (t_8_b) A0_0 c0_0 A1 c1 b0 _   (Lib.hid (Go.Proofs.Ytekacbjnpeglhaa.GoK.cells_wr M0_0.out HBwt_14.out X0_0.out)) N0_0 Oct_21_1 (Lib.hid (own_max Oct_21_1.out))  X0_0 qt_21
            rw [hc0_] at con_
            clear hc0_ Oct_21_1
            go_at_call 97
            refine con_.mono ?_
            rintro e_t_21 wt_21 ⟨rfl, ot_21, nt_21, gt_21⟩
            have Pt_21 := Lib.hid ot_21
            have Gt_21 := Lib.hid gt_21
            replace nt_21 := Lib.hid nt_21
            clear ot_21 gt_21
            have HBwt_21 := Lib.hid (Aid.grown_tr HBwt_14.out Gt_21.out)
            replace kt_0_0__146 := cell_other kt_0_0__146 Gt_21.out Dkind_1l0_t_0.out
            replace kt_0_1__147 := cell_other kt_0_1__147 Gt_21.out Dkind_1l0_t_0.out
            replace ct_8_0__148 := cell_other ct_8_0__148 Gt_21.out (Go.Proofs.Ytekacbjnpeglhaa.GoK.apart_xio X0_1.out (by have := lt_8; omega))
            replace ct_8_1__149 := cell_other ct_8_1__149 Gt_21.out (Go.Proofs.Ytekacbjnpeglhaa.GoK.apart_xio X0_1.out (by have := lt_8; omega))
            replace ct_8_2__150 := cell_other ct_8_2__150 Gt_21.out (Go.Proofs.Ytekacbjnpeglhaa.GoK.apart_xio X0_1.out (by have := lt_8; omega))
            replace ct_8_3__151 := cell_other ct_8_3__151 Gt_21.out (Go.Proofs.Ytekacbjnpeglhaa.GoK.apart_xio X0_1.out (by have := lt_8; omega))
            replace kb_10_0 := cell_other kb_10_0 Gt_21.out (Apart.symm Db_10_kind_1l0.out)
            replace kb_10_1 := cell_other kb_10_1 Gt_21.out (Apart.symm Db_10_kind_1l0.out)
            replace kb_10_2 := cell_other kb_10_2 Gt_21.out (Apart.symm Db_10_kind_1l0.out)
            replace kb_10_3 := cell_other kb_10_3 Gt_21.out (Apart.symm Db_10_kind_1l0.out)
            clear Okind_1l0 Gt_21
            cases t_21 with
            | false =>
              replace H := let_hid H
              obtain ⟨t_22, ht_22, H⟩ := H
              obtain rfl : t_22 = true := ht_22.symm
              replace H := ite_t H
              obtain ⟨w_t_23, hw_t_23⟩ : ∃ x, wt_21.alloc (.cells #[] 3) = x := ⟨_, rfl⟩
              have bw_t_23 : Below wt_21.heap.size wt_21 w_t_23 := by rw [← hw_t_23]; exact (Below.refl _ _).alloc (Nat.le_refl _) _
              have lot_23 : Hid (w.heap.size ≤ wt_21.heap.size) := Lib.hid HBwt_21.out.size
              have Ot_23 : Hid (w_t_23.ownsRow b0 3 1 (.slice (some ⟨wt_21.heap.size, 0, none⟩) 0 0) 0 []) := Lib.hid (by rw [← hw_t_23]; exact Go.Proofs.Ytekacbjnpeglhaa.GoK.own_emptyB (Nat.le_trans LB.out lot_23.out))
              have Dt_23_kind_1l0 := Lib.hid (apart_fresh Pt_21.out)
              have Dt_23_t_0 := Lib.hid (apart_box kt_0_0__146)
              have Dt_23_b_10 := Lib.hid (apart_box kb_10_0)
              have HBw_t_23 := Lib.hid (grown_below HBwt_21.out bw_t_23)
              have kt_0_0__152 := cell_below bw_t_23 kt_0_0__146
              have kt_0_1__153 := cell_below bw_t_23 kt_0_1__147
              have ct_8_0__154 := cell_below bw_t_23 ct_8_0__148
              have ct_8_1__155 := cell_below bw_t_23 ct_8_1__149
              have ct_8_2__156 := cell_below bw_t_23 ct_8_2__150
              have ct_8_3__157 := cell_below bw_t_23 ct_8_3__151
              have kb_10_0__158 := cell_below bw_t_23 kb_10_0
              have kb_10_1__159 := cell_below bw_t_23 kb_10_1
              have kb_10_2__160 := cell_below bw_t_23 kb_10_2
              have kb_10_3__161 := cell_below bw_t_23 kb_10_3
              replace Pt_21 := Lib.hid (own_below Pt_21.out bw_t_23)
              clear bw_t_23
              cases ret_hid H
              go_wp2_with fail
              try simp only [Exit.noGoto]
              go_wp2_with fail
              go_ret2
              exact ⟨(some ⟨wt_21.heap.size, 0, none⟩), 0, rfl, Ot_23.out, HBw_t_23.out, (Go.Proofs.Ytekacbjnpeglhaa.GoK.from_new lot_23.out)⟩
            | true =>
              replace H := let_hid H
              obtain ⟨t_22, ht_22, H⟩ := H
              obtain rfl : t_22 = false := ht_22.symm
              replace H := ite_f H
              replace H := app_hid H
              go_wp2_with fail
              go_roundg m0
              case measure => omega
              case rel => exact ⟨_, H, HBwt_21, kt_0_0__146, kt_0_1__147, Pt_21, Lib.hid (nt_21.out), Lib.hid Dkind_1l0_t_0.out⟩
end Go.Proofs.Ytekacbjnpeglhaa.GiFirstFrom

/- loop.example/g01062/impl.firstOf as a plain function, and the contract of the program's: where the plain one has an answer, the program has it. Conditions: slices read as lists. -/
namespace Go.Proofs.Ytekacbjnpeglhaa.GiFirstOf
set_option linter.unusedVariables false
set_option linter.unusedSimpArgs false
open Go.RowKit
open Go.Proofs.Ytekacbjnpeglhaa.Rowed Go.Proofs.Ytekacbjnpeglhaa.Turn Go.Proofs.Ytekacbjnpeglhaa.Aid Go.Proofs.Ytekacbjnpeglhaa.GoP Go.Proofs.Ytekacbjnpeglhaa.GoM

def P (fuel : Nat) (t_sizes : (List Int)) (t_bans : (List Go.Proofs.Ytekacbjnpeglhaa.PBan.Ban)) : Option ((List Int) × Bool) :=
  guardK (0 ≤ (t_sizes.length : Int) ∧ (t_sizes.length : Int) ≤ 1099511627776) <|
  letK (List.replicate t_sizes.length 0) fun (t_7 : (List Int)) =>
  bind2 (Go.Proofs.Ytekacbjnpeglhaa.GiFirstFrom.P fuel t_sizes t_bans t_7) fun (t_8a : (List Int)) (t_8b : Bool) =>
  some (t_8a, t_8b)

set_option maxRecDepth 100000 in
set_option maxHeartbeats 2000000 in
theorem C (fuel : Nat) (t_sizes : (List Int)) (t_bans : (List Go.Proofs.Ytekacbjnpeglhaa.PBan.Ban)) (A0_0 : Option Addr) (c0_0 : Nat) (A0_1 : Option Addr) (c0_1 : Nat)  (w : World) (M0_0 : Hid (Cells w 1 A0_0 t_sizes.length (Go.Proofs.Ytekacbjnpeglhaa.HelpInt.iv t_sizes))) (N0_0 : Hid (t_sizes.length ≤ 9223372036854775807)) (M0_1 : Hid (Cells w 4 A0_1 t_bans.length (Go.Proofs.Ytekacbjnpeglhaa.PBan.flat t_bans))) (N0_1 : Hid (t_bans.length ≤ 9223372036854775807))  {r0 : (List Int)} {r1 : Bool} (H : Hid (P fuel t_sizes t_bans = some (r0, r1))) :
    Calls Try.prog 68 #[.agg #[.slice A0_0 t_sizes.length c0_0, .slice A0_1 t_bans.length c0_1]] w (fun e w' => ∃ A_r0 c_r0, e = .returned (.tuple #[.slice A_r0 r0.length c_r0, .bool r1]) ∧ w'.ownsRow w.heap.size 3 1 (.slice A_r0 r0.length c_r0) r0.length (Go.Proofs.Ytekacbjnpeglhaa.HelpInt.iv r0) ∧ Below w.heap.size w w') := by
  have HB := Lib.hid (Below.refl w.heap.size w)
  unfold P at H
  have N0_0o := N0_0.out
  have N0_1o := N0_1.out
  obtain ⟨i0_3, hi_3, hz0_3, hz1_3, hz2_3⟩ := Aid.info_parts (P := Try.prog) (T := 3) (z := .int .i64 0) (s := 1) (b := 8) (by kernel_rfl)
  go_enter Try.func68, Try.ntmps68
  obtain ⟨w_t_0, hw_t_0⟩ : ∃ x, w.alloc (.cells #[.slice A0_0 t_sizes.length c0_0, .slice A0_1 t_bans.length c0_1] 30) = x := ⟨_, rfl⟩
  have bw_t_0 : Below w.heap.size w w_t_0 := by rw [← hw_t_0]; exact (Below.refl _ _).alloc (Nat.le_refl _) _
  have HBw_t_0 := Lib.hid (Below.step HB.out bw_t_0)
  clear bw_t_0
  have kt_0_0 : w_t_0.cell? ⟨w.heap.size, 0, none⟩ = some (.slice A0_0 t_sizes.length c0_0) := by rw [← hw_t_0]; exact box_new _ _ _ 0 _ rfl
  have kt_0_1 : w_t_0.cell? ⟨w.heap.size, 1, none⟩ = some (.slice A0_1 t_bans.length c0_1) := by rw [← hw_t_0]; exact box_new _ _ _ 1 _ rfl
  go_wp2_with fail
  have bd1 : Below w_t_0.heap.size w_t_0 w_t_0.drew := (Below.refl _ _).drew
  have HBw_t_0.drew := Lib.hid (Below.step HBw_t_0.out bd1)
  replace kt_0_0 := cell_below bd1 kt_0_0
  replace kt_0_1 := cell_below bd1 kt_0_1
  clear bd1
  replace H := guard_hid H
  obtain ⟨hnt_7, H⟩ := H
  replace H := let_hid H
  obtain ⟨t_7, ht_7, H⟩ := H
  have hst_7 := HBw_t_0.drew.out.size
  have hlt_7 : t_7.length = t_sizes.length := by rw [← ht_7]; simp
  have hht_7 := Lib.hid ht_7
  clear ht_7
  have Dt_7_t_0 := Lib.hid (apart_box kt_0_0)
  obtain ⟨wt_7, rt_7, ot_7, gt_7⟩ := run_make_full (P := Try.prog) (w := w_t_0.drew) w.heap.size 22 3 i0_3 (.int .i64 0) 1 Try.underlying22 hi_3 hz0_3 hz1_3 .i64 .i64 t_sizes.length (by rw [hz2_3]; omega) (by unfold maxLen; omega) hst_7
  have Qt_7 := Lib.hid ot_7
  have Gt_7 := Lib.hid gt_7
  clear ot_7 gt_7
  have Et_7 : (Go.Proofs.Ytekacbjnpeglhaa.HelpInt.iv t_7) = (madeCells (.int .i64 0 : Value).cells (t_sizes.length * 1)).toList := by
    rw [made_flat (fun x => [.int .i64 x]) 0 _ 1 _ rfl rfl (by decide), ← hht_7.out]
    exact map_flat _ _
  have Pt_7 : Hid (wt_7.ownsRow w.heap.size 3 1 (.slice (some ⟨w_t_0.drew.heap.size, 0, none⟩) t_sizes.length t_sizes.length) t_sizes.length (Go.Proofs.Ytekacbjnpeglhaa.HelpInt.iv t_7)) := Lib.hid (by rw [Et_7]; exact Qt_7.out)
  clear Et_7
  replace hlt_7 := Lib.hid hlt_7
  clear Qt_7 hst_7
  have bt_7 : Below w_t_0.drew.heap.size w_t_0.drew wt_7 := (Below.refl _ _).grown Gt_7.out (Nat.le_refl _) (by simp)
  clear Gt_7
  have HBwt_7 := Lib.hid (Below.step HBw_t_0.drew.out bt_7)
  have kt_0_0__162 := cell_below bt_7 kt_0_0
  have kt_0_1__163 := cell_below bt_7 kt_0_1
  clear bt_7
  replace H := bind2_hid H
  obtain ⟨t_8a, t_8b, qt_8, H⟩ := H
  go_region_held3 (fun w' => w'.cell? ⟨w.heap.size, 0, none⟩ = some (.slice A0_0 t_sizes.length c0_0) ∧ w'.cell? ⟨w.heap.size, 1, none⟩ = some (.slice A0_1 t_bans.length c0_1)) (first | exact ⟨kt_0_0, kt_0_1⟩ | exact ⟨kt_0_0__162, kt_0_1__163⟩)
      (first
        | (have hc0_ := hlt_7.out
           have Oct_8_1 := Lib.hid (own_len hc0_ Pt_7.out)
           have con_ := Go.Proofs.Ytekacbjnpeglhaa.GiFirstFrom.C fuel (t_sizes) (t_bans) (t_7) A0_0 c0_0 A0_1 c0_1 (some ⟨w_t_0.drew.heap.size, 0, none⟩) t_sizes.length w.heap.size _   (Lib.hid (Cells.below M0_0.out HBwt_7.out)) N0_0 (Lib.hid (Cells.below M0_1.out HBwt_7.out)) N0_1 Oct_8_1 (Lib.hid (own_max Oct_8_1.out)) (Lib.hid HBwt_7.out.size) (Lib.hid (Go.Proofs.Ytekacbjnpeglhaa.GoK.far_base (by decide) M0_0.out Oct_8_1.out)) (Lib.hid (Go.Proofs.Ytekacbjnpeglhaa.GoK.far_base (by decide) M0_1.out Oct_8_1.out)) qt_8
           rw [hc0_] at con_
           clear hc0_ Oct_8_1
           go_at_call 96
           refine con_.mono ?_
           rintro e_t_8 wt_8 ⟨At_8a, ct_8a, rfl, ot_8, gt_8, yt_8⟩
           have Pt_8 := Lib.hid ot_8
           have Gt_8 := Lib.hid gt_8
           replace yt_8 := Lib.hid yt_8
           clear ot_8 gt_8
           have HBwt_8 := Lib.hid (HBwt_7.out.grown Gt_8.out HBwt_7.out.size (fun q hq => (Pt_7.out.lt q hq).1))
           have Dt_8a_t_0 : Hid (Apart At_8a _) := Lib.hid (Go.Proofs.Ytekacbjnpeglhaa.GoK.apart_from Dt_7_t_0.out (fun a_ ha_ => by cases ha_; exact cell_lt kt_0_0__162) yt_8.out)
           replace kt_0_0__162 := cell_other kt_0_0__162 Gt_8.out Dt_7_t_0.out
           replace kt_0_1__163 := cell_other kt_0_1__163 Gt_8.out Dt_7_t_0.out
           clear rt_7 kt_0_0 kt_0_1
           clear Pt_7 Gt_8 yt_8
           clear qt_8))
  cases ret_hid H
  go_wp2_with fail
  go_ret2
  exact ⟨At_8a, ct_8a, rfl, Pt_8.out, HBwt_8.out⟩
end Go.Proofs.Ytekacbjnpeglhaa.GiFirstOf

/- slices.Clone[[]int,int] as a plain function, and the contract of the program's: where the plain one has an answer, the program has it. Conditions: slices read as lists. -/
namespace Go.Proofs.Ytekacbjnpeglhaa.GxSlicesCloneIntInt
set_option linter.unusedVariables false
set_option linter.unusedSimpArgs false
open Go.RowKit
open Go.Proofs.Ytekacbjnpeglhaa.Rowed Go.Proofs.Ytekacbjnpeglhaa.Turn Go.Proofs.Ytekacbjnpeglhaa.Aid Go.Proofs.Ytekacbjnpeglhaa.GoP Go.Proofs.Ytekacbjnpeglhaa.GoM

def P (s_0 : (List Int)) : Option ((List Int)) :=
  Go.Proofs.Ytekacbjnpeglhaa.GoK.nilK s_0 fun (nt_2 : Bool) =>
  iteK nt_2
  (some [])
  (guardK (([] : List Int).length + s_0.length ≤ 1099511627776) <|
  letK (([] : List Int) ++ s_0) fun (t_6 : (List Int)) =>
  some t_6)

set_option maxRecDepth 100000 in
set_option maxHeartbeats 2000000 in
theorem C (s_0 : (List Int)) (A0 : Option Addr) (c0 : Nat)  (w : World) (M0 : Hid (Cells w 1 A0 s_0.length (Go.Proofs.Ytekacbjnpeglhaa.HelpInt.iv s_0))) (N0 : Hid (s_0.length ≤ 9223372036854775807)) (Q0 : Hid (Room A0 s_0.length c0))  {r : (List Int)} (H : Hid (P s_0 = some r)) :
    Calls Try.prog 80 #[.slice A0 s_0.length c0] w (fun e w' => ∃ A_r c_r, e = .returned (.slice A_r r.length c_r) ∧ w'.ownsRow w.heap.size 3 1 (.slice A_r r.length c_r) r.length (Go.Proofs.Ytekacbjnpeglhaa.HelpInt.iv r) ∧ Below w.heap.size w w') := by
  have HB := Lib.hid (Below.refl w.heap.size w)
  unfold P at H
  have N0o := N0.out
  obtain ⟨i0_3, hi_3, hz0_3, hz1_3, hz2_3⟩ := Aid.info_parts (P := Try.prog) (T := 3) (z := .int .i64 0) (s := 1) (b := 8) (by kernel_rfl)
  go_enter Try.func80, Try.ntmps80
  have mt_2 := Go.Proofs.Ytekacbjnpeglhaa.GoK.nil_cells (l := s_0) (Cells.below M0.out HB.out) (fun h_ => by cases s_0 with | nil => rfl | cons y_ ys_ => simp [Go.Proofs.Ytekacbjnpeglhaa.HelpInt.iv] at h_)
  obtain ⟨nt_2, ht_2⟩ : ∃ z_, (A0 : Option Addr).isNone = z_ := ⟨_, rfl⟩
  have rt_2 : ∀ W_, (binOp .eql 22 (.slice A0 s_0.length c0) (.slice none 0 0)).run Try.prog W_ = .ok (.bool nt_2) W_ := by intro W_; rw [← ht_2]; exact Lib.run_eql_slice_nil W_ _ _ _ _ _ _ _ Try.underlying22
  replace H := Go.Proofs.Ytekacbjnpeglhaa.GoK.nilK_hid H nt_2 (by rw [← ht_2]; exact mt_2) (by intro h_; subst h_; rfl)
  clear mt_2 ht_2
  cases nt_2 with
  | false =>
    replace H := ite_f H
    obtain ⟨w_t_4, hw_t_4⟩ : ∃ x, w.alloc (.cells #[] 3) = x := ⟨_, rfl⟩
    have bw_t_4 : Below w.heap.size w w_t_4 := by rw [← hw_t_4]; exact (Below.refl _ _).alloc (Nat.le_refl _) _
    have Ot_4 : Hid (w_t_4.ownsRow w.heap.size 3 1 (.slice (some ⟨w.heap.size, 0, none⟩) 0 0) 0 []) := Lib.hid (by rw [← hw_t_4]; exact own_empty HB.out.size)
    have HBw_t_4 := Lib.hid (Below.step HB.out bw_t_4)
    clear bw_t_4
    replace H := guard_hid H
    obtain ⟨hlt_6, H⟩ := H
    replace H := let_hid H
    obtain ⟨t_6, ht_6, H⟩ := H
    have hht_6 := Lib.hid ht_6
    clear ht_6
    have hst_6 := HBw_t_4.out.size
    have Ct_6 := Lib.hid ((Cells.below M0.out HBw_t_4.out))
    go_wp2_with (at_builtin; refine append_spread rfl _ _ 22 rfl w.heap.size 3 i0_3 (.int .i64 0) 1 8 Try.underlying22 hi_3 hz0_3 hz1_3 hz2_3 rfl (by decide) (some ⟨w.heap.size, 0, none⟩) 0 0 _ rfl Ot_4.out A0 s_0.length c0 (Go.Proofs.Ytekacbjnpeglhaa.HelpInt.iv s_0) rfl Q0.out Ct_6.out (fun u hu => by unfold Go.Proofs.Ytekacbjnpeglhaa.HelpInt.iv at hu; obtain ⟨y_, _, rfl⟩ := List.mem_map.1 hu; rfl) (by unfold maxLen; simp only [List.length_nil] at hlt_6; omega) (by simp only [List.length_nil] at hlt_6; omega) hst_6 ?_; intro vt_6 wt_6 ot_6 gt_6 yt_6; obtain ⟨At_6, ct_6, rfl, pt_6⟩ := own_pushS (f := Go.Proofs.Ytekacbjnpeglhaa.HelpInt.iv) hht_6.out (by simp [Go.Proofs.Ytekacbjnpeglhaa.HelpInt.iv]) rfl ot_6; have Pt_6 := Lib.hid pt_6; have Yt_6 := Lib.hid yt_6; have Gt_6 := Lib.hid gt_6; clear ot_6 gt_6 pt_6 yt_6; refine stop_in ?_)
    refine stop_out ?_
    clear Ct_6
    have HBwt_6 := Lib.hid (HBw_t_4.out.grown Gt_6.out hst_6 (fun q hq => (Ot_4.out.lt q hq).1))
    clear hst_6
    clear Ot_4 Yt_6 Gt_6
    obtain rfl := ret_hid H
    go_wp2_with fail
    go_ret
    exact ⟨At_6, ct_6, rfl, Pt_6.out, HBwt_6.out⟩
  | true =>
    replace H := ite_t H
    obtain rfl := ret_hid H
    go_wp2_with fail
    go_ret
    exact ⟨none, 0, rfl, own_nil, HB.out⟩
end Go.Proofs.Ytekacbjnpeglhaa.GxSlicesCloneIntInt

/- loop.example/g01062/impl.firstBehind as a plain function, and the contract of the program's: where the plain one has an answer, the program has it. Conditions: slices read as lists. -/
namespace Go.Proofs.Ytekacbjnpeglhaa.GiFirstBehind
set_option linter.unusedVariables false
set_option linter.unusedSimpArgs false
open Go.RowKit
open Go.Proofs.Ytekacbjnpeglhaa.Rowed Go.Proofs.Ytekacbjnpeglhaa.Turn Go.Proofs.Ytekacbjnpeglhaa.Aid Go.Proofs.Ytekacbjnpeglhaa.GoP Go.Proofs.Ytekacbjnpeglhaa.GoM

def P (fuel : Nat) (t_sizes : (List Int)) (t_bans : (List Go.Proofs.Ytekacbjnpeglhaa.PBan.Ban)) (kind : (List Int)) : Option ((List Int) × Bool) :=
  Option.bind (Go.Proofs.Ytekacbjnpeglhaa.GxSlicesCloneIntInt.P kind) fun (t_4 : (List Int)) =>
  letK (IntKind.i64.wrap ((t_4.length : Int) - 1)) fun (t_11 : Int) =>
  bind2 (Go.Proofs.Ytekacbjnpeglhaa.GiAdvance.P fuel t_sizes t_4 t_11) fun (t_12 : Bool) (lt_12 : (List Int)) =>
  letK (!t_12) fun (t_13 : Bool) =>
  iteK t_13
  (some (([] : List Int), false))
  (bind2 (Go.Proofs.Ytekacbjnpeglhaa.GiFirstFrom.P fuel t_sizes t_bans lt_12) fun (t_19a : (List Int)) (t_19b : Bool) =>
  some (t_19a, t_19b))

set_option maxRecDepth 100000 in
set_option maxHeartbeats 2000000 in
theorem C (fuel : Nat) (t_sizes : (List Int)) (t_bans : (List Go.Proofs.Ytekacbjnpeglhaa.PBan.Ban)) (kind : (List Int)) (A0_0 : Option Addr) (c0_0 : Nat) (A0_1 : Option Addr) (c0_1 : Nat) (A1 : Option Addr) (c1 : Nat)  (w : World) (M0_0 : Hid (Cells w 1 A0_0 t_sizes.length (Go.Proofs.Ytekacbjnpeglhaa.HelpInt.iv t_sizes))) (N0_0 : Hid (t_sizes.length ≤ 9223372036854775807)) (Q0_0 : Hid (Room A0_0 t_sizes.length c0_0)) (M0_1 : Hid (Cells w 4 A0_1 t_bans.length (Go.Proofs.Ytekacbjnpeglhaa.PBan.flat t_bans))) (N0_1 : Hid (t_bans.length ≤ 9223372036854775807)) (Q0_1 : Hid (Room A0_1 t_bans.length c0_1)) (M1 : Hid (Cells w 1 A1 kind.length (Go.Proofs.Ytekacbjnpeglhaa.HelpInt.iv kind))) (N1 : Hid (kind.length ≤ 9223372036854775807)) (Q1 : Hid (Room A1 kind.length c1))  {r0 : (List Int)} {r1 : Bool} (H : Hid (P fuel t_sizes t_bans kind = some (r0, r1))) :
    Calls Try.prog 71 #[.agg #[.slice A0_0 t_sizes.length c0_0, .slice A0_1 t_bans.length c0_1], .slice A1 kind.length c1] w (fun e w' => ∃ A_r0 c_r0, e = .returned (.tuple #[.slice A_r0 r0.length c_r0, .bool r1]) ∧ w'.ownsRow w.heap.size 3 1 (.slice A_r0 r0.length c_r0) r0.length (Go.Proofs.Ytekacbjnpeglhaa.HelpInt.iv r0) ∧ Below w.heap.size w w') := by
  have HB := Lib.hid (Below.refl w.heap.size w)
  unfold P at H
  have N0_0o := N0_0.out
  have N0_1o := N0_1.out
  have N1o := N1.out
  go_enter Try.func71, Try.ntmps71
  obtain ⟨w_t_0, hw_t_0⟩ : ∃ x, w.alloc (.cells #[.slice A0_0 t_sizes.length c0_0, .slice A0_1 t_bans.length c0_1] 30) = x := ⟨_, rfl⟩
  have bw_t_0 : Below w.heap.size w w_t_0 := by rw [← hw_t_0]; exact (Below.refl _ _).alloc (Nat.le_refl _) _
  have HBw_t_0 := Lib.hid (Below.step HB.out bw_t_0)
  clear bw_t_0
  have kt_0_0 : w_t_0.cell? ⟨w.heap.size, 0, none⟩ = some (.slice A0_0 t_sizes.length c0_0) := by rw [← hw_t_0]; exact box_new _ _ _ 0 _ rfl
  have kt_0_1 : w_t_0.cell? ⟨w.heap.size, 1, none⟩ = some (.slice A0_1 t_bans.length c0_1) := by rw [← hw_t_0]; exact box_new _ _ _ 1 _ rfl
  replace H := bind_hid H
  obtain ⟨t_4, qt_4, H⟩ := H
  go_wp2_with fail
  go_at_call 80
  refine (Go.Proofs.Ytekacbjnpeglhaa.GxSlicesCloneIntInt.C (kind) A1 c1 _   (Lib.hid (Cells.below M1.out HBw_t_0.out)) N1 Q1 qt_4).mono ?_
  rintro e_t_4 wt_4 ⟨At_4, ct_4, rfl, ot_4, bt_4⟩
  have Dt_4_t_0 := Lib.hid (apart_callbox ot_4 kt_0_0)
  have Ot_4 := Lib.hid (own_lower ot_4 HBw_t_0.out.size)
  clear ot_4
  have HBwt_4 := Lib.hid (Below.step HBw_t_0.out bt_4)
  replace kt_0_0 := cell_below bt_4 kt_0_0
  replace kt_0_1 := cell_below bt_4 kt_0_1
  clear bt_4
  replace H := let_hid H
  obtain ⟨t_11, ht_11, H⟩ := H
  try have hv_t_11 : (t_4.length : Int) - 1 = t_11 := by rw [← ht_11]; exact (IntWalk.i64_in _ (by omega)).symm
  try have hv2_t_11 : IntKind.i64.wrap t_11 = t_11 := by rw [← hv_t_11]; exact IntWalk.i64_in _ (by omega)
  replace H := bind2_hid H
  obtain ⟨t_12, lt_12, qt_12, H⟩ := H
  go_wp2_with fail
  go_at_call 97
  refine (Go.Proofs.Ytekacbjnpeglhaa.GiAdvance.C fuel (t_sizes) (t_4) (t_11) A0_0 c0_0 At_4 ct_4 w.heap.size _   (Lib.hid (Cells.below M0_0.out HBwt_4.out)) N0_0 Ot_4 (Lib.hid (own_max Ot_4.out))  (Lib.hid (Go.Proofs.Ytekacbjnpeglhaa.GoK.far_base (by decide) M0_0.out Ot_4.out)) qt_12).mono ?_
  rintro e_t_12 wt_12 ⟨rfl, ot_12, nt_12, gt_12⟩
  have Pt_12 := Lib.hid ot_12
  have Gt_12 := Lib.hid gt_12
  replace nt_12 := Lib.hid nt_12
  clear ot_12 gt_12
  have HBwt_12 := Lib.hid (HBwt_4.out.grown Gt_12.out HBwt_4.out.size (fun q hq => (Ot_4.out.lt q hq).1))
  replace kt_0_0 := cell_other kt_0_0 Gt_12.out Dt_4_t_0.out
  replace kt_0_1 := cell_other kt_0_1 Gt_12.out Dt_4_t_0.out
  clear Ot_4 Gt_12
  cases t_12 with
  | false =>
    replace H := let_hid H
    obtain ⟨t_13, ht_13, H⟩ := H
    obtain rfl : t_13 = true := ht_13.symm
    replace H := ite_t H
    obtain ⟨w_t_14, hw_t_14⟩ : ∃ x, wt_12.alloc (.cells #[] 3) = x := ⟨_, rfl⟩
    have bw_t_14 : Below wt_12.heap.size wt_12 w_t_14 := by rw [← hw_t_14]; exact (Below.refl _ _).alloc (Nat.le_refl _) _
    have Ot_14 : Hid (w_t_14.ownsRow w.heap.size 3 1 (.slice (some ⟨wt_12.heap.size, 0, none⟩) 0 0) 0 []) := Lib.hid (by rw [← hw_t_14]; exact own_empty HBwt_12.out.size)
    have Dt_14_t_4 := Lib.hid (apart_fresh Pt_12.out)
    have Dt_14_t_0 := Lib.hid (apart_box kt_0_0)
    have HBw_t_14 := Lib.hid (Below.step HBwt_12.out bw_t_14)
    have kt_0_0__164 := cell_below bw_t_14 kt_0_0
    have kt_0_1__165 := cell_below bw_t_14 kt_0_1
    replace Pt_12 := Lib.hid (own_below Pt_12.out bw_t_14)
    clear bw_t_14
    cases ret_hid H
    go_wp2_with fail
    go_ret2
    exact ⟨(some ⟨wt_12.heap.size, 0, none⟩), 0, rfl, Ot_14.out, HBw_t_14.out⟩
  | true =>
    replace H := let_hid H
    obtain ⟨t_13, ht_13, H⟩ := H
    obtain rfl : t_13 = false := ht_13.symm
    replace H := ite_f H
    go_wp2_with fail
    have hc_ := nt_12.out
    have hv_ : (Value.slice At_4 t_4.length ct_4 : Value) = Value.slice At_4 lt_12.length ct_4 := by rw [hc_]
    try rw [hv_]
    replace Pt_12 := Lib.hid (own_len hc_ Pt_12.out)
    clear hc_ hv_
    replace H := bind2_hid H
    obtain ⟨t_19a, t_19b, qt_19, H⟩ := H
    go_wp2_with fail
    go_at_call 96
    refine (Go.Proofs.Ytekacbjnpeglhaa.GiFirstFrom.C fuel (t_sizes) (t_bans) (lt_12) A0_0 c0_0 A0_1 c0_1 At_4 ct_4 w.heap.size _   (Lib.hid (Cells.below M0_0.out HBwt_12.out)) N0_0 (Lib.hid (Cells.below M0_1.out HBwt_12.out)) N0_1 Pt_12 (Lib.hid (own_max Pt_12.out)) (Lib.hid HBwt_12.out.size) (Lib.hid (Go.Proofs.Ytekacbjnpeglhaa.GoK.far_base (by decide) M0_0.out Pt_12.out)) (Lib.hid (Go.Proofs.Ytekacbjnpeglhaa.GoK.far_base (by decide) M0_1.out Pt_12.out)) qt_19).mono ?_
    rintro e_t_19 wt_19 ⟨At_19a, ct_19a, rfl, ot_19, gt_19, yt_19⟩
    have Pt_19 := Lib.hid ot_19
    have Gt_19 := Lib.hid gt_19
    replace yt_19 := Lib.hid yt_19
    clear ot_19 gt_19
    have HBwt_19 := Lib.hid (HBwt_12.out.grown Gt_19.out HBwt_12.out.size (fun q hq => (Pt_12.out.lt q hq).1))
    have Dt_19a_t_0 : Hid (Apart At_19a _) := Lib.hid (Go.Proofs.Ytekacbjnpeglhaa.GoK.apart_from Dt_4_t_0.out (fun a_ ha_ => by cases ha_; exact cell_lt kt_0_0) yt_19.out)
    replace kt_0_0 := cell_other kt_0_0 Gt_19.out Dt_4_t_0.out
    replace kt_0_1 := cell_other kt_0_1 Gt_19.out Dt_4_t_0.out
    clear Pt_12 Gt_19 yt_19
    cases ret_hid H
    go_wp2_with fail
    go_ret2
    exact ⟨At_19a, ct_19a, rfl, Pt_19.out, HBwt_19.out⟩
end Go.Proofs.Ytekacbjnpeglhaa.GiFirstBehind

/- loop.example/g01062/impl.compatibleKinds as a plain function, and the contract of the program's: where the plain one has an answer, the program has it. Conditions: slices read as lists. -/
namespace Go.Proofs.Ytekacbjnpeglhaa.GiCompatibleKinds
set_option linter.unusedVariables false
set_option linter.unusedSimpArgs false
open Go.RowKit
open Go.Proofs.Ytekacbjnpeglhaa.Rowed Go.Proofs.Ytekacbjnpeglhaa.Turn Go.Proofs.Ytekacbjnpeglhaa.Aid Go.Proofs.Ytekacbjnpeglhaa.GoP Go.Proofs.Ytekacbjnpeglhaa.GoM

def l0 (t_sizes : (List Int)) (t_bans : (List Go.Proofs.Ytekacbjnpeglhaa.PBan.Ban)) (fuel : Nat) (s : (List (List Int)) × (List Int) × Bool) (nx0 bk0 : (List (List Int)) × (List Int) × Bool → Option ((List (List Int)))) : Option ((List (List Int))) :=
  unp3 s fun kinds_3l0 kind_4l0 ok_5l0 =>
  iteK ok_5l0
  (guardK (kinds_3l0.length ≤ 1099511627776) <|
  letK (kinds_3l0 ++ [kind_4l0]) fun (t_15 : (List (List Int))) =>
  bind2 (Go.Proofs.Ytekacbjnpeglhaa.GiFirstBehind.P fuel t_sizes t_bans kind_4l0) fun (t_19a : (List Int)) (t_19b : Bool) =>
  appK nx0 (t_15, t_19a, t_19b))
  (appK bk0 (kinds_3l0, kind_4l0, ok_5l0))

def e0  (s : (List (List Int)) × (List Int) × Bool) : Option ((List (List Int))) :=
  unp3 s fun kinds_3l0 kind_4l0 ok_5l0 =>
  some kinds_3l0

def P (fuel : Nat) (t_sizes : (List Int)) (t_bans : (List Go.Proofs.Ytekacbjnpeglhaa.PBan.Ban)) : Option ((List (List Int))) :=
  bind2 (Go.Proofs.Ytekacbjnpeglhaa.GiFirstOf.P fuel t_sizes t_bans) fun (t_5a : (List Int)) (t_5b : Bool) =>
  loopK (l0 t_sizes t_bans fuel) fuel (([] : List (List Int)), t_5a, t_5b) (e0 )

set_option maxRecDepth 100000 in
set_option maxHeartbeats 2000000 in
theorem C (fuel : Nat) (t_sizes : (List Int)) (t_bans : (List Go.Proofs.Ytekacbjnpeglhaa.PBan.Ban)) (A0_0 : Option Addr) (c0_0 : Nat) (A0_1 : Option Addr) (c0_1 : Nat)  (w : World) (M0_0 : Hid (Cells w 1 A0_0 t_sizes.length (Go.Proofs.Ytekacbjnpeglhaa.HelpInt.iv t_sizes))) (N0_0 : Hid (t_sizes.length ≤ 9223372036854775807)) (Q0_0 : Hid (Room A0_0 t_sizes.length c0_0)) (M0_1 : Hid (Cells w 4 A0_1 t_bans.length (Go.Proofs.Ytekacbjnpeglhaa.PBan.flat t_bans))) (N0_1 : Hid (t_bans.length ≤ 9223372036854775807)) (Q0_1 : Hid (Room A0_1 t_bans.length c0_1))  {r : (List (List Int))} (H : Hid (P fuel t_sizes t_bans = some r)) :
    Calls Try.prog 66 #[.agg #[.slice A0_0 t_sizes.length c0_0, .slice A0_1 t_bans.length c0_1]] w (fun e w' => ∃ A_r c_r, e = .returned (.slice A_r r.length c_r) ∧ (∃ B_, Go.Proofs.Ytekacbjnpeglhaa.GoN.OwnNest w' (w.heap.size) 22 3 1 Go.Proofs.Ytekacbjnpeglhaa.HelpInt.iv A_r c_r r B_) ∧ Below w.heap.size w w') := by
  have HB := Lib.hid (Below.refl w.heap.size w)
  unfold P at H
  have N0_0o := N0_0.out
  have N0_1o := N0_1.out
  obtain ⟨i0_22, hi_22, hz0_22, hz1_22, hz2_22⟩ := Aid.info_parts (P := Try.prog) (T := 22) (z := .slice none 0 0) (s := 1) (b := 24) (by kernel_rfl)
  go_enter Try.func66, Try.ntmps66
  obtain ⟨w_t_0, hw_t_0⟩ : ∃ x, w.alloc (.cells #[.slice A0_0 t_sizes.length c0_0, .slice A0_1 t_bans.length c0_1] 30) = x := ⟨_, rfl⟩
  have bw_t_0 : Below w.heap.size w w_t_0 := by rw [← hw_t_0]; exact (Below.refl _ _).alloc (Nat.le_refl _) _
  have HBw_t_0 := Lib.hid (Below.step HB.out bw_t_0)
  clear bw_t_0
  have kt_0_0 : w_t_0.cell? ⟨w.heap.size, 0, none⟩ = some (.slice A0_0 t_sizes.length c0_0) := by rw [← hw_t_0]; exact box_new _ _ _ 0 _ rfl
  have kt_0_1 : w_t_0.cell? ⟨w.heap.size, 1, none⟩ = some (.slice A0_1 t_bans.length c0_1) := by rw [← hw_t_0]; exact box_new _ _ _ 1 _ rfl
  obtain ⟨w_t_2, hw_t_2⟩ : ∃ x, w_t_0.alloc (.cells #[] 22) = x := ⟨_, rfl⟩
  have bw_t_2 : Below w_t_0.heap.size w_t_0 w_t_2 := by rw [← hw_t_2]; exact (Below.refl _ _).alloc (Nat.le_refl _) _
  have Ot_2 : Hid (Go.Proofs.Ytekacbjnpeglhaa.GoN.OwnNest w_t_2 (w.heap.size) 22 3 1 Go.Proofs.Ytekacbjnpeglhaa.HelpInt.iv (some ⟨w_t_0.heap.size, 0, none⟩) 0 ([] : List (List Int)) [some ⟨w_t_0.heap.size, 0, none⟩]) := Lib.hid (by rw [← hw_t_2]; exact Go.Proofs.Ytekacbjnpeglhaa.GoN.nest_empty HBw_t_0.out.size)
  have Dt_2_t_0 := Lib.hid (Go.Proofs.Ytekacbjnpeglhaa.GoN.nest_one (apart_box kt_0_0))
  have HBw_t_2 := Lib.hid (Below.step HBw_t_0.out bw_t_2)
  have kt_0_0__166 := cell_below bw_t_2 kt_0_0
  have kt_0_1__167 := cell_below bw_t_2 kt_0_1
  clear bw_t_2
  replace H := bind2_hid H
  obtain ⟨t_5a, t_5b, qt_5, H⟩ := H
  go_wp2_with fail
  clear kt_0_0 kt_0_1
  go_at_call 68
  refine (Go.Proofs.Ytekacbjnpeglhaa.GiFirstOf.C fuel (t_sizes) (t_bans) A0_0 c0_0 A0_1 c0_1 _   (Lib.hid (Cells.below M0_0.out HBw_t_2.out)) N0_0 (Lib.hid (Cells.below M0_1.out HBw_t_2.out)) N0_1 qt_5).mono ?_
  rintro e_t_5 wt_5 ⟨At_5a, ct_5a, rfl, ot_5a, bt_5⟩
  have Dt_5a_t_2 := Lib.hid (Go.Proofs.Ytekacbjnpeglhaa.GoN.nest_call ot_5a Ot_2.out)
  have Dt_5a_t_0 := Lib.hid (apart_callbox ot_5a kt_0_0__166)
  have Ot_5a := Lib.hid (own_lower ot_5a HBw_t_2.out.size)
  clear ot_5a
  have HBwt_5 := Lib.hid (Below.step HBw_t_2.out bt_5)
  replace kt_0_0__166 := cell_below bt_5 kt_0_0__166
  replace kt_0_1__167 := cell_below bt_5 kt_0_1__167
  replace Ot_2 := Lib.hid (Go.Proofs.Ytekacbjnpeglhaa.GoN.nest_below Ot_2.out bt_5)
  clear bt_5
  go_wp2_with fail
  go_loopg [3, 4, 5] (fuel) (fun m_ v3_ v4_ v5_ wr => ∃ (kinds_3l0 : (List (List Int))) (kind_4l0 : (List Int)) (ok_5l0 : Bool) (Akinds_3l0 : Option Addr) (ckinds_3l0 : Nat) (Bkinds_3l0 : List (Option Addr)) (Akind_4l0 : Option Addr) (ckind_4l0 : Nat), v3_ = .slice Akinds_3l0 kinds_3l0.length ckinds_3l0 ∧ v4_ = .slice Akind_4l0 kind_4l0.length ckind_4l0 ∧ v5_ = .bool ok_5l0 ∧ Hid (loopK (l0 t_sizes t_bans fuel) m_ (kinds_3l0, kind_4l0, ok_5l0) (e0 ) = some r) ∧ Hid (Below w.heap.size w wr) ∧ wr.cell? ⟨w.heap.size, 0, none⟩ = some (.slice A0_0 t_sizes.length c0_0) ∧ wr.cell? ⟨w.heap.size, 1, none⟩ = some (.slice A0_1 t_bans.length c0_1) ∧ Hid (Go.Proofs.Ytekacbjnpeglhaa.GoN.OwnNest wr (w.heap.size) 22 3 1 Go.Proofs.Ytekacbjnpeglhaa.HelpInt.iv Akinds_3l0 ckinds_3l0 kinds_3l0 Bkinds_3l0) ∧ Hid (wr.ownsRow w.heap.size 3 1 (.slice Akind_4l0 kind_4l0.length ckind_4l0) kind_4l0.length (Go.Proofs.Ytekacbjnpeglhaa.HelpInt.iv kind_4l0)) ∧ Hid (∀ y_ ∈ Bkinds_3l0, Apart Akind_4l0 y_) ∧ Hid (∀ y_ ∈ Bkinds_3l0, Apart (some ⟨w.heap.size, 0, none⟩) y_) ∧ Hid (Apart Akind_4l0 (some ⟨w.heap.size, 0, none⟩)))
  case atStart => exact ⟨_, _, _, _, _, _, _, _, rfl, rfl, rfl, H, HBwt_5, kt_0_0__166, kt_0_1__167, Ot_2, Ot_5a, Lib.hid Dt_5a_t_2.out, Lib.hid Dt_2_t_0.out, Lib.hid Dt_5a_t_0.out⟩
  case round =>
    obtain ⟨kinds_3l0, kind_4l0, ok_5l0, Akinds_3l0, ckinds_3l0, Bkinds_3l0, Akind_4l0, ckind_4l0, rfl, rfl, rfl, H, HBwr0, kt_0_0__166, kt_0_1__167, Okinds_3l0, Okind_4l0, Dkind_4l0_kinds_3l0, Dt_0_kinds_3l0, Dkind_4l0_t_0⟩ := hrel
    rename World => wr0
    cases gk with
    | zero => exact (loop_zero H).elim
    | succ m0 =>
      replace H := loop_succ H
      unfold l0 at H
      replace H := unp3_hid H
      cases ok_5l0 with
      | false =>
        replace H := ite_f H
        replace H := app_hid H
        unfold e0 at H
        replace H := unp3_hid H
        obtain rfl := ret_hid H
        go_wp2_with fail
        go_ret
        exact ⟨Akinds_3l0, ckinds_3l0, rfl, ⟨_, Okinds_3l0.out⟩, HBwr0.out⟩
      | true =>
        replace H := ite_t H
        obtain ⟨w_t_14, hw_t_14⟩ : ∃ x, wr0.alloc (.cells #[.slice Akind_4l0 kind_4l0.length ckind_4l0] 22) = x := ⟨_, rfl⟩
        have bw_t_14 : Below wr0.heap.size wr0 w_t_14 := by rw [← hw_t_14]; exact (Below.refl _ _).alloc (Nat.le_refl _) _
        have HBw_t_14 := Lib.hid (Below.step HBwr0.out bw_t_14)
        have kt_0_0__168 := cell_below bw_t_14 kt_0_0__166
        have kt_0_1__169 := cell_below bw_t_14 kt_0_1__167
        replace Okinds_3l0 := Lib.hid (Go.Proofs.Ytekacbjnpeglhaa.GoN.nest_below Okinds_3l0.out bw_t_14)
        replace Okind_4l0 := Lib.hid (own_below Okind_4l0.out bw_t_14)
        clear bw_t_14
        replace H := guard_hid H
        obtain ⟨hlt_15, H⟩ := H
        replace H := let_hid H
        obtain ⟨t_15, ht_15, H⟩ := H
        have hht_15 := Lib.hid ht_15
        clear ht_15
        have hst_15 := HBw_t_14.out.size
        obtain ⟨zt_15, h1t_15, h2t_15, h3t_15, h4t_15, h5t_15⟩ := Okinds_3l0.out
        have h1t_15i := Lib.hid h1t_15
        have h3t_15i := Lib.hid h3t_15
        have h4t_15i := Lib.hid h4t_15
        have h5t_15i := Lib.hid h5t_15
        clear h1t_15 h3t_15 h4t_15 h5t_15
        have h2t_15i := Lib.hid h2t_15
        clear h2t_15
        go_wp2_with (at_builtin; refine wpList_append_own_at _ rfl _ _ 78 rfl w.heap.size 22 i0_22 (.slice none 0 0) 1 24 Try.underlying78 hi_22 hz0_22 hz1_22 hz2_22 rfl (by decide) _ _ _ rfl h2t_15i.out ⟨wr0.heap.size, 0, none⟩ 1 1 [.slice Akind_4l0 kind_4l0.length ckind_4l0] rfl rfl (news_new hw_t_14) (one_cells rfl) (by unfold maxLen; omega) (by omega) hst_15 ?_; intro vt_15 wt_15 ot_15 gt_15 ut_15 yt_15; clear ut_15; obtain ⟨qt_15, ct_15, Bt_15, rfl, pt_15, dt_15, rt_15⟩ := Go.Proofs.Ytekacbjnpeglhaa.GoN.nest_app hht_15.out h1t_15i.out h4t_15i.out h3t_15i.out h5t_15i.out Okind_4l0.out Dkind_4l0_kinds_3l0.out gt_15 ot_15 yt_15; have Pt_15 := Lib.hid pt_15; have Ut_15 := Lib.hid dt_15; have Rt_15 := Lib.hid rt_15; have Gt_15 := Lib.hid gt_15; clear ot_15 gt_15 pt_15 yt_15 dt_15 rt_15; refine stop_in ?_)
        refine stop_out ?_
        have HBwt_15 := Lib.hid (HBw_t_14.out.grown Gt_15.out hst_15 (fun q hq => (h2t_15i.out.lt q hq).1))
        clear hst_15
        have Dt_15_t_0 : Hid (∀ y_ ∈ Bt_15, Apart (some ⟨w.heap.size, 0, none⟩) y_) := Lib.hid (Go.Proofs.Ytekacbjnpeglhaa.GoN.apart_push Dt_0_kinds_3l0.out (Apart.symm Dkind_4l0_t_0.out) (fun a_ ha_ => by cases ha_; exact cell_lt kt_0_0__168) Ut_15.out)
        replace kt_0_0__168 := cell_other kt_0_0__168 Gt_15.out (Apart.symm (Dt_0_kinds_3l0.out _ (Go.Proofs.Ytekacbjnpeglhaa.GoN.nest_head Okinds_3l0.out)))
        replace kt_0_1__169 := cell_other kt_0_1__169 Gt_15.out (Apart.symm (Dt_0_kinds_3l0.out _ (Go.Proofs.Ytekacbjnpeglhaa.GoN.nest_head Okinds_3l0.out)))
        replace Okind_4l0 := Lib.hid (own_other Okind_4l0.out Gt_15.out (Apart.symm (Dkind_4l0_kinds_3l0.out _ (Go.Proofs.Ytekacbjnpeglhaa.GoN.nest_head Okinds_3l0.out))))
        clear kt_0_0__166 kt_0_1__167
        clear Okinds_3l0 Gt_15 h1t_15i h2t_15i h3t_15i h4t_15i h5t_15i
        clear Okind_4l0
        have mmt_15 := Lib.hid Ut_15.out.2.1
        clear Ut_15
        replace H := bind2_hid H
        obtain ⟨t_19a, t_19b, qt_19, H⟩ := H
        go_wp2_with fail
        go_at_call 71
        refine (Go.Proofs.Ytekacbjnpeglhaa.GiFirstBehind.C fuel (t_sizes) (t_bans) (kind_4l0) A0_0 c0_0 A0_1 c0_1 Akind_4l0 ckind_4l0 _   (Lib.hid (Cells.below M0_0.out HBwt_15.out)) N0_0 Q0_0 (Lib.hid (Cells.below M0_1.out HBwt_15.out)) N0_1 Q0_1 (Lib.hid (own_cells Rt_15.out)) (Lib.hid (own_max Rt_15.out)) (Lib.hid (own_room Rt_15.out)) qt_19).mono ?_
        rintro e_t_19 wt_19 ⟨At_19a, ct_19a, rfl, ot_19a, bt_19⟩
        have Dt_19a_kind_4l0 := Lib.hid (apart_call ot_19a Rt_15.out)
        have Dt_19a_t_15 := Lib.hid (Go.Proofs.Ytekacbjnpeglhaa.GoN.nest_call ot_19a Pt_15.out)
        have Dt_19a_t_0 := Lib.hid (apart_callbox ot_19a kt_0_0__168)
        have Ot_19a := Lib.hid (own_lower ot_19a HBwt_15.out.size)
        clear ot_19a
        have HBwt_19 := Lib.hid (Below.step HBwt_15.out bt_19)
        replace kt_0_0__168 := cell_below bt_19 kt_0_0__168
        replace kt_0_1__169 := cell_below bt_19 kt_0_1__169
        replace Rt_15 := Lib.hid (own_below Rt_15.out bt_19)
        replace Pt_15 := Lib.hid (Go.Proofs.Ytekacbjnpeglhaa.GoN.nest_below Pt_15.out bt_19)
        clear bt_19
        replace H := app_hid H
        go_wp2_with fail
        go_roundg m0
        case measure => omega
        case rel => exact ⟨_, _, _, _, _, _, _, _, rfl, rfl, rfl, H, HBwt_19, kt_0_0__168, kt_0_1__169, Pt_15, Ot_19a, Lib.hid Dt_19a_t_15.out, Lib.hid Dt_15_t_0.out, Lib.hid Dt_19a_t_0.out⟩
end Go.Proofs.Ytekacbjnpeglhaa.GiCompatibleKinds

/- loop.example/g01062/impl.CountCompatible as a plain function, and the contract of the program's: where the plain one has an answer, the program has it. Conditions: slices read as lists. -/
namespace Go.Proofs.Ytekacbjnpeglhaa.GiCountCompatible
set_option linter.unusedVariables false
set_option linter.unusedSimpArgs false
open Go.RowKit
open Go.Proofs.Ytekacbjnpeglhaa.Rowed Go.Proofs.Ytekacbjnpeglhaa.Turn Go.Proofs.Ytekacbjnpeglhaa.Aid Go.Proofs.Ytekacbjnpeglhaa.GoP Go.Proofs.Ytekacbjnpeglhaa.GoM

def P (fuel : Nat) (t_sizes : (List Int)) (t_bans : (List Go.Proofs.Ytekacbjnpeglhaa.PBan.Ban)) : Option (Int × Bool) :=
  Option.bind (Go.Proofs.Ytekacbjnpeglhaa.GiIsKindTable.P t_sizes t_bans) fun (t_4 : Bool) =>
  letK (!t_4) fun (t_5 : Bool) =>
  iteK t_5
  (some (0, false))
  (Option.bind (Go.Proofs.Ytekacbjnpeglhaa.GiCompatibleKinds.P fuel t_sizes t_bans) fun (t_9 : (List (List Int))) =>
  some ((t_9.length : Int), true))

set_option maxRecDepth 100000 in
set_option maxHeartbeats 2000000 in
theorem C (fuel : Nat) (t_sizes : (List Int)) (t_bans : (List Go.Proofs.Ytekacbjnpeglhaa.PBan.Ban)) (A0_0 : Option Addr) (c0_0 : Nat) (A0_1 : Option Addr) (c0_1 : Nat)  (w : World) (M0_0 : Hid (Cells w 1 A0_0 t_sizes.length (Go.Proofs.Ytekacbjnpeglhaa.HelpInt.iv t_sizes))) (N0_0 : Hid (t_sizes.length ≤ 9223372036854775807)) (Q0_0 : Hid (Room A0_0 t_sizes.length c0_0)) (M0_1 : Hid (Cells w 4 A0_1 t_bans.length (Go.Proofs.Ytekacbjnpeglhaa.PBan.flat t_bans))) (N0_1 : Hid (t_bans.length ≤ 9223372036854775807)) (Q0_1 : Hid (Room A0_1 t_bans.length c0_1))  {r0 : Int} {r1 : Bool} (H : Hid (P fuel t_sizes t_bans = some (r0, r1))) :
    Calls Try.prog 23 #[.agg #[.slice A0_0 t_sizes.length c0_0, .slice A0_1 t_bans.length c0_1]] w (Gives (.tuple #[.int .i64 r0, .bool r1]) w) := by
  have HB := Lib.hid (Below.refl w.heap.size w)
  unfold P at H
  have N0_0o := N0_0.out
  have N0_1o := N0_1.out
  go_enter Try.func23, Try.ntmps23
  obtain ⟨w_t_0, hw_t_0⟩ : ∃ x, w.alloc (.cells #[.slice A0_0 t_sizes.length c0_0, .slice A0_1 t_bans.length c0_1] 30) = x := ⟨_, rfl⟩
  have bw_t_0 : Below w.heap.size w w_t_0 := by rw [← hw_t_0]; exact (Below.refl _ _).alloc (Nat.le_refl _) _
  have HBw_t_0 := Lib.hid (Below.step HB.out bw_t_0)
  clear bw_t_0
  have kt_0_0 : w_t_0.cell? ⟨w.heap.size, 0, none⟩ = some (.slice A0_0 t_sizes.length c0_0) := by rw [← hw_t_0]; exact box_new _ _ _ 0 _ rfl
  have kt_0_1 : w_t_0.cell? ⟨w.heap.size, 1, none⟩ = some (.slice A0_1 t_bans.length c0_1) := by rw [← hw_t_0]; exact box_new _ _ _ 1 _ rfl
  replace H := bind_hid H
  obtain ⟨t_4, qt_4, H⟩ := H
  go_wp2_with fail
  go_at_call 16
  refine (Go.Proofs.Ytekacbjnpeglhaa.GiIsKindTable.C (t_sizes) (t_bans) A0_0 c0_0 A0_1 c0_1 _   (Lib.hid (Cells.below M0_0.out HBw_t_0.out)) N0_0 (Lib.hid (Cells.below M0_1.out HBw_t_0.out)) N0_1 qt_4).mono ?_
  rintro e_t_4 wt_4 ⟨rfl, bt_4⟩
  have HBwt_4 := Lib.hid (Below.step HBw_t_0.out bt_4)
  replace kt_0_0 := cell_below bt_4 kt_0_0
  replace kt_0_1 := cell_below bt_4 kt_0_1
  clear bt_4
  cases t_4 with
  | false =>
    replace H := let_hid H
    obtain ⟨t_5, ht_5, H⟩ := H
    obtain rfl : t_5 = true := ht_5.symm
    replace H := ite_t H
    cases ret_hid H
    go_wp2_with fail
    go_ret2
    exact ⟨rfl, HBwt_4.out⟩
  | true =>
    replace H := let_hid H
    obtain ⟨t_5, ht_5, H⟩ := H
    obtain rfl : t_5 = false := ht_5.symm
    replace H := ite_f H
    replace H := bind_hid H
    obtain ⟨t_9, qt_9, H⟩ := H
    go_wp2_with fail
    go_at_call 66
    refine (Go.Proofs.Ytekacbjnpeglhaa.GiCompatibleKinds.C fuel (t_sizes) (t_bans) A0_0 c0_0 A0_1 c0_1 _   (Lib.hid (Cells.below M0_0.out HBwt_4.out)) N0_0 Q0_0 (Lib.hid (Cells.below M0_1.out HBwt_4.out)) N0_1 Q0_1 qt_9).mono ?_
    rintro e_t_9 wt_9 ⟨At_9, ct_9, rfl, ⟨Bt_9, ot_9⟩, bt_9⟩
    have Dt_9_t_0 := Lib.hid (Go.Proofs.Ytekacbjnpeglhaa.GoN.nest_callbox ot_9 kt_0_0)
    have Ot_9 := Lib.hid (Go.Proofs.Ytekacbjnpeglhaa.GoN.nest_lower ot_9 HBwt_4.out.size)
    clear ot_9
    have HBwt_9 := Lib.hid (Below.step HBwt_4.out bt_9)
    replace kt_0_0 := cell_below bt_9 kt_0_0
    replace kt_0_1 := cell_below bt_9 kt_0_1
    clear bt_9
    cases ret_hid H
    go_wp2_with fail
    go_ret2
    exact ⟨rfl, HBwt_9.out⟩
end Go.Proofs.Ytekacbjnpeglhaa.GiCountCompatible

/- loop.example/g01062/laws.eqIntS as a plain function, and the contract of the program's: where the plain one has an answer, the program has it. Conditions: slices read as lists. -/
namespace Go.Proofs.Ytekacbjnpeglhaa.GlEqIntS
set_option linter.unusedVariables false
set_option linter.unusedSimpArgs false
open Go.RowKit
open Go.Proofs.Ytekacbjnpeglhaa.Rowed Go.Proofs.Ytekacbjnpeglhaa.Turn Go.Proofs.Ytekacbjnpeglhaa.Aid Go.Proofs.Ytekacbjnpeglhaa.GoP Go.Proofs.Ytekacbjnpeglhaa.GoM

def l0 (a : (List Int)) (b : (List Int)) (k0 : Nat) (s : Unit) (nx0 bk0 : Unit → Option (Bool)) : Option (Bool) :=
  
  Option.bind (idx a (k0 : Int)) fun (yt_14 : Int) =>
  Option.bind (idx b (k0 : Int)) fun (yt_18 : Int) =>
  letK (yt_14 != yt_18) fun (t_20 : Bool) =>
  iteK t_20
  (some false)
  (appK nx0 ())

def e0  (s : Unit) : Option (Bool) :=
  
  some true

def P (a : (List Int)) (b : (List Int)) : Option (Bool) :=
  letK ((a.length : Int) != (b.length : Int)) fun (t_5 : Bool) =>
  iteK t_5
  (some false)
  (cntK (l0 a b) (a.length) 0 () (e0 ))

set_option maxRecDepth 100000 in
set_option maxHeartbeats 2000000 in
theorem C (a : (List Int)) (b : (List Int)) (A0 : Option Addr) (c0 : Nat) (A1 : Option Addr) (c1 : Nat)  (w : World) (M0 : Hid (Cells w 1 A0 a.length (Go.Proofs.Ytekacbjnpeglhaa.HelpInt.iv a))) (N0 : Hid (a.length ≤ 9223372036854775807)) (M1 : Hid (Cells w 1 A1 b.length (Go.Proofs.Ytekacbjnpeglhaa.HelpInt.iv b))) (N1 : Hid (b.length ≤ 9223372036854775807))  {r : Bool} (H : Hid (P a b = some r)) :
    Calls Try.prog 21 #[.slice A0 a.length c0, .slice A1 b.length c1] w (Gives (.bool r) w) := by
  have HB := Lib.hid (Below.refl w.heap.size w)
  unfold P at H
  have N0o := N0.out
  have N1o := N1.out
  go_enter Try.func21, Try.ntmps21
  replace H := let_hid H
  obtain ⟨t_5, ht_5, H⟩ := H
  cases t_5 with
  | false =>
    have Hht_5 : Hid (a.length = b.length) := Lib.hid (by have := bne_eq_false_iff_eq.1 ht_5; omega)
    have nht_5 : (a.length == b.length) = true := beq_iff_eq.2 Hht_5.out
    replace H := ite_f H
    go_wp2_with fail
    go_loopg [5] (a.length) (fun m_ v5_ wr => ∃ (k0 : Nat) , k0 + m_ = a.length ∧ v5_ = .int .i64 (k0 : Int) ∧ Hid (cntK (l0 a b) m_ k0 () (e0 ) = some r) ∧ Hid (Below w.heap.size w wr))
    case atStart => exact ⟨0, by omega, rfl, H, HB⟩
    case round =>
      obtain ⟨k0, hkm0, rfl, H, HBwr0⟩ := hrel
      rename World => wr0
      cases gk with
      | zero =>
        obtain rfl : k0 = a.length := by omega
        have hc0 : decide (((a.length : Nat) : Int) < ((a.length : Nat) : Int)) = false := by simp
        replace H := cnt_zero H
        unfold e0 at H
        obtain rfl := ret_hid H
        go_wp2_with fail
        go_ret
        exact ⟨rfl, HBwr0.out⟩
      | succ m0 =>
        have hlt0 : k0 < a.length := by omega
        have hc0 : decide ((k0 : Int) < ((a.length : Nat) : Int)) = true := by simp; omega
        replace H := cnt_succ H
        unfold l0 at H
        go_wp2_with fail
        replace H := idx_hid H
        obtain ⟨nt_14, yt_14, et_14, lt_14, gt_14, H⟩ := H
        obtain rfl : k0 = nt_14 := by omega
        clear et_14
        obtain ⟨ab_t_14, ao_t_14, zt_14, At_14, z_t_14, ct_14_0⟩ := Go.Proofs.Ytekacbjnpeglhaa.HelpInt.Ints.at_ M0.out lt_14
        obtain rfl := Option.some.inj (gt_14.out.symm.trans z_t_14)
        subst At_14
        have ltt_14 := cell_lt ct_14_0
        replace ct_14_0 := cell_below HBwr0.out ct_14_0
        clear z_t_14
        have b0t_14 : (0 : Int) ≤ (k0 : Int) := by omega
        have b1t_14 : (k0 : Int) < ((a.length : Nat) : Int) := by omega
        have b2t_14 : ((k0 : Int)).toNat = k0 := by omega
        have Hct_14_0 := Lib.hid ct_14_0
        replace ct_14_0 := cell_regrown ct_14_0
        replace H := idx_hid H
        obtain ⟨nt_18, yt_18, et_18, lt_18, gt_18, H⟩ := H
        obtain rfl : k0 = nt_18 := by omega
        clear et_18
        obtain ⟨ab_t_18, ao_t_18, zt_18, At_18, z_t_18, ct_18_0⟩ := Go.Proofs.Ytekacbjnpeglhaa.HelpInt.Ints.at_ M1.out lt_18
        obtain rfl := Option.some.inj (gt_18.out.symm.trans z_t_18)
        subst At_18
        have ltt_18 := cell_lt ct_18_0
        replace ct_18_0 := cell_below HBwr0.out ct_18_0
        clear z_t_18
        have b0t_18 : (0 : Int) ≤ (k0 : Int) := by omega
        have b1t_18 : (k0 : Int) < ((b.length : Nat) : Int) := by omega
        have b2t_18 : ((k0 : Int)).toNat = k0 := by omega
        have Hct_18_0 := Lib.hid ct_18_0
        replace ct_18_0 := cell_regrown ct_18_0
        replace H := let_hid H
        obtain ⟨t_20, ht_20, H⟩ := H
        refine wp_region_quiet_below (by kernel_rfl) (by kernel_rfl) ?_
        repeat (go_big_quiet_step (fail))
        refine wpQuiet_nil ?_
        intro Y6 hY6
        replace hY6 := below_class hY6
        replace ct_14_0 := Hct_14_0.out
        clear Hct_14_0
        replace ct_18_0 := Hct_18_0.out
        clear Hct_18_0
        have HBY6 := Lib.hid (Below.step HBwr0.out hY6)
        replace ct_14_0 := cell_below hY6 ct_14_0
        replace ct_18_0 := cell_below hY6 ct_18_0
        clear hY6
        cases t_20 with
        | false =>
          replace H := ite_f H
          replace H := app_hid H
          go_wp2_with fail
          go_roundg m0
          case measure => omega
          case rel => exact ⟨k0 + 1, by omega, by go_num, H, HBY6⟩
        | true =>
          replace H := ite_t H
          obtain rfl := ret_hid H
          go_wp2_with fail
          go_ret
          exact ⟨rfl, HBY6.out⟩
  | true =>
    have nht_5 : ¬ (a.length = b.length) := by have := bne_iff_ne.1 ht_5; omega
    replace H := ite_t H
    obtain rfl := ret_hid H
    go_wp2_with fail
    go_ret
    exact ⟨rfl, HB.out⟩
end Go.Proofs.Ytekacbjnpeglhaa.GlEqIntS

/- loop.example/g01062/laws.eqBan as a plain function, and the contract of the program's: where the plain one has an answer, the program has it. Conditions: slices read as lists. -/
namespace Go.Proofs.Ytekacbjnpeglhaa.GlEqBan
set_option linter.unusedVariables false
set_option linter.unusedSimpArgs false
open Go.RowKit
open Go.Proofs.Ytekacbjnpeglhaa.Rowed Go.Proofs.Ytekacbjnpeglhaa.Turn Go.Proofs.Ytekacbjnpeglhaa.Aid Go.Proofs.Ytekacbjnpeglhaa.GoP Go.Proofs.Ytekacbjnpeglhaa.GoM

def P (a : Go.Proofs.Ytekacbjnpeglhaa.PBan.Ban) (b : Go.Proofs.Ytekacbjnpeglhaa.PBan.Ban) : Option (Bool) :=
  unBan a fun (a_a : Int) (a_x : Int) (a_b : Int) (a_y : Int) =>
  unBan b fun (b_a : Int) (b_x : Int) (b_b : Int) (b_y : Int) =>
  letK (a_a != b_a) fun (t_7 : Bool) =>
  iteK t_7
  (some false)
  (letK (a_x != b_x) fun (t_13 : Bool) =>
  iteK t_13
  (some false)
  (letK (a_b != b_b) fun (t_19 : Bool) =>
  iteK t_19
  (some false)
  (letK (a_y != b_y) fun (t_25 : Bool) =>
  iteK t_25
  (some false)
  (some true))))

set_option maxRecDepth 100000 in
set_option maxHeartbeats 2000000 in
theorem C (a : Go.Proofs.Ytekacbjnpeglhaa.PBan.Ban) (b : Go.Proofs.Ytekacbjnpeglhaa.PBan.Ban)   (w : World)   {r : Bool} (H : Hid (P a b = some r)) :
    Calls Try.prog 92 #[a.val, b.val] w (Gives (.bool r) w) := by
  have HB := Lib.hid (Below.refl w.heap.size w)
  unfold P at H
  obtain ⟨a_a, a_x, a_b, a_y⟩ := a
  replace H := unBan_hid H
  obtain ⟨b_a, b_x, b_b, b_y⟩ := b
  replace H := unBan_hid H
  unfold Go.Proofs.Ytekacbjnpeglhaa.PBan.Ban.val
  go_enter Try.func92, Try.ntmps92
  obtain ⟨w_a_0, hw_a_0⟩ : ∃ x, w.alloc (.cells #[.int .i64 a_a, .int .i64 a_x, .int .i64 a_b, .int .i64 a_y] 57) = x := ⟨_, rfl⟩
  have bw_a_0 : Below w.heap.size w w_a_0 := by rw [← hw_a_0]; exact (Below.refl _ _).alloc (Nat.le_refl _) _
  have HBw_a_0 := Lib.hid (Below.step HB.out bw_a_0)
  clear bw_a_0
  have ka_0_0 : w_a_0.cell? ⟨w.heap.size, 0, none⟩ = some (.int .i64 a_a) := by rw [← hw_a_0]; exact box_new _ _ _ 0 _ rfl
  have ka_0_1 : w_a_0.cell? ⟨w.heap.size, 1, none⟩ = some (.int .i64 a_x) := by rw [← hw_a_0]; exact box_new _ _ _ 1 _ rfl
  have ka_0_2 : w_a_0.cell? ⟨w.heap.size, 2, none⟩ = some (.int .i64 a_b) := by rw [← hw_a_0]; exact box_new _ _ _ 2 _ rfl
  have ka_0_3 : w_a_0.cell? ⟨w.heap.size, 3, none⟩ = some (.int .i64 a_y) := by rw [← hw_a_0]; exact box_new _ _ _ 3 _ rfl
  obtain ⟨w_b_1, hw_b_1⟩ : ∃ x, w_a_0.alloc (.cells #[.int .i64 b_a, .int .i64 b_x, .int .i64 b_b, .int .i64 b_y] 57) = x := ⟨_, rfl⟩
  have bw_b_1 : Below w_a_0.heap.size w_a_0 w_b_1 := by rw [← hw_b_1]; exact (Below.refl _ _).alloc (Nat.le_refl _) _
  have HBw_b_1 := Lib.hid (Below.step HBw_a_0.out bw_b_1)
  have ka_0_0__187 := cell_below bw_b_1 ka_0_0
  have ka_0_1__188 := cell_below bw_b_1 ka_0_1
  have ka_0_2__189 := cell_below bw_b_1 ka_0_2
  have ka_0_3__190 := cell_below bw_b_1 ka_0_3
  clear bw_b_1
  have kb_1_0 : w_b_1.cell? ⟨w_a_0.heap.size, 0, none⟩ = some (.int .i64 b_a) := by rw [← hw_b_1]; exact box_new _ _ _ 0 _ rfl
  have kb_1_1 : w_b_1.cell? ⟨w_a_0.heap.size, 1, none⟩ = some (.int .i64 b_x) := by rw [← hw_b_1]; exact box_new _ _ _ 1 _ rfl
  have kb_1_2 : w_b_1.cell? ⟨w_a_0.heap.size, 2, none⟩ = some (.int .i64 b_b) := by rw [← hw_b_1]; exact box_new _ _ _ 2 _ rfl
  have kb_1_3 : w_b_1.cell? ⟨w_a_0.heap.size, 3, none⟩ = some (.int .i64 b_y) := by rw [← hw_b_1]; exact box_new _ _ _ 3 _ rfl
  replace H := let_hid H
  obtain ⟨t_7, ht_7, H⟩ := H
  cases t_7 with
  | false =>
    replace H := ite_f H
    replace H := let_hid H
    obtain ⟨t_13, ht_13, H⟩ := H
    cases t_13 with
    | false =>
      replace H := ite_f H
      replace H := let_hid H
      obtain ⟨t_19, ht_19, H⟩ := H
      cases t_19 with
      | false =>
        replace H := ite_f H
        replace H := let_hid H
        obtain ⟨t_25, ht_25, H⟩ := H
        cases t_25 with
        | false =>
          replace H := ite_f H
          obtain rfl := ret_hid H
          go_wp2_with fail
          go_ret
          exact ⟨rfl, HBw_b_1.out⟩
        | true =>
          replace H := ite_t H
          obtain rfl := ret_hid H
          go_wp2_with fail
          go_ret
          exact ⟨rfl, HBw_b_1.out⟩
      | true =>
        replace H := ite_t H
        obtain rfl := ret_hid H
        go_wp2_with fail
        go_ret
        exact ⟨rfl, HBw_b_1.out⟩
    | true =>
      replace H := ite_t H
      obtain rfl := ret_hid H
      go_wp2_with fail
      go_ret
      exact ⟨rfl, HBw_b_1.out⟩
  | true =>
    replace H := ite_t H
    obtain rfl := ret_hid H
    go_wp2_with fail
    go_ret
    exact ⟨rfl, HBw_b_1.out⟩
end Go.Proofs.Ytekacbjnpeglhaa.GlEqBan

/- loop.example/g01062/laws.eqBanS as a plain function, and the contract of the program's: where the plain one has an answer, the program has it. Conditions: slices read as lists. -/
namespace Go.Proofs.Ytekacbjnpeglhaa.GlEqBanS
set_option linter.unusedVariables false
set_option linter.unusedSimpArgs false
open Go.RowKit
open Go.Proofs.Ytekacbjnpeglhaa.Rowed Go.Proofs.Ytekacbjnpeglhaa.Turn Go.Proofs.Ytekacbjnpeglhaa.Aid Go.Proofs.Ytekacbjnpeglhaa.GoP Go.Proofs.Ytekacbjnpeglhaa.GoM

def l0 (a : (List Go.Proofs.Ytekacbjnpeglhaa.PBan.Ban)) (b : (List Go.Proofs.Ytekacbjnpeglhaa.PBan.Ban)) (k0 : Nat) (s : Unit) (nx0 bk0 : Unit → Option (Bool)) : Option (Bool) :=
  
  Option.bind (idx a (k0 : Int)) fun (yt_14 : Go.Proofs.Ytekacbjnpeglhaa.PBan.Ban) =>
  unBan yt_14 fun (t_14_a : Int) (t_14_x : Int) (t_14_b : Int) (t_14_y : Int) =>
  Option.bind (idx b (k0 : Int)) fun (yt_18 : Go.Proofs.Ytekacbjnpeglhaa.PBan.Ban) =>
  unBan yt_18 fun (t_18_a : Int) (t_18_x : Int) (t_18_b : Int) (t_18_y : Int) =>
  Option.bind (Go.Proofs.Ytekacbjnpeglhaa.GlEqBan.P (Go.Proofs.Ytekacbjnpeglhaa.PBan.Ban.mk t_14_a t_14_x t_14_b t_14_y) (Go.Proofs.Ytekacbjnpeglhaa.PBan.Ban.mk t_18_a t_18_x t_18_b t_18_y)) fun (t_20 : Bool) =>
  letK (!t_20) fun (t_21 : Bool) =>
  iteK t_21
  (some false)
  (appK nx0 ())

def e0  (s : Unit) : Option (Bool) :=
  
  some true

def P (a : (List Go.Proofs.Ytekacbjnpeglhaa.PBan.Ban)) (b : (List Go.Proofs.Ytekacbjnpeglhaa.PBan.Ban)) : Option (Bool) :=
  letK ((a.length : Int) != (b.length : Int)) fun (t_5 : Bool) =>
  iteK t_5
  (some false)
  (cntK (l0 a b) (a.length) 0 () (e0 ))

set_option maxRecDepth 100000 in
set_option maxHeartbeats 2000000 in
theorem C (a : (List Go.Proofs.Ytekacbjnpeglhaa.PBan.Ban)) (b : (List Go.Proofs.Ytekacbjnpeglhaa.PBan.Ban)) (A0 : Option Addr) (c0 : Nat) (A1 : Option Addr) (c1 : Nat)  (w : World) (M0 : Hid (Cells w 4 A0 a.length (Go.Proofs.Ytekacbjnpeglhaa.PBan.flat a))) (N0 : Hid (a.length ≤ 9223372036854775807)) (M1 : Hid (Cells w 4 A1 b.length (Go.Proofs.Ytekacbjnpeglhaa.PBan.flat b))) (N1 : Hid (b.length ≤ 9223372036854775807))  {r : Bool} (H : Hid (P a b = some r)) :
    Calls Try.prog 58 #[.slice A0 a.length c0, .slice A1 b.length c1] w (Gives (.bool r) w) := by
  have HB := Lib.hid (Below.refl w.heap.size w)
  unfold P at H
  have N0o := N0.out
  have N1o := N1.out
  go_enter Try.func58, Try.ntmps58
  replace H := let_hid H
  obtain ⟨t_5, ht_5, H⟩ := H
  cases t_5 with
  | false =>
    have Hht_5 : Hid (a.length = b.length) := Lib.hid (by have := bne_eq_false_iff_eq.1 ht_5; omega)
    have nht_5 : (a.length == b.length) = true := beq_iff_eq.2 Hht_5.out
    replace H := ite_f H
    go_wp2_with fail
    go_loopg [5] (a.length) (fun m_ v5_ wr => ∃ (k0 : Nat) , k0 + m_ = a.length ∧ v5_ = .int .i64 (k0 : Int) ∧ Hid (cntK (l0 a b) m_ k0 () (e0 ) = some r) ∧ Hid (Below w.heap.size w wr))
    case atStart => exact ⟨0, by omega, rfl, H, HB⟩
    case round =>
      obtain ⟨k0, hkm0, rfl, H, HBwr0⟩ := hrel
      rename World => wr0
      cases gk with
      | zero =>
        obtain rfl : k0 = a.length := by omega
        have hc0 : decide (((a.length : Nat) : Int) < ((a.length : Nat) : Int)) = false := by simp
        replace H := cnt_zero H
        unfold e0 at H
        obtain rfl := ret_hid H
        go_wp2_with fail
        go_ret
        exact ⟨rfl, HBwr0.out⟩
      | succ m0 =>
        have hlt0 : k0 < a.length := by omega
        have hc0 : decide ((k0 : Int) < ((a.length : Nat) : Int)) = true := by simp; omega
        replace H := cnt_succ H
        unfold l0 at H
        go_wp2_with fail
        replace H := idx_hid H
        obtain ⟨nt_14, yt_14, et_14, lt_14, gt_14, H⟩ := H
        obtain rfl : k0 = nt_14 := by omega
        clear et_14
        obtain ⟨t_14_a, t_14_x, t_14_b, t_14_y⟩ := yt_14
        replace H := unBan_hid H
        obtain ⟨ab_t_14, ao_t_14, zt_14, At_14, z_t_14, ct_14_0, ct_14_1, ct_14_2, ct_14_3⟩ := Go.Proofs.Ytekacbjnpeglhaa.OBan.at_ M0.out lt_14
        obtain rfl := Option.some.inj (gt_14.out.symm.trans z_t_14)
        subst At_14
        have ltt_14 := cell_lt ct_14_0
        replace ct_14_0 := cell_below HBwr0.out ct_14_0
        replace ct_14_1 := cell_below HBwr0.out ct_14_1
        replace ct_14_2 := cell_below HBwr0.out ct_14_2
        replace ct_14_3 := cell_below HBwr0.out ct_14_3
        clear z_t_14
        have b0t_14 : (0 : Int) ≤ (k0 : Int) := by omega
        have b1t_14 : (k0 : Int) < ((a.length : Nat) : Int) := by omega
        have b2t_14 : ((k0 : Int)).toNat = k0 := by omega
        have Hct_14_0 := Lib.hid ct_14_0
        replace ct_14_0 := cell_regrown ct_14_0
        have Hct_14_1 := Lib.hid ct_14_1
        replace ct_14_1 := cell_regrown ct_14_1
        have Hct_14_2 := Lib.hid ct_14_2
        replace ct_14_2 := cell_regrown ct_14_2
        have Hct_14_3 := Lib.hid ct_14_3
        replace ct_14_3 := cell_regrown ct_14_3
        replace H := idx_hid H
        obtain ⟨nt_18, yt_18, et_18, lt_18, gt_18, H⟩ := H
        obtain rfl : k0 = nt_18 := by omega
        clear et_18
        obtain ⟨t_18_a, t_18_x, t_18_b, t_18_y⟩ := yt_18
        replace H := unBan_hid H
        obtain ⟨ab_t_18, ao_t_18, zt_18, At_18, z_t_18, ct_18_0, ct_18_1, ct_18_2, ct_18_3⟩ := Go.Proofs.Ytekacbjnpeglhaa.OBan.at_ M1.out lt_18
        obtain rfl := Option.some.inj (gt_18.out.symm.trans z_t_18)
        subst At_18
        have ltt_18 := cell_lt ct_18_0
        replace ct_18_0 := cell_below HBwr0.out ct_18_0
        replace ct_18_1 := cell_below HBwr0.out ct_18_1
        replace ct_18_2 := cell_below HBwr0.out ct_18_2
        replace ct_18_3 := cell_below HBwr0.out ct_18_3
        clear z_t_18
        have b0t_18 : (0 : Int) ≤ (k0 : Int) := by omega
        have b1t_18 : (k0 : Int) < ((b.length : Nat) : Int) := by omega
        have b2t_18 : ((k0 : Int)).toNat = k0 := by omega
        have Hct_18_0 := Lib.hid ct_18_0
        replace ct_18_0 := cell_regrown ct_18_0
        have Hct_18_1 := Lib.hid ct_18_1
        replace ct_18_1 := cell_regrown ct_18_1
        have Hct_18_2 := Lib.hid ct_18_2
        replace ct_18_2 := cell_regrown ct_18_2
        have Hct_18_3 := Lib.hid ct_18_3
        replace ct_18_3 := cell_regrown ct_18_3
        replace H := bind_hid H
        obtain ⟨t_20, qt_20, H⟩ := H
        have nt_20 : ∀ d os, Calls Try.prog 92 #[.agg #[.int .i64 t_14_a, .int .i64 t_14_x, .int .i64 t_14_b, .int .i64 t_14_y], .agg #[.int .i64 t_18_a, .int .i64 t_18_x, .int .i64 t_18_b, .int .i64 t_18_y]] (Go.Sort.grow (redrawn wr0 d) os) fun e w'' => e = .returned (.bool t_20) ∧ ∃ p : Regrown, w'' = Go.Sort.grow (redrawn wr0 p.d) p.os := fun d os => Calls.regrown_of (Go.Proofs.Ytekacbjnpeglhaa.GlEqBan.C ((Go.Proofs.Ytekacbjnpeglhaa.PBan.Ban.mk t_14_a t_14_x t_14_b t_14_y)) ((Go.Proofs.Ytekacbjnpeglhaa.PBan.Ban.mk t_18_a t_18_x t_18_b t_18_y))  _    qt_20)
        cases t_20 with
        | false =>
          replace H := let_hid H
          obtain ⟨t_21, ht_21, H⟩ := H
          obtain rfl : t_21 = true := ht_21.symm
          refine wp_region_quiet_below (by kernel_rfl) (by kernel_rfl) ?_
          repeat (go_big_quiet_step (first | (go_at_call 92; exact nt_20 _ _)))
          refine wpQuiet_nil ?_
          intro Y6 hY6
          replace hY6 := below_class hY6
          clear nt_20
          replace ct_14_0 := Hct_14_0.out
          clear Hct_14_0
          replace ct_14_1 := Hct_14_1.out
          clear Hct_14_1
          replace ct_14_2 := Hct_14_2.out
          clear Hct_14_2
          replace ct_14_3 := Hct_14_3.out
          clear Hct_14_3
          replace ct_18_0 := Hct_18_0.out
          clear Hct_18_0
          replace ct_18_1 := Hct_18_1.out
          clear Hct_18_1
          replace ct_18_2 := Hct_18_2.out
          clear Hct_18_2
          replace ct_18_3 := Hct_18_3.out
          clear Hct_18_3
          have HBY6 := Lib.hid (Below.step HBwr0.out hY6)
          replace ct_14_0 := cell_below hY6 ct_14_0
          replace ct_14_1 := cell_below hY6 ct_14_1
          replace ct_14_2 := cell_below hY6 ct_14_2
          replace ct_14_3 := cell_below hY6 ct_14_3
          replace ct_18_0 := cell_below hY6 ct_18_0
          replace ct_18_1 := cell_below hY6 ct_18_1
          replace ct_18_2 := cell_below hY6 ct_18_2
          replace ct_18_3 := cell_below hY6 ct_18_3
          clear hY6
          replace H := ite_t H
          obtain rfl := ret_hid H
          go_wp2_with fail
          go_ret
          exact ⟨rfl, HBY6.out⟩
        | true =>
          replace H := let_hid H
          obtain ⟨t_21, ht_21, H⟩ := H
          obtain rfl : t_21 = false := ht_21.symm
          refine wp_region_quiet_below (by kernel_rfl) (by kernel_rfl) ?_
          repeat (go_big_quiet_step (first | (go_at_call 92; exact nt_20 _ _)))
          refine wpQuiet_nil ?_
          intro Y6 hY6
          replace hY6 := below_class hY6
          clear nt_20
          replace ct_14_0 := Hct_14_0.out
          clear Hct_14_0
          replace ct_14_1 := Hct_14_1.out
          clear Hct_14_1
          replace ct_14_2 := Hct_14_2.out
          clear Hct_14_2
          replace ct_14_3 := Hct_14_3.out
          clear Hct_14_3
          replace ct_18_0 := Hct_18_0.out
          clear Hct_18_0
          replace ct_18_1 := Hct_18_1.out
          clear Hct_18_1
          replace ct_18_2 := Hct_18_2.out
          clear Hct_18_2
          replace ct_18_3 := Hct_18_3.out
          clear Hct_18_3
          have HBY6 := Lib.hid (Below.step HBwr0.out hY6)
          replace ct_14_0 := cell_below hY6 ct_14_0
          replace ct_14_1 := cell_below hY6 ct_14_1
          replace ct_14_2 := cell_below hY6 ct_14_2
          replace ct_14_3 := cell_below hY6 ct_14_3
          replace ct_18_0 := cell_below hY6 ct_18_0
          replace ct_18_1 := cell_below hY6 ct_18_1
          replace ct_18_2 := cell_below hY6 ct_18_2
          replace ct_18_3 := cell_below hY6 ct_18_3
          clear hY6
          replace H := ite_f H
          replace H := app_hid H
          go_wp2_with fail
          go_roundg m0
          case measure => omega
          case rel => exact ⟨k0 + 1, by omega, by go_num, H, HBY6⟩
  | true =>
    have nht_5 : ¬ (a.length = b.length) := by have := bne_iff_ne.1 ht_5; omega
    replace H := ite_t H
    obtain rfl := ret_hid H
    go_wp2_with fail
    go_ret
    exact ⟨rfl, HB.out⟩
end Go.Proofs.Ytekacbjnpeglhaa.GlEqBanS

/- loop.example/g01062/laws.eqKindTable as a plain function, and the contract of the program's: where the plain one has an answer, the program has it. Conditions: slices read as lists. -/
namespace Go.Proofs.Ytekacbjnpeglhaa.GlEqKindTable
set_option linter.unusedVariables false
set_option linter.unusedSimpArgs false
open Go.RowKit
open Go.Proofs.Ytekacbjnpeglhaa.Rowed Go.Proofs.Ytekacbjnpeglhaa.Turn Go.Proofs.Ytekacbjnpeglhaa.Aid Go.Proofs.Ytekacbjnpeglhaa.GoP Go.Proofs.Ytekacbjnpeglhaa.GoM

def P (a_sizes : (List Int)) (a_bans : (List Go.Proofs.Ytekacbjnpeglhaa.PBan.Ban)) (b_sizes : (List Int)) (b_bans : (List Go.Proofs.Ytekacbjnpeglhaa.PBan.Ban)) : Option (Bool) :=
  Option.bind (Go.Proofs.Ytekacbjnpeglhaa.GlEqIntS.P a_sizes b_sizes) fun (t_7 : Bool) =>
  letK (!t_7) fun (t_8 : Bool) =>
  iteK t_8
  (some false)
  (Option.bind (Go.Proofs.Ytekacbjnpeglhaa.GlEqBanS.P a_bans b_bans) fun (t_14 : Bool) =>
  letK (!t_14) fun (t_15 : Bool) =>
  iteK t_15
  (some false)
  (some true))

set_option maxRecDepth 100000 in
set_option maxHeartbeats 2000000 in
theorem C (a_sizes : (List Int)) (a_bans : (List Go.Proofs.Ytekacbjnpeglhaa.PBan.Ban)) (b_sizes : (List Int)) (b_bans : (List Go.Proofs.Ytekacbjnpeglhaa.PBan.Ban)) (A0_0 : Option Addr) (c0_0 : Nat) (A0_1 : Option Addr) (c0_1 : Nat) (A1_0 : Option Addr) (c1_0 : Nat) (A1_1 : Option Addr) (c1_1 : Nat)  (w : World) (M0_0 : Hid (Cells w 1 A0_0 a_sizes.length (Go.Proofs.Ytekacbjnpeglhaa.HelpInt.iv a_sizes))) (N0_0 : Hid (a_sizes.length ≤ 9223372036854775807)) (M0_1 : Hid (Cells w 4 A0_1 a_bans.length (Go.Proofs.Ytekacbjnpeglhaa.PBan.flat a_bans))) (N0_1 : Hid (a_bans.length ≤ 9223372036854775807)) (M1_0 : Hid (Cells w 1 A1_0 b_sizes.length (Go.Proofs.Ytekacbjnpeglhaa.HelpInt.iv b_sizes))) (N1_0 : Hid (b_sizes.length ≤ 9223372036854775807)) (M1_1 : Hid (Cells w 4 A1_1 b_bans.length (Go.Proofs.Ytekacbjnpeglhaa.PBan.flat b_bans))) (N1_1 : Hid (b_bans.length ≤ 9223372036854775807))  {r : Bool} (H : Hid (P a_sizes a_bans b_sizes b_bans = some r)) :
    Calls Try.prog 17 #[.agg #[.slice A0_0 a_sizes.length c0_0, .slice A0_1 a_bans.length c0_1], .agg #[.slice A1_0 b_sizes.length c1_0, .slice A1_1 b_bans.length c1_1]] w (Gives (.bool r) w) := by
  have HB := Lib.hid (Below.refl w.heap.size w)
  unfold P at H
  have N0_0o := N0_0.out
  have N0_1o := N0_1.out
  have N1_0o := N1_0.out
  have N1_1o := N1_1.out
  go_enter Try.func17, Try.ntmps17
  obtain ⟨w_a_0, hw_a_0⟩ : ∃ x, w.alloc (.cells #[.slice A0_0 a_sizes.length c0_0, .slice A0_1 a_bans.length c0_1] 30) = x := ⟨_, rfl⟩
  have bw_a_0 : Below w.heap.size w w_a_0 := by rw [← hw_a_0]; exact (Below.refl _ _).alloc (Nat.le_refl _) _
  have HBw_a_0 := Lib.hid (Below.step HB.out bw_a_0)
  clear bw_a_0
  have ka_0_0 : w_a_0.cell? ⟨w.heap.size, 0, none⟩ = some (.slice A0_0 a_sizes.length c0_0) := by rw [← hw_a_0]; exact box_new _ _ _ 0 _ rfl
  have ka_0_1 : w_a_0.cell? ⟨w.heap.size, 1, none⟩ = some (.slice A0_1 a_bans.length c0_1) := by rw [← hw_a_0]; exact box_new _ _ _ 1 _ rfl
  obtain ⟨w_b_1, hw_b_1⟩ : ∃ x, w_a_0.alloc (.cells #[.slice A1_0 b_sizes.length c1_0, .slice A1_1 b_bans.length c1_1] 30) = x := ⟨_, rfl⟩
  have bw_b_1 : Below w_a_0.heap.size w_a_0 w_b_1 := by rw [← hw_b_1]; exact (Below.refl _ _).alloc (Nat.le_refl _) _
  have HBw_b_1 := Lib.hid (Below.step HBw_a_0.out bw_b_1)
  have ka_0_0__191 := cell_below bw_b_1 ka_0_0
  have ka_0_1__192 := cell_below bw_b_1 ka_0_1
  clear bw_b_1
  have kb_1_0 : w_b_1.cell? ⟨w_a_0.heap.size, 0, none⟩ = some (.slice A1_0 b_sizes.length c1_0) := by rw [← hw_b_1]; exact box_new _ _ _ 0 _ rfl
  have kb_1_1 : w_b_1.cell? ⟨w_a_0.heap.size, 1, none⟩ = some (.slice A1_1 b_bans.length c1_1) := by rw [← hw_b_1]; exact box_new _ _ _ 1 _ rfl
  replace H := bind_hid H
  obtain ⟨t_7, qt_7, H⟩ := H
  go_wp2_with fail
  clear ka_0_0 ka_0_1
  go_at_call 21
  refine (Go.Proofs.Ytekacbjnpeglhaa.GlEqIntS.C (a_sizes) (b_sizes) A0_0 c0_0 A1_0 c1_0 _   (Lib.hid (Cells.below M0_0.out HBw_b_1.out)) N0_0 (Lib.hid (Cells.below M1_0.out HBw_b_1.out)) N1_0 qt_7).mono ?_
  rintro e_t_7 wt_7 ⟨rfl, bt_7⟩
  have HBwt_7 := Lib.hid (Below.step HBw_b_1.out bt_7)
  replace ka_0_0__191 := cell_below bt_7 ka_0_0__191
  replace ka_0_1__192 := cell_below bt_7 ka_0_1__192
  replace kb_1_0 := cell_below bt_7 kb_1_0
  replace kb_1_1 := cell_below bt_7 kb_1_1
  clear bt_7
  cases t_7 with
  | false =>
    replace H := let_hid H
    obtain ⟨t_8, ht_8, H⟩ := H
    obtain rfl : t_8 = true := ht_8.symm
    replace H := ite_t H
    obtain rfl := ret_hid H
    go_wp2_with fail
    go_ret
    exact ⟨rfl, HBwt_7.out⟩
  | true =>
    replace H := let_hid H
    obtain ⟨t_8, ht_8, H⟩ := H
    obtain rfl : t_8 = false := ht_8.symm
    replace H := ite_f H
    replace H := bind_hid H
    obtain ⟨t_14, qt_14, H⟩ := H
    go_wp2_with fail
    go_at_call 58
    refine (Go.Proofs.Ytekacbjnpeglhaa.GlEqBanS.C (a_bans) (b_bans) A0_1 c0_1 A1_1 c1_1 _   (Lib.hid (Cells.below M0_1.out HBwt_7.out)) N0_1 (Lib.hid (Cells.below M1_1.out HBwt_7.out)) N1_1 qt_14).mono ?_
    rintro e_t_14 wt_14 ⟨rfl, bt_14⟩
    have HBwt_14 := Lib.hid (Below.step HBwt_7.out bt_14)
    replace ka_0_0__191 := cell_below bt_14 ka_0_0__191
    replace ka_0_1__192 := cell_below bt_14 ka_0_1__192
    replace kb_1_0 := cell_below bt_14 kb_1_0
    replace kb_1_1 := cell_below bt_14 kb_1_1
    clear bt_14
    cases t_14 with
    | false =>
      replace H := let_hid H
      obtain ⟨t_15, ht_15, H⟩ := H
      obtain rfl : t_15 = true := ht_15.symm
      replace H := ite_t H
      obtain rfl := ret_hid H
      go_wp2_with fail
      go_ret
      exact ⟨rfl, HBwt_14.out⟩
    | true =>
      replace H := let_hid H
      obtain ⟨t_15, ht_15, H⟩ := H
      obtain rfl : t_15 = false := ht_15.symm
      replace H := ite_f H
      obtain rfl := ret_hid H
      go_wp2_with fail
      go_ret
      exact ⟨rfl, HBwt_14.out⟩
end Go.Proofs.Ytekacbjnpeglhaa.GlEqKindTable

/- loop.example/g01062/laws.FnExactCountCompatible as a plain function, and the contract of the program's: where the plain one has an answer, the program has it. Conditions: slices read as lists. -/
namespace Go.Proofs.Ytekacbjnpeglhaa.GlFnExactCountCompatible
set_option linter.unusedVariables false
set_option linter.unusedSimpArgs false
open Go.RowKit
open Go.Proofs.Ytekacbjnpeglhaa.Rowed Go.Proofs.Ytekacbjnpeglhaa.Turn Go.Proofs.Ytekacbjnpeglhaa.Aid Go.Proofs.Ytekacbjnpeglhaa.GoP Go.Proofs.Ytekacbjnpeglhaa.GoM

def P (fuel : Nat) (aT_sizes : (List Int)) (aT_bans : (List Go.Proofs.Ytekacbjnpeglhaa.PBan.Ban)) : Option (Bool) :=
  Option.bind (Go.Proofs.Ytekacbjnpeglhaa.GlSzKindTable.P aT_sizes aT_bans 1048576) fun (t_5 : Int) =>
  letK (decide (t_5 < 0)) fun (t_8 : Bool) =>
  iteK t_8
  (some true)
  (Option.bind (Go.Proofs.Ytekacbjnpeglhaa.GlToKindTable.P aT_sizes aT_bans) fun (t_11 : Go.Proofs.Ytekacbjnpeglhaa.PKindTable.KindTable) =>
  unKindTable t_11 fun (t_11_sizes : (List Int)) (t_11_bans : (List Go.Proofs.Ytekacbjnpeglhaa.PBan.Ban)) =>
  bind2 (Go.Proofs.Ytekacbjnpeglhaa.GsCountCompatible.P fuel t_11_sizes t_11_bans) fun (t_12a : Int) (t_12b : Bool) =>
  Option.bind (Go.Proofs.Ytekacbjnpeglhaa.GlToKindTable.P aT_sizes aT_bans) fun (t_19 : Go.Proofs.Ytekacbjnpeglhaa.PKindTable.KindTable) =>
  unKindTable t_19 fun (t_19_sizes : (List Int)) (t_19_bans : (List Go.Proofs.Ytekacbjnpeglhaa.PBan.Ban)) =>
  bind2 (Go.Proofs.Ytekacbjnpeglhaa.GiCountCompatible.P fuel t_19_sizes t_19_bans) fun (t_23a : Int) (t_23b : Bool) =>
  letK (t_23a != t_12a) fun (t_31 : Bool) =>
  joinK (fun (t_36 : Bool) =>
  iteK t_36
  (some false)
  (Option.bind (Go.Proofs.Ytekacbjnpeglhaa.GlToKindTable.P aT_sizes aT_bans) fun (t_40 : Go.Proofs.Ytekacbjnpeglhaa.PKindTable.KindTable) =>
  unKindTable t_40 fun (t_40_sizes : (List Int)) (t_40_bans : (List Go.Proofs.Ytekacbjnpeglhaa.PBan.Ban)) =>
  Option.bind (Go.Proofs.Ytekacbjnpeglhaa.GlEqKindTable.P t_19_sizes t_19_bans t_40_sizes t_40_bans) fun (t_41 : Bool) =>
  letK (!t_41) fun (t_42 : Bool) =>
  iteK t_42
  (some false)
  (some true))) fun jt_36 => iteK t_31 (appK jt_36 true) (letK (!(t_23b == t_12b)) fun (t_35 : Bool) =>
  appK jt_36 t_35))

set_option maxRecDepth 100000 in
set_option maxHeartbeats 2000000 in
theorem C (fuel : Nat) (aT_sizes : (List Int)) (aT_bans : (List Go.Proofs.Ytekacbjnpeglhaa.PBan.Ban)) (A0_0 : Option Addr) (c0_0 : Nat) (A0_1 : Option Addr) (c0_1 : Nat)  (w : World) (M0_0 : Hid (Cells w 1 A0_0 aT_sizes.length (Go.Proofs.Ytekacbjnpeglhaa.HelpInt.iv aT_sizes))) (N0_0 : Hid (aT_sizes.length ≤ 9223372036854775807)) (M0_1 : Hid (Cells w 4 A0_1 aT_bans.length (Go.Proofs.Ytekacbjnpeglhaa.PBan.flat aT_bans))) (N0_1 : Hid (aT_bans.length ≤ 9223372036854775807))  {r : Bool} (H : Hid (P fuel aT_sizes aT_bans = some r)) :
    Calls Try.prog 5 #[.agg #[.slice A0_0 aT_sizes.length c0_0, .slice A0_1 aT_bans.length c0_1]] w (Gives (.bool r) w) := by
  have HB := Lib.hid (Below.refl w.heap.size w)
  unfold P at H
  have N0_0o := N0_0.out
  have N0_1o := N0_1.out
  go_enter Try.func5, Try.ntmps5
  obtain ⟨w_aT_0, hw_aT_0⟩ : ∃ x, w.alloc (.cells #[.slice A0_0 aT_sizes.length c0_0, .slice A0_1 aT_bans.length c0_1] 25) = x := ⟨_, rfl⟩
  have bw_aT_0 : Below w.heap.size w w_aT_0 := by rw [← hw_aT_0]; exact (Below.refl _ _).alloc (Nat.le_refl _) _
  have HBw_aT_0 := Lib.hid (Below.step HB.out bw_aT_0)
  clear bw_aT_0
  have kaT_0_0 : w_aT_0.cell? ⟨w.heap.size, 0, none⟩ = some (.slice A0_0 aT_sizes.length c0_0) := by rw [← hw_aT_0]; exact box_new _ _ _ 0 _ rfl
  have kaT_0_1 : w_aT_0.cell? ⟨w.heap.size, 1, none⟩ = some (.slice A0_1 aT_bans.length c0_1) := by rw [← hw_aT_0]; exact box_new _ _ _ 1 _ rfl
  replace H := bind_hid H
  obtain ⟨t_5, qt_5, H⟩ := H
  go_wp2_with fail
  go_at_call 13
  refine (Go.Proofs.Ytekacbjnpeglhaa.GlSzKindTable.C (aT_sizes) (aT_bans) (1048576) A0_0 c0_0 A0_1 c0_1 _   (Lib.hid (Cells.below M0_0.out HBw_aT_0.out)) N0_0 (Lib.hid (Cells.below M0_1.out HBw_aT_0.out)) N0_1 qt_5).mono ?_
  rintro e_t_5 wt_5 ⟨rfl, bt_5⟩
  have HBwt_5 := Lib.hid (Below.step HBw_aT_0.out bt_5)
  replace kaT_0_0 := cell_below bt_5 kaT_0_0
  replace kaT_0_1 := cell_below bt_5 kaT_0_1
  clear bt_5
  replace H := let_hid H
  obtain ⟨t_8, ht_8, H⟩ := H
  cases t_8 with
  | false =>
    replace H := ite_f H
    replace H := bind_hid H
    obtain ⟨t_11, qt_11, H⟩ := H
    obtain ⟨t_11_sizes, t_11_bans⟩ := t_11
    replace H := unKindTable_hid H
    go_wp2_with fail
    go_at_call 15
    refine (Go.Proofs.Ytekacbjnpeglhaa.GlToKindTable.C (aT_sizes) (aT_bans) A0_0 c0_0 A0_1 c0_1 _   (Lib.hid (Cells.below M0_0.out HBwt_5.out)) N0_0 (Lib.hid (Cells.below M0_1.out HBwt_5.out)) N0_1 qt_11).mono ?_
    rintro e_t_11 wt_11 ⟨At_11_sizes, ct_11_sizes, At_11_bans, ct_11_bans, rfl, ot_11_sizes, ot_11_bans, d0_1, bt_11⟩
    have Dt_11_sizes_aT_0 := Lib.hid (apart_callbox ot_11_sizes kaT_0_0)
    have Dt_11_bans_aT_0 := Lib.hid (apart_callbox ot_11_bans kaT_0_0)
    have Dt_11_sizes_t_11_bans := Lib.hid d0_1
    have Ot_11_sizes := Lib.hid (own_lower ot_11_sizes HBwt_5.out.size)
    clear ot_11_sizes
    have Ot_11_bans := Lib.hid (own_lower ot_11_bans HBwt_5.out.size)
    clear ot_11_bans
    have HBwt_11 := Lib.hid (Below.step HBwt_5.out bt_11)
    replace kaT_0_0 := cell_below bt_11 kaT_0_0
    replace kaT_0_1 := cell_below bt_11 kaT_0_1
    clear bt_11
    replace H := bind2_hid H
    obtain ⟨t_12a, t_12b, qt_12, H⟩ := H
    go_wp2_with fail
    go_at_call 22
    refine (Go.Proofs.Ytekacbjnpeglhaa.GsCountCompatible.C fuel (t_11_sizes) (t_11_bans) At_11_sizes ct_11_sizes At_11_bans ct_11_bans _   (Lib.hid (own_cells Ot_11_sizes.out)) (Lib.hid (own_max Ot_11_sizes.out)) (Lib.hid (own_cells Ot_11_bans.out)) (Lib.hid (own_max Ot_11_bans.out)) qt_12).mono ?_
    rintro e_t_12 wt_12 ⟨rfl, bt_12⟩
    have HBwt_12 := Lib.hid (Below.step HBwt_11.out bt_12)
    replace kaT_0_0 := cell_below bt_12 kaT_0_0
    replace kaT_0_1 := cell_below bt_12 kaT_0_1
    replace Ot_11_sizes := Lib.hid (own_below Ot_11_sizes.out bt_12)
    replace Ot_11_bans := Lib.hid (own_below Ot_11_bans.out bt_12)
    clear bt_12
    replace H := bind_hid H
    obtain ⟨t_19, qt_19, H⟩ := H
    obtain ⟨t_19_sizes, t_19_bans⟩ := t_19
    replace H := unKindTable_hid H
    go_wp2_with fail
    go_at_call 15
    refine (Go.Proofs.Ytekacbjnpeglhaa.GlToKindTable.C (aT_sizes) (aT_bans) A0_0 c0_0 A0_1 c0_1 _   (Lib.hid (Cells.below M0_0.out HBwt_12.out)) N0_0 (Lib.hid (Cells.below M0_1.out HBwt_12.out)) N0_1 qt_19).mono ?_
    rintro e_t_19 wt_19 ⟨At_19_sizes, ct_19_sizes, At_19_bans, ct_19_bans, rfl, ot_19_sizes, ot_19_bans, d0_1, bt_19⟩
    have Dt_19_sizes_t_11_sizes := Lib.hid (apart_call ot_19_sizes Ot_11_sizes.out)
    have Dt_19_sizes_t_11_bans := Lib.hid (apart_call ot_19_sizes Ot_11_bans.out)
    have Dt_19_sizes_aT_0 := Lib.hid (apart_callbox ot_19_sizes kaT_0_0)
    have Dt_19_bans_t_11_sizes := Lib.hid (apart_call ot_19_bans Ot_11_sizes.out)
    have Dt_19_bans_t_11_bans := Lib.hid (apart_call ot_19_bans Ot_11_bans.out)
    have Dt_19_bans_aT_0 := Lib.hid (apart_callbox ot_19_bans kaT_0_0)
    have Dt_19_sizes_t_19_bans := Lib.hid d0_1
    have Ot_19_sizes := Lib.hid (own_lower ot_19_sizes HBwt_12.out.size)
    clear ot_19_sizes
    have Ot_19_bans := Lib.hid (own_lower ot_19_bans HBwt_12.out.size)
    clear ot_19_bans
    have HBwt_19 := Lib.hid (Below.step HBwt_12.out bt_19)
    replace kaT_0_0 := cell_below bt_19 kaT_0_0
    replace kaT_0_1 := cell_below bt_19 kaT_0_1
    replace Ot_11_sizes := Lib.hid (own_below Ot_11_sizes.out bt_19)
    replace Ot_11_bans := Lib.hid (own_below Ot_11_bans.out bt_19)
    clear bt_19
    obtain ⟨w_x0_20, hw_x0_20⟩ : ∃ x, wt_19.alloc (.cells #[.slice At_19_sizes t_19_sizes.length ct_19_sizes, .slice At_19_bans t_19_bans.length ct_19_bans] 30) = x := ⟨_, rfl⟩
    have bw_x0_20 : Below wt_19.heap.size wt_19 w_x0_20 := by rw [← hw_x0_20]; exact (Below.refl _ _).alloc (Nat.le_refl _) _
    have Dx0_20_t_11_sizes := Lib.hid (apart_fresh Ot_11_sizes.out)
    have Dx0_20_t_11_bans := Lib.hid (apart_fresh Ot_11_bans.out)
    have Dx0_20_t_19_sizes := Lib.hid (apart_fresh Ot_19_sizes.out)
    have Dx0_20_t_19_bans := Lib.hid (apart_fresh Ot_19_bans.out)
    have HBw_x0_20 := Lib.hid (Below.step HBwt_19.out bw_x0_20)
    have kaT_0_0__170 := cell_below bw_x0_20 kaT_0_0
    have kaT_0_1__171 := cell_below bw_x0_20 kaT_0_1
    replace Ot_11_sizes := Lib.hid (own_below Ot_11_sizes.out bw_x0_20)
    replace Ot_11_bans := Lib.hid (own_below Ot_11_bans.out bw_x0_20)
    replace Ot_19_sizes := Lib.hid (own_below Ot_19_sizes.out bw_x0_20)
    replace Ot_19_bans := Lib.hid (own_below Ot_19_bans.out bw_x0_20)
    clear bw_x0_20
    have kx0_20_0 : w_x0_20.cell? ⟨wt_19.heap.size, 0, none⟩ = some (.slice At_19_sizes t_19_sizes.length ct_19_sizes) := by rw [← hw_x0_20]; exact box_new _ _ _ 0 _ rfl
    have kx0_20_1 : w_x0_20.cell? ⟨wt_19.heap.size, 1, none⟩ = some (.slice At_19_bans t_19_bans.length ct_19_bans) := by rw [← hw_x0_20]; exact box_new _ _ _ 1 _ rfl
    replace H := bind2_hid H
    obtain ⟨t_23a, t_23b, qt_23, H⟩ := H
    go_wp2_with fail
    clear kaT_0_0 kaT_0_1
    go_at_call 23
    refine (Go.Proofs.Ytekacbjnpeglhaa.GiCountCompatible.C fuel (t_19_sizes) (t_19_bans) At_19_sizes ct_19_sizes At_19_bans ct_19_bans _   (Lib.hid (own_cells Ot_19_sizes.out)) (Lib.hid (own_max Ot_19_sizes.out)) (Lib.hid (own_room Ot_19_sizes.out)) (Lib.hid (own_cells Ot_19_bans.out)) (Lib.hid (own_max Ot_19_bans.out)) (Lib.hid (own_room Ot_19_bans.out)) qt_23).mono ?_
    rintro e_t_23 wt_23 ⟨rfl, bt_23⟩
    have HBwt_23 := Lib.hid (Below.step HBw_x0_20.out bt_23)
    replace kaT_0_0__170 := cell_below bt_23 kaT_0_0__170
    replace kaT_0_1__171 := cell_below bt_23 kaT_0_1__171
    replace kx0_20_0 := cell_below bt_23 kx0_20_0
    replace kx0_20_1 := cell_below bt_23 kx0_20_1
    replace Ot_11_sizes := Lib.hid (own_below Ot_11_sizes.out bt_23)
    replace Ot_11_bans := Lib.hid (own_below Ot_11_bans.out bt_23)
    replace Ot_19_sizes := Lib.hid (own_below Ot_19_sizes.out bt_23)
    replace Ot_19_bans := Lib.hid (own_below Ot_19_bans.out bt_23)
    clear bt_23
    replace H := let_hid H
    obtain ⟨t_31, ht_31, H⟩ := H
    replace H := join_hid H
    cases t_31 with
    | false =>
      replace H := ite_f H
      replace H := let_hid H
      obtain ⟨t_35, ht_35, H⟩ := H
      replace H := app_hid H
      cases t_35 with
      | false =>
        replace H := ite_f H
        go_wp2_with fail
        have bd10 : Below wt_23.heap.size wt_23 wt_23.drew := (Below.refl _ _).drew
        have HBwt_23.drew := Lib.hid (Below.step HBwt_23.out bd10)
        replace kaT_0_0__170 := cell_below bd10 kaT_0_0__170
        replace kaT_0_1__171 := cell_below bd10 kaT_0_1__171
        replace kx0_20_0 := cell_below bd10 kx0_20_0
        replace kx0_20_1 := cell_below bd10 kx0_20_1
        replace Ot_11_sizes := Lib.hid (own_below Ot_11_sizes.out bd10)
        replace Ot_11_bans := Lib.hid (own_below Ot_11_bans.out bd10)
        replace Ot_19_sizes := Lib.hid (own_below Ot_19_sizes.out bd10)
        replace Ot_19_bans := Lib.hid (own_below Ot_19_bans.out bd10)
        clear bd10
        replace H := bind_hid H
        obtain ⟨t_40, qt_40, H⟩ := H
        obtain ⟨t_40_sizes, t_40_bans⟩ := t_40
        replace H := unKindTable_hid H
        replace H := bind_hid H
        obtain ⟨t_41, qt_41, H⟩ := H
        cases t_41 with
        | false =>
          replace H := let_hid H
          obtain ⟨t_42, ht_42, H⟩ := H
          obtain rfl : t_42 = true := ht_42.symm
          go_region_held3 (fun w' => w'.cell? ⟨w.heap.size, 0, none⟩ = some (.slice A0_0 aT_sizes.length c0_0) ∧ w'.cell? ⟨w.heap.size, 1, none⟩ = some (.slice A0_1 aT_bans.length c0_1) ∧ w'.cell? ⟨wt_19.heap.size, 0, none⟩ = some (.slice At_19_sizes t_19_sizes.length ct_19_sizes) ∧ w'.cell? ⟨wt_19.heap.size, 1, none⟩ = some (.slice At_19_bans t_19_bans.length ct_19_bans)) (first | exact ⟨kaT_0_0__170, kaT_0_1__171, kx0_20_0, kx0_20_1⟩)
              (first
                | (go_at_call 15
                   refine (Go.Proofs.Ytekacbjnpeglhaa.GlToKindTable.C (aT_sizes) (aT_bans) A0_0 c0_0 A0_1 c0_1 _   (Lib.hid (Cells.below M0_0.out HBwt_23.drew.out)) N0_0 (Lib.hid (Cells.below M0_1.out HBwt_23.drew.out)) N0_1 qt_40).mono ?_
                   rintro e_t_40 wt_40 ⟨At_40_sizes, ct_40_sizes, At_40_bans, ct_40_bans, rfl, ot_40_sizes, ot_40_bans, d0_1, bt_40⟩
                   have Dt_40_sizes_t_11_sizes := Lib.hid (apart_call ot_40_sizes Ot_11_sizes.out)
                   have Dt_40_sizes_t_11_bans := Lib.hid (apart_call ot_40_sizes Ot_11_bans.out)
                   have Dt_40_sizes_t_19_sizes := Lib.hid (apart_call ot_40_sizes Ot_19_sizes.out)
                   have Dt_40_sizes_t_19_bans := Lib.hid (apart_call ot_40_sizes Ot_19_bans.out)
                   have Dt_40_sizes_aT_0 := Lib.hid (apart_callbox ot_40_sizes kaT_0_0__170)
                   have Dt_40_sizes_x0_20 := Lib.hid (apart_callbox ot_40_sizes kx0_20_0)
                   have Dt_40_bans_t_11_sizes := Lib.hid (apart_call ot_40_bans Ot_11_sizes.out)
                   have Dt_40_bans_t_11_bans := Lib.hid (apart_call ot_40_bans Ot_11_bans.out)
                   have Dt_40_bans_t_19_sizes := Lib.hid (apart_call ot_40_bans Ot_19_sizes.out)
                   have Dt_40_bans_t_19_bans := Lib.hid (apart_call ot_40_bans Ot_19_bans.out)
                   have Dt_40_bans_aT_0 := Lib.hid (apart_callbox ot_40_bans kaT_0_0__170)
                   have Dt_40_bans_x0_20 := Lib.hid (apart_callbox ot_40_bans kx0_20_0)
                   have Dt_40_sizes_t_40_bans := Lib.hid d0_1
                   have Ot_40_sizes := Lib.hid (own_lower ot_40_sizes HBwt_23.drew.out.size)
                   clear ot_40_sizes
                   have Ot_40_bans := Lib.hid (own_lower ot_40_bans HBwt_23.drew.out.size)
                   clear ot_40_bans
                   have HBwt_40 := Lib.hid (Below.step HBwt_23.drew.out bt_40)
                   replace kaT_0_0__170 := cell_below bt_40 kaT_0_0__170
                   replace kaT_0_1__171 := cell_below bt_40 kaT_0_1__171
                   replace kx0_20_0 := cell_below bt_40 kx0_20_0
                   replace kx0_20_1 := cell_below bt_40 kx0_20_1
                   replace Ot_11_sizes := Lib.hid (own_below Ot_11_sizes.out bt_40)
                   replace Ot_11_bans := Lib.hid (own_below Ot_11_bans.out bt_40)
                   replace Ot_19_sizes := Lib.hid (own_below Ot_19_sizes.out bt_40)
                   replace Ot_19_bans := Lib.hid (own_below Ot_19_bans.out bt_40)
                   clear bt_40
                   clear qt_40)
                | (go_at_call 17
                   refine (Go.Proofs.Ytekacbjnpeglhaa.GlEqKindTable.C (t_19_sizes) (t_19_bans) (t_40_sizes) (t_40_bans) At_19_sizes ct_19_sizes At_19_bans ct_19_bans At_40_sizes ct_40_sizes At_40_bans ct_40_bans _   (Lib.hid (own_cells Ot_19_sizes.out)) (Lib.hid (own_max Ot_19_sizes.out)) (Lib.hid (own_cells Ot_19_bans.out)) (Lib.hid (own_max Ot_19_bans.out)) (Lib.hid (own_cells Ot_40_sizes.out)) (Lib.hid (own_max Ot_40_sizes.out)) (Lib.hid (own_cells Ot_40_bans.out)) (Lib.hid (own_max Ot_40_bans.out)) qt_41).mono ?_
                   rintro e_t_41 wt_41 ⟨rfl, bt_41⟩
                   have HBwt_41 := Lib.hid (Below.step HBwt_40.out bt_41)
                   replace kaT_0_0__170 := cell_below bt_41 kaT_0_0__170
                   replace kaT_0_1__171 := cell_below bt_41 kaT_0_1__171
                   replace kx0_20_0 := cell_below bt_41 kx0_20_0
                   replace kx0_20_1 := cell_below bt_41 kx0_20_1
                   replace Ot_11_sizes := Lib.hid (own_below Ot_11_sizes.out bt_41)
                   replace Ot_11_bans := Lib.hid (own_below Ot_11_bans.out bt_41)
                   replace Ot_19_sizes := Lib.hid (own_below Ot_19_sizes.out bt_41)
                   replace Ot_19_bans := Lib.hid (own_below Ot_19_bans.out bt_41)
                   replace Ot_40_sizes := Lib.hid (own_below Ot_40_sizes.out bt_41)
                   replace Ot_40_bans := Lib.hid (own_below Ot_40_bans.out bt_41)
                   clear bt_41
                   clear qt_41))
          replace H := ite_t H
          obtain rfl := ret_hid H
          go_wp2_with fail
          go_ret
          exact ⟨rfl, HBwt_41.out⟩
        | true =>
          replace H := let_hid H
          obtain ⟨t_42, ht_42, H⟩ := H
          obtain rfl : t_42 = false := ht_42.symm
          go_region_held3 (fun w' => w'.cell? ⟨w.heap.size, 0, none⟩ = some (.slice A0_0 aT_sizes.length c0_0) ∧ w'.cell? ⟨w.heap.size, 1, none⟩ = some (.slice A0_1 aT_bans.length c0_1) ∧ w'.cell? ⟨wt_19.heap.size, 0, none⟩ = some (.slice At_19_sizes t_19_sizes.length ct_19_sizes) ∧ w'.cell? ⟨wt_19.heap.size, 1, none⟩ = some (.slice At_19_bans t_19_bans.length ct_19_bans)) (first | exact ⟨kaT_0_0__170, kaT_0_1__171, kx0_20_0, kx0_20_1⟩)
              (first
                | (go_at_call 15
                   refine (Go.Proofs.Ytekacbjnpeglhaa.GlToKindTable.C (aT_sizes) (aT_bans) A0_0 c0_0 A0_1 c0_1 _   (Lib.hid (Cells.below M0_0.out HBwt_23.drew.out)) N0_0 (Lib.hid (Cells.below M0_1.out HBwt_23.drew.out)) N0_1 qt_40).mono ?_
                   rintro e_t_40 wt_40 ⟨At_40_sizes, ct_40_sizes, At_40_bans, ct_40_bans, rfl, ot_40_sizes, ot_40_bans, d0_1, bt_40⟩
                   have Dt_40_sizes_t_11_sizes := Lib.hid (apart_call ot_40_sizes Ot_11_sizes.out)
                   have Dt_40_sizes_t_11_bans := Lib.hid (apart_call ot_40_sizes Ot_11_bans.out)
                   have Dt_40_sizes_t_19_sizes := Lib.hid (apart_call ot_40_sizes Ot_19_sizes.out)
                   have Dt_40_sizes_t_19_bans := Lib.hid (apart_call ot_40_sizes Ot_19_bans.out)
                   have Dt_40_sizes_aT_0 := Lib.hid (apart_callbox ot_40_sizes kaT_0_0__170)
                   have Dt_40_sizes_x0_20 := Lib.hid (apart_callbox ot_40_sizes kx0_20_0)
                   have Dt_40_bans_t_11_sizes := Lib.hid (apart_call ot_40_bans Ot_11_sizes.out)
                   have Dt_40_bans_t_11_bans := Lib.hid (apart_call ot_40_bans Ot_11_bans.out)
                   have Dt_40_bans_t_19_sizes := Lib.hid (apart_call ot_40_bans Ot_19_sizes.out)
                   have Dt_40_bans_t_19_bans := Lib.hid (apart_call ot_40_bans Ot_19_bans.out)
                   have Dt_40_bans_aT_0 := Lib.hid (apart_callbox ot_40_bans kaT_0_0__170)
                   have Dt_40_bans_x0_20 := Lib.hid (apart_callbox ot_40_bans kx0_20_0)
                   have Dt_40_sizes_t_40_bans := Lib.hid d0_1
                   have Ot_40_sizes := Lib.hid (own_lower ot_40_sizes HBwt_23.drew.out.size)
                   clear ot_40_sizes
                   have Ot_40_bans := Lib.hid (own_lower ot_40_bans HBwt_23.drew.out.size)
                   clear ot_40_bans
                   have HBwt_40 := Lib.hid (Below.step HBwt_23.drew.out bt_40)
                   replace kaT_0_0__170 := cell_below bt_40 kaT_0_0__170
                   replace kaT_0_1__171 := cell_below bt_40 kaT_0_1__171
                   replace kx0_20_0 := cell_below bt_40 kx0_20_0
                   replace kx0_20_1 := cell_below bt_40 kx0_20_1
                   replace Ot_11_sizes := Lib.hid (own_below Ot_11_sizes.out bt_40)
                   replace Ot_11_bans := Lib.hid (own_below Ot_11_bans.out bt_40)
                   replace Ot_19_sizes := Lib.hid (own_below Ot_19_sizes.out bt_40)
                   replace Ot_19_bans := Lib.hid (own_below Ot_19_bans.out bt_40)
                   clear bt_40
                   clear qt_40)
                | (go_at_call 17
                   refine (Go.Proofs.Ytekacbjnpeglhaa.GlEqKindTable.C (t_19_sizes) (t_19_bans) (t_40_sizes) (t_40_bans) At_19_sizes ct_19_sizes At_19_bans ct_19_bans At_40_sizes ct_40_sizes At_40_bans ct_40_bans _   (Lib.hid (own_cells Ot_19_sizes.out)) (Lib.hid (own_max Ot_19_sizes.out)) (Lib.hid (own_cells Ot_19_bans.out)) (Lib.hid (own_max Ot_19_bans.out)) (Lib.hid (own_cells Ot_40_sizes.out)) (Lib.hid (own_max Ot_40_sizes.out)) (Lib.hid (own_cells Ot_40_bans.out)) (Lib.hid (own_max Ot_40_bans.out)) qt_41).mono ?_
                   rintro e_t_41 wt_41 ⟨rfl, bt_41⟩
                   have HBwt_41 := Lib.hid (Below.step HBwt_40.out bt_41)
                   replace kaT_0_0__170 := cell_below bt_41 kaT_0_0__170
                   replace kaT_0_1__171 := cell_below bt_41 kaT_0_1__171
                   replace kx0_20_0 := cell_below bt_41 kx0_20_0
                   replace kx0_20_1 := cell_below bt_41 kx0_20_1
                   replace Ot_11_sizes := Lib.hid (own_below Ot_11_sizes.out bt_41)
                   replace Ot_11_bans := Lib.hid (own_below Ot_11_bans.out bt_41)
                   replace Ot_19_sizes := Lib.hid (own_below Ot_19_sizes.out bt_41)
                   replace Ot_19_bans := Lib.hid (own_below Ot_19_bans.out bt_41)
                   replace Ot_40_sizes := Lib.hid (own_below Ot_40_sizes.out bt_41)
                   replace Ot_40_bans := Lib.hid (own_below Ot_40_bans.out bt_41)
                   clear bt_41
                   clear qt_41))
          replace H := ite_f H
          obtain rfl := ret_hid H
          go_wp2_with fail
          go_ret
          exact ⟨rfl, HBwt_41.out⟩
      | true =>
        replace H := ite_t H
        obtain rfl := ret_hid H
        go_wp2_with fail
        go_ret
        exact ⟨rfl, HBwt_23.out⟩
    | true =>
      replace H := ite_t H
      replace H := app_hid H
      replace H := ite_t H
      obtain rfl := ret_hid H
      go_wp2_with fail
      go_ret
      exact ⟨rfl, HBwt_23.out⟩
  | true =>
    replace H := ite_t H
    obtain rfl := ret_hid H
    go_wp2_with fail
    go_ret
    exact ⟨rfl, HBwt_5.out⟩
end Go.Proofs.Ytekacbjnpeglhaa.GlFnExactCountCompatible

/- Plain words on stamps: what a stamp is, when one is valid, when a list of them is; the cells of a list of records. No condition. -/
namespace Go.Proofs.Ytekacbjnpeglhaa.PlainStamp
set_option linter.unusedVariables false

/-- a number lies in a..b -/
def inB (x a b : Int) : Bool := decide (a ≤ x ∧ x ≤ b)
theorem inB_yes {x a b : Int} (h1 : a ≤ x) (h2 : x ≤ b) : inB x a b = true := by unfold inB; exact decide_eq_true ⟨h1, h2⟩
theorem inB_of {x a b : Int} (h : inB x a b = true) : a ≤ x ∧ x ≤ b := by unfold inB at h; exact of_decide_eq_true h
theorem inB_no {x a b : Int} (h : x < a ∨ b < x) : inB x a b = false := by unfold inB; exact decide_eq_false (by omega)

structure St where
  id : Int
  face : Int
  color : Int
  year : Int
deriving DecidableEq

def St.cells (s : St) : List Value := [.int .i64 s.id, .int .i64 s.face, .int .i64 s.color, .int .i64 s.year]
def St.val (s : St) : Value := .agg #[.int .i64 s.id, .int .i64 s.face, .int .i64 s.color, .int .i64 s.year]
/-- each field fits an int -/
def St.fits (s : St) : Prop := (Lit.int .i64 s.id).wf = true ∧ (Lit.int .i64 s.face).wf = true ∧ (Lit.int .i64 s.color).wf = true ∧ (Lit.int .i64 s.year).wf = true

def okSt (s : St) : Bool := inB s.id 1 999 && inB s.face 0 9999 && inB s.color 0 99 && inB s.year 1840 2100
theorem okSt_yes {s : St} (h : okSt s = true) : (1 ≤ s.id ∧ s.id ≤ 999) ∧ (0 ≤ s.face ∧ s.face ≤ 9999) ∧ (0 ≤ s.color ∧ s.color ≤ 99) ∧ (1840 ≤ s.year ∧ s.year ≤ 2100) := by
  unfold okSt at h
  simp only [Bool.and_eq_true] at h
  exact ⟨inB_of h.1.1.1, inB_of h.1.1.2, inB_of h.1.2, inB_of h.2⟩

/-- the stamp at k is valid, and its id is above the one ahead of it -/
def okAt (l : List St) (k : Nat) : Bool :=
  match l[k]? with
  | none => true
  | some s => okSt s && (decide (k = 0) || (match l[k-1]? with | none => true | some r => decide (r.id < s.id)))
def okUp (l : List St) (k : Nat) : Bool := (List.range k).all (okAt l)
theorem okUp_zero (l : List St) : okUp l 0 = true := by simp [okUp]
theorem okUp_succ (l : List St) (k : Nat) : okUp l (k + 1) = (okUp l k && okAt l k) := by simp [okUp, List.range_succ, List.all_append]
theorem okUp_not {l : List St} {k n : Nat} (h : okAt l k = false) (hk : k < n) : okUp l n = false := by
  unfold okUp
  rw [Bool.eq_false_iff]
  intro hall
  have := List.all_eq_true.1 hall k (List.mem_range.2 hk)
  rw [h] at this; exact absurd this (by simp)
/-- a list of at most twelve valid stamps with rising ids -/
def okSts (l : List St) : Bool := decide (l.length ≤ 12) && okUp l l.length
theorem okAt_of {l : List St} {k : Nat} {s : St} (hs : l[k]? = some s) (h : okAt l k = true) : okSt s = true ∧ ∀ r, 0 < k → l[k-1]? = some r → r.id < s.id := by
  unfold okAt at h
  rw [hs] at h
  simp only [Bool.and_eq_true, Bool.or_eq_true, decide_eq_true_eq] at h
  refine ⟨h.1, fun r hk hr => ?_⟩
  rcases h.2 with h0 | h0
  · omega
  · rw [hr] at h0; simpa using h0
theorem okSts_len {l : List St} (h : okSts l = true) : l.length ≤ 12 := by unfold okSts at h; simp only [Bool.and_eq_true, decide_eq_true_eq] at h; exact h.1
theorem okSts_at {l : List St} (h : okSts l = true) {k : Nat} {s : St} (hs : l[k]? = some s) : okSt s = true ∧ ∀ r, 0 < k → l[k-1]? = some r → r.id < s.id := by
  unfold okSts at h
  simp only [Bool.and_eq_true, decide_eq_true_eq] at h
  exact okAt_of hs (List.all_eq_true.1 h.2 k (List.mem_range.2 (List.getElem?_eq_some_iff.1 hs).1))
theorem okSts_mem {l : List St} (h : okSts l = true) {s : St} (hs : s ∈ l) : okSt s = true := by
  obtain ⟨k, hk⟩ := List.getElem?_of_mem hs
  exact (okSts_at h hk).1

/-- the cells of a list of stamps, one after the other -/
def flat (l : List St) : List Value := l.flatMap St.cells
theorem flat_nil : flat [] = [] := rfl
theorem flat_cons (s : St) (l : List St) : flat (s :: l) = s.cells ++ flat l := by simp [flat]
theorem flat_len (l : List St) : (flat l).length = l.length * 4 := by
  induction l with
  | nil => rfl
  | cons s l ih => rw [flat_cons, List.length_append, ih]; simp [St.cells]; omega
theorem flat_at : ∀ (l : List St) (k : Nat) (s : St), l[k]? = some s → ∀ j, j < 4 → (flat l)[k * 4 + j]? = s.cells[j]?
  | [], k, s, h, _, _ => by simp at h
  | r :: l, 0, s, h, j, hj => by
    obtain rfl : r = s := by simpa using h
    rw [flat_cons, List.getElem?_append_left (by simp [St.cells]; omega)]; simp
  | r :: l, k + 1, s, h, j, hj => by
    rw [flat_cons, List.getElem?_append_right (by simp [St.cells]; omega), show (k + 1) * 4 + j - r.cells.length = k * 4 + j by simp [St.cells]; omega]
    exact flat_at l k s (by simpa using h) j hj
end Go.Proofs.Ytekacbjnpeglhaa.PlainStamp

/- Words for reckoning with plain functions; within and l1In. No condition. -/
namespace Go.Proofs.Ytekacbjnpeglhaa.QBase
set_option linter.unusedVariables false
set_option linter.unusedSimpArgs false
open Go.RowKit
open Go.Proofs.Ytekacbjnpeglhaa.GoP Go.Proofs.Ytekacbjnpeglhaa.PlainStamp

theorem iteK_if {ρ : Type} (c : Bool) (a b : Option ρ) : iteK c a b = if c = true then a else b := by cases c <;> rfl
theorem bind2_some {α β ρ : Type} (a : α) (b : β) (f : α → β → Option ρ) : bind2 (some (a, b)) f = f a b := rfl
theorem bind3_some {α β γ ρ : Type} (a : α) (b : β) (c : γ) (f : α → β → γ → Option ρ) : bind3 (some (a, b, c)) f = f a b c := rfl
theorem unp2_mk {α β ρ : Type} (a : α) (b : β) (f : α → β → Option ρ) : unp2 (a, b) f = f a b := rfl
theorem unp3_mk {α β γ ρ : Type} (a : α) (b : β) (c : γ) (f : α → β → γ → Option ρ) : unp3 (a, b, c) f = f a b c := rfl
theorem guardK_pos {ρ : Type} {p : Prop} [Decidable p] {a : Option ρ} (h : p) : guardK p a = a := if_pos h
theorem cut2 {α β : Type} {x : Option (α × β)} {p : α × β} (h : x = some p) : x = some (p.1, p.2) := h
theorem cut3 {α β γ : Type} {x : Option (α × β × γ)} {p : α × β × γ} (h : x = some p) : x = some (p.1, p.2.1, p.2.2) := h
theorem within_eq (n a b : Int) : GiWithin.P n a b = some (inB n a b) := by
  simp only [GiWithin.P, letK, joinK, appK, iteK_if, inB]
  by_cases h1 : a ≤ n <;> by_cases h2 : n ≤ b <;> simp [h1, h2]
theorem l1In_eq (n a b : Int) : GsL1In.P n a b = some (inB n a b) := by
  simp only [GsL1In.P, letK, joinK, appK, iteK_if, inB]
  by_cases h1 : a ≤ n <;> by_cases h2 : n ≤ b <;> simp [h1, h2]
end Go.Proofs.Ytekacbjnpeglhaa.QBase

/- Reckoning with the loops of plain functions; lists of valid records with rising ids. No condition. -/
namespace Go.Proofs.Ytekacbjnpeglhaa.QLoop
set_option linter.unusedVariables false
open Go.RowKit
open Go.Proofs.Ytekacbjnpeglhaa.GoP Go.Proofs.Ytekacbjnpeglhaa.QBase

theorem cnt_ex {σ ρ : Type} {f : Nat → σ → (σ → Option ρ) → (σ → Option ρ) → Option ρ} {fin : σ → Option ρ} {Q : ρ → Prop} {n : Nat} (I : Nat → σ → Prop)
    (step : ∀ k s nx, k < n → I k s → (∀ s', I (k + 1) s' → ∃ r, nx s' = some r ∧ Q r) → ∃ r, f k s nx fin = some r ∧ Q r) (done : ∀ s, I n s → ∃ r, fin s = some r ∧ Q r) :
    ∀ m k s, k + m = n → I k s → ∃ r, cntK f m k s fin = some r ∧ Q r := by
  intro m
  induction m with
  | zero => intro k s hk hI; obtain rfl : k = n := by omega
            exact done s hI
  | succ m ih => intro k s hk hI; exact step k s _ (by omega) hI (fun s' h' => ih (k + 1) s' (by omega) h')
theorem cnt_is {σ ρ : Type} {f : Nat → σ → (σ → Option ρ) → (σ → Option ρ) → Option ρ} {fin : σ → Option ρ} {n : Nat} (r : ρ) (I : Nat → σ → Prop)
    (step : ∀ k s nx, k < n → I k s → (∀ s', I (k + 1) s' → nx s' = some r) → f k s nx fin = some r) (done : ∀ s, I n s → fin s = some r) (s : σ) (h0 : I 0 s) : cntK f n 0 s fin = some r := by
  obtain ⟨r', h, rfl⟩ := cnt_ex (Q := fun x => x = r) I (fun k s nx hk hI hn => ⟨r, step k s nx hk hI (fun s' h' => by obtain ⟨_, h, rfl⟩ := hn s' h'; exact h), rfl⟩) (fun s h => ⟨r, done s h, rfl⟩) n 0 s (by omega) h0
  exact h
theorem at_lt {α : Type} {l : List α} {k : Nat} (h : k < l.length) : ∃ x, l[k]? = some x ∧ idx l (k : Int) = some x := ⟨l[k], List.getElem?_eq_getElem h, by rw [idx_nat, List.getElem?_eq_getElem h]⟩
theorem idx_pred {α : Type} {l : List α} {k : Nat} {x : α} (hk : 0 < k) (hb : k ≤ 9223372036854775807) (h : l[k - 1]? = some x) : idx l (IntKind.i64.wrap ((k : Int) - 1)) = some x := by
  rw [IntWalk.i64_in _ (by omega), show ((k : Int) - 1) = ((k - 1 : Nat) : Int) by omega, idx_nat, h]
theorem take_next {α : Type} {l : List α} {k : Nat} {x : α} (h : l[k]? = some x) : l.take (k + 1) = l.take k ++ [x] := by
  obtain ⟨hk, e⟩ := List.getElem?_eq_some_iff.1 h
  rw [List.take_succ_eq_append_getElem hk, e]
theorem all_next {α : Type} {p : α → Bool} {l : List α} {k : Nat} {x : α} (h : l[k]? = some x) : (l.take (k + 1)).all p = ((l.take k).all p && p x) := by
  rw [take_next h]; simp
theorem not_all {α : Type} {p : α → Bool} {l : List α} {k : Nat} {x : α} (h : l[k]? = some x) (hp : p x = false) : l.all p = false := by
  rw [Bool.eq_false_iff]
  intro ha
  have := List.all_eq_true.1 ha x (List.mem_of_getElem? h)
  rw [hp] at this; exact absurd this (by simp)
theorem wrap_in {x : Int} (h1 : -9223372036854775808 ≤ x) (h2 : x ≤ 9223372036854775807) : IntKind.i64.wrap x = x := IntWalk.i64_in _ (by omega)

/-- valid, and above the one ahead of it -/
def upAt {α : Type} (ok : α → Bool) (id : α → Int) (l : List α) (k : Nat) : Bool :=
  match l[k]? with
  | none => true
  | some s => ok s && (decide (k = 0) || (match l[k-1]? with | none => true | some r => decide (id r < id s)))
def upTo {α : Type} (ok : α → Bool) (id : α → Int) (l : List α) (k : Nat) : Bool := (List.range k).all (upAt ok id l)
theorem upTo_zero {α : Type} (ok : α → Bool) (id : α → Int) (l : List α) : upTo ok id l 0 = true := rfl
theorem upTo_succ {α : Type} (ok : α → Bool) (id : α → Int) (l : List α) (k : Nat) : upTo ok id l (k + 1) = (upTo ok id l k && upAt ok id l k) := by simp [upTo, List.range_succ, List.all_append]
theorem upTo_not {α : Type} {ok : α → Bool} {id : α → Int} {l : List α} {k n : Nat} (h : upAt ok id l k = false) (hk : k < n) : upTo ok id l n = false := by
  unfold upTo
  rw [Bool.eq_false_iff]
  intro ha
  have := List.all_eq_true.1 ha k (List.mem_range.2 hk)
  rw [h] at this; exact absurd this (by simp)
/-- a list of at most m valid records with rising ids -/
def upL {α : Type} (m : Nat) (ok : α → Bool) (id : α → Int) (l : List α) : Bool := decide (l.length ≤ m) && upTo ok id l l.length
theorem upAt_bad {α : Type} {ok : α → Bool} {id : α → Int} {l : List α} {k : Nat} {s : α} (hs : l[k]? = some s) (h : ok s = false) : upAt ok id l k = false := by unfold upAt; rw [hs]; simp [h]
theorem upAt_first {α : Type} {ok : α → Bool} {id : α → Int} {l : List α} {s : α} (hs : l[0]? = some s) (h : ok s = true) : upAt ok id l 0 = true := by unfold upAt; rw [hs]; simp [h]
theorem upAt_next {α : Type} {ok : α → Bool} {id : α → Int} {l : List α} {k : Nat} {s r : α} (hs : l[k]? = some s) (hr : l[k-1]? = some r) (hk : 0 < k) (h : ok s = true) : upAt ok id l k = decide (id r < id s) := by
  unfold upAt; rw [hs]; simp only [hr, h, Bool.true_and, decide_eq_false (show ¬ k = 0 by omega), Bool.false_or]
theorem upL_len {α : Type} {m : Nat} {ok : α → Bool} {id : α → Int} {l : List α} (h : upL m ok id l = true) : l.length ≤ m := by unfold upL at h; simp only [Bool.and_eq_true, decide_eq_true_eq] at h; exact h.1
theorem upL_ok {α : Type} {m : Nat} {ok : α → Bool} {id : α → Int} {l : List α} (h : upL m ok id l = true) {k : Nat} {s : α} (hs : l[k]? = some s) : ok s = true := by
  unfold upL at h
  simp only [Bool.and_eq_true, decide_eq_true_eq] at h
  have := List.all_eq_true.1 h.2 k (List.mem_range.2 (List.getElem?_eq_some_iff.1 hs).1)
  unfold upAt at this
  rw [hs] at this
  simp only [Bool.and_eq_true] at this
  exact this.1
theorem upL_mem {α : Type} {m : Nat} {ok : α → Bool} {id : α → Int} {l : List α} (h : upL m ok id l = true) {s : α} (hs : s ∈ l) : ok s = true := by
  obtain ⟨k, hk⟩ := List.getElem?_of_mem hs
  exact upL_ok h hk
/-- a loop that goes through a list of records and stops with 'false' at the first that is bad -/
theorem up_loop {α : Type} {ok : α → Bool} {id : α → Int} {l : List α} {R : Type} {no : R} {f : Nat → Unit → (Unit → Option R) → (Unit → Option R) → Option R} {fin : Unit → Option R}
    (step : ∀ k nx s, l[k]? = some s → (ok s = false → f k () nx fin = some no) ∧ (ok s = true → (k = 0 → f k () nx fin = nx ()) ∧ (0 < k → ∀ r, l[k-1]? = some r → (id r < id s → f k () nx fin = nx ()) ∧ (id s ≤ id r → f k () nx fin = some no)))) :
    cntK f l.length 0 () fin = if upTo ok id l l.length then fin () else some no := by
  have key : ∀ m k, k + m = l.length → upTo ok id l k = true → cntK f m k () fin = if upTo ok id l l.length then fin () else some no := by
    intro m
    induction m with
    | zero => intro k hk hu; obtain rfl : k = l.length := by omega
              rw [hu]; rfl
    | succ m ih =>
      intro k hk hu
      have hlt : k < l.length := by omega
      obtain ⟨s, hs, _⟩ := at_lt hlt
      obtain ⟨h1, h2⟩ := step k (fun s' => cntK f m (k + 1) s' fin) s hs
      show f k () _ fin = _
      cases hok : ok s with
      | false => rw [h1 hok, upTo_not (upAt_bad hs hok) hlt]; rfl
      | true =>
        obtain ⟨h3, h4⟩ := h2 hok
        by_cases hk0 : k = 0
        · rw [h3 hk0]
          subst hk0
          exact ih 1 (by omega) (by rw [upTo_succ, hu, upAt_first hs hok]; rfl)
        · obtain ⟨r, hr, _⟩ := at_lt (l := l) (k := k - 1) (by omega)
          obtain ⟨h5, h6⟩ := h4 (by omega) r hr
          by_cases hlt2 : id r < id s
          · rw [h5 hlt2]
            exact ih (k + 1) (by omega) (by rw [upTo_succ, hu, upAt_next hs hr (by omega) hok]; simpa using hlt2)
          · rw [h6 (by omega), upTo_not (by rw [upAt_next hs hr (by omega) hok]; simpa using hlt2) hlt]; rfl
  exact key l.length 0 (by omega) (upTo_zero ok id l)
end Go.Proofs.Ytekacbjnpeglhaa.QLoop

/- Loops that test each place, and loops without a count. No condition. -/
namespace Go.Proofs.Ytekacbjnpeglhaa.QAll
set_option linter.unusedVariables false
set_option linter.unusedSimpArgs false
open Go.RowKit
open Go.Proofs.Ytekacbjnpeglhaa.GoP Go.Proofs.Ytekacbjnpeglhaa.QBase Go.Proofs.Ytekacbjnpeglhaa.QLoop

/-- each number below n is good -/
def allN (n : Nat) (p : Nat → Bool) : Bool := (List.range n).all p
theorem allN_iff {n : Nat} {p : Nat → Bool} : allN n p = true ↔ ∀ i, i < n → p i = true := by unfold allN; simp
theorem allN_no {n k : Nat} {p : Nat → Bool} (hk : k < n) (h : p k = false) : allN n p = false := by
  rw [Bool.eq_false_iff]; intro ha; rw [allN_iff.1 ha k hk] at h; exact absurd h (by simp)
theorem allN_eq {n m : Nat} {p q : Nat → Bool} (h : (∀ i, i < n → p i = true) ↔ (∀ i, i < m → q i = true)) : allN n p = allN m q := by
  rw [Bool.eq_iff_iff, allN_iff, allN_iff]; exact h
theorem all_cnt {ρ : Type} {n : Nat} {p : Nat → Bool} {no : ρ} {f : Nat → Unit → (Unit → Option ρ) → (Unit → Option ρ) → Option ρ} {fin : Unit → Option ρ}
    (step : ∀ k nx, k < n → (p k = false → f k () nx fin = some no) ∧ (p k = true → f k () nx fin = nx ())) : cntK f n 0 () fin = if allN n p = true then fin () else some no := by
  have key : ∀ m k, k + m = n → (∀ i, i < k → p i = true) → cntK f m k () fin = if allN n p = true then fin () else some no := by
    intro m
    induction m with
    | zero => intro k hk hu; obtain rfl : k = n := by omega
              rw [allN_iff.2 hu]; rfl
    | succ m ih =>
      intro k hk hu
      obtain ⟨h1, h2⟩ := step k (fun s' => cntK f m (k + 1) s' fin) (by omega)
      show f k () _ fin = _
      cases hp : p k with
      | false => rw [h1 hp, allN_no (by omega) hp]; rfl
      | true =>
        rw [h2 hp]
        refine ih (k + 1) (by omega) (fun i hi => ?_)
        by_cases he : i = k
        · rw [he]; exact hp
        · exact hu i (by omega)
  exact key n 0 (by omega) (fun i hi => by omega)
theorem lp_ex {σ ρ : Type} {f : σ → (σ → Option ρ) → (σ → Option ρ) → Option ρ} {fin : σ → Option ρ} {Q : ρ → Prop} {n : Nat} (I : Nat → σ → Prop)
    (step : ∀ k s nx, k < n → I k s → (∀ s', I (k + 1) s' → ∃ r, nx s' = some r ∧ Q r) → ∃ r, f s nx fin = some r ∧ Q r) (done : ∀ s nx, I n s → ∃ r, f s nx fin = some r ∧ Q r) :
    ∀ fuel k s, k ≤ n → n - k < fuel → I k s → ∃ r, loopK f fuel s fin = some r ∧ Q r := by
  intro fuel
  induction fuel with
  | zero => intro k s hk hf; omega
  | succ m ih =>
    intro k s hk hf hI
    show ∃ r, f s _ fin = some r ∧ Q r
    by_cases he : k = n
    · subst he; exact done s _ hI
    · exact step k s _ (by omega) hI (fun s' h' => ih (k + 1) s' (by omega) (by omega) h')
theorem all_lp {ρ : Type} {n : Nat} {p : Nat → Bool} {no : ρ} {f : Int → (Int → Option ρ) → (Int → Option ρ) → Option ρ} {fin : Int → Option ρ}
    (step : ∀ (k : Nat) nx, k < n → (p k = false → f (k : Int) nx fin = some no) ∧ (p k = true → f (k : Int) nx fin = nx ((k + 1 : Nat) : Int))) (stop : ∀ nx, f (n : Int) nx fin = fin (n : Int))
    (fuel : Nat) (hf : n < fuel) : loopK f fuel 0 fin = if allN n p = true then fin (n : Int) else some no := by
  have key : ∀ fuel k, k ≤ n → n - k < fuel → (∀ i, i < k → p i = true) → loopK f fuel (k : Int) fin = if allN n p = true then fin (n : Int) else some no := by
    intro fuel
    induction fuel with
    | zero => intro k hk hf; omega
    | succ m ih =>
      intro k hk hf hu
      show f (k : Int) _ fin = _
      by_cases he : k = n
      · subst he; rw [stop, allN_iff.2 hu]; rfl
      · obtain ⟨h1, h2⟩ := step k (fun s' => loopK f m s' fin) (by omega)
        cases hp : p k with
        | false => rw [h1 hp, allN_no (by omega) hp]; rfl
        | true =>
          rw [h2 hp]
          refine ih (k + 1) (by omega) (by omega) (fun i hi => ?_)
          by_cases he : i = k
          · rw [he]; exact hp
          · exact hu i (by omega)
  exact key fuel 0 (by omega) (by omega) (fun i hi => by omega)
theorem next_i {k : Nat} (h : k ≤ 9223372036854775806) : IntKind.i64.wrap ((k : Int) + 1) = ((k + 1 : Nat) : Int) := by rw [wrap_in (by omega) (by omega)]; omega
end Go.Proofs.Ytekacbjnpeglhaa.QAll

/- Chapter 6: tables of kinds: the plain functions of the program and of the reference agree, and the laws answer true. (Q6Hist) No condition but those of each theorem. -/
namespace Go.Proofs.Ytekacbjnpeglhaa.Q6Hist
set_option linter.unusedVariables false
set_option linter.unusedSimpArgs false
open Go.RowKit
open Go.Proofs.Ytekacbjnpeglhaa.GoP Go.Proofs.Ytekacbjnpeglhaa.PlainStamp Go.Proofs.Ytekacbjnpeglhaa.QBase Go.Proofs.Ytekacbjnpeglhaa.QLoop Go.Proofs.Ytekacbjnpeglhaa.QAll

/-- loops that test each place; what stood the test before is known -/
theorem all_cntH {ρ : Type} {n : Nat} {p : Nat → Bool} {no : ρ} {f : Nat → Unit → (Unit → Option ρ) → (Unit → Option ρ) → Option ρ} {fin : Unit → Option ρ}
    (step : ∀ k nx, k < n → (∀ i, i < k → p i = true) → (p k = false → f k () nx fin = some no) ∧ (p k = true → f k () nx fin = nx ())) : cntK f n 0 () fin = if allN n p = true then fin () else some no := by
  have key : ∀ m k, k + m = n → (∀ i, i < k → p i = true) → cntK f m k () fin = if allN n p = true then fin () else some no := by
    intro m
    induction m with
    | zero => intro k hk hu; obtain rfl : k = n := by omega
              rw [allN_iff.2 hu]; rfl
    | succ m ih =>
      intro k hk hu
      obtain ⟨h1, h2⟩ := step k (fun s' => cntK f m (k + 1) s' fin) (by omega) hu
      show f k () _ fin = _
      cases hp : p k with
      | false => rw [h1 hp, allN_no (by omega) hp]; rfl
      | true =>
        rw [h2 hp]
        refine ih (k + 1) (by omega) (fun i hi => ?_)
        by_cases he : i = k
        · rw [he]; exact hp
        · exact hu i (by omega)
  exact key n 0 (by omega) (fun i hi => by omega)
theorem all_lpH {ρ : Type} {n : Nat} {p : Nat → Bool} {no : ρ} {f : Int → (Int → Option ρ) → (Int → Option ρ) → Option ρ} {fin : Int → Option ρ}
    (step : ∀ (k : Nat) nx, k < n → (∀ i, i < k → p i = true) → (p k = false → f (k : Int) nx fin = some no) ∧ (p k = true → f (k : Int) nx fin = nx ((k + 1 : Nat) : Int))) (stop : ∀ nx, f (n : Int) nx fin = fin (n : Int))
    (fuel : Nat) (hf : n < fuel) : loopK f fuel 0 fin = if allN n p = true then fin (n : Int) else some no := by
  have key : ∀ fuel k, k ≤ n → n - k < fuel → (∀ i, i < k → p i = true) → loopK f fuel (k : Int) fin = if allN n p = true then fin (n : Int) else some no := by
    intro fuel
    induction fuel with
    | zero => intro k hk hf; omega
    | succ m ih =>
      intro k hk hf hu
      show f (k : Int) _ fin = _
      by_cases he : k = n
      · subst he; rw [stop, allN_iff.2 hu]; rfl
      · obtain ⟨h1, h2⟩ := step k (fun s' => loopK f m s' fin) (by omega) hu
        cases hp : p k with
        | false => rw [h1 hp, allN_no (by omega) hp]; rfl
        | true =>
          rw [h2 hp]
          refine ih (k + 1) (by omega) (by omega) (fun i hi => ?_)
          by_cases he : i = k
          · rw [he]; exact hp
          · exact hu i (by omega)
  exact key fuel 0 (by omega) (by omega) (fun i hi => by omega)
end Go.Proofs.Ytekacbjnpeglhaa.Q6Hist

/- Chapter 6: tables of kinds: the plain functions of the program and of the reference agree, and the laws answer true. (Q6Ban) No condition but those of each theorem. -/
namespace Go.Proofs.Ytekacbjnpeglhaa.Q6Ban
set_option linter.unusedVariables false
set_option linter.unusedSimpArgs false
open Go.RowKit
open Go.Proofs.Ytekacbjnpeglhaa.GoP Go.Proofs.Ytekacbjnpeglhaa.PlainStamp Go.Proofs.Ytekacbjnpeglhaa.QBase Go.Proofs.Ytekacbjnpeglhaa.Q6Hist Go.Proofs.Ytekacbjnpeglhaa.QLoop Go.Proofs.Ytekacbjnpeglhaa.QAll Go.Proofs.Ytekacbjnpeglhaa.PBan

def okS (s : List Int) : Bool := allN s.length fun i => match s[i]? with | some z => inB z 1 5 | none => true
theorem okS_at {s : List Int} (h : okS s = true) {i : Nat} {z : Int} (hz : s[i]? = some z) : 1 ≤ z ∧ z ≤ 5 := by
  have := allN_iff.1 h i (List.getElem?_eq_some_iff.1 hz).1
  simp only [hz] at this
  exact inB_of this
def hasV (s : List Int) (a v : Int) : Bool := inB a 0 (s.length - 1) && (match s[a.toNat]? with | some z => inB v 0 (z - 1) | none => false)
theorem hasV_of {s : List Int} {a v : Int} (h : hasV s a v = true) : ∃ (k : Nat) (z : Int), a = (k : Int) ∧ k < s.length ∧ s[k]? = some z ∧ 0 ≤ v ∧ v < z := by
  unfold hasV at h
  simp only [Bool.and_eq_true] at h
  have h1 := inB_of h.1
  obtain ⟨k, rfl⟩ : ∃ k : Nat, a = (k : Int) := ⟨a.toNat, by omega⟩
  obtain ⟨z, hz, _⟩ := at_lt (l := s) (k := k) (by omega)
  have h2 := h.2
  rw [Int.toNat_natCast, hz] at h2
  have := inB_of h2
  exact ⟨k, z, rfl, by omega, hz, by omega, by omega⟩
theorem hasValue_eq (s : List Int) (hs : okS s = true) (hl : s.length ≤ 9223372036854775807) (a v : Int) : GiHasValue.P s a v = some (hasV s a v) := by
  simp only [GiHasValue.P, within_eq, Option.bind_some, letK, joinK, appK, iteK_if]
  rw [wrap_in (by omega) (by omega)]
  unfold hasV
  cases h : inB a 0 (s.length - 1) with
  | false => simp
  | true =>
    have h1 := inB_of h
    obtain ⟨k, rfl⟩ : ∃ k : Nat, a = (k : Int) := ⟨a.toNat, by omega⟩
    obtain ⟨z, hz, hi⟩ := at_lt (l := s) (k := k) (by omega)
    have hz2 := okS_at hs hz
    simp only [hi, Option.bind_some, Int.toNat_natCast, hz, if_true, Bool.true_and]
    rw [wrap_in (by omega) (by omega)]
def okB (s : List Int) (b : Ban) : Bool := decide (b.a < b.b) && hasV s b.a b.x && hasV s b.b b.y
theorem isBan_eq (s : List Int) (hs : okS s = true) (hl : s.length ≤ 9223372036854775807) (b : Ban) : GiIsBan.P s b = some (okB s b) := by
  obtain ⟨a, x, c, y⟩ := b
  simp only [GiIsBan.P, unBan, hasValue_eq s hs hl, Option.bind_some, letK, joinK, appK, iteK_if, okB]
  by_cases h : a < c <;> cases hasV s a x <;> cases hasV s c y <;> simp [h]
theorem l6Ban_eq (s : List Int) (hs : okS s = true) (hl : s.length ≤ 9223372036854775807) (b : Ban) : GsL6Ban.P s b = some (okB s b) := by
  obtain ⟨a, x, c, y⟩ := b
  simp only [GsL6Ban.P, unBan, l1In_eq, Option.bind_some, letK, joinK, appK, iteK_if, okB, hasV]
  by_cases h1 : 0 ≤ a
  · by_cases h2 : a < c
    · by_cases h3 : c < (s.length : Int)
      · obtain ⟨i, rfl⟩ : ∃ k : Nat, a = (k : Int) := ⟨a.toNat, by omega⟩
        obtain ⟨j, rfl⟩ : ∃ k : Nat, c = (k : Int) := ⟨c.toNat, by omega⟩
        obtain ⟨z, hz, hi⟩ := at_lt (l := s) (k := i) (by omega)
        obtain ⟨u, hu, hj⟩ := at_lt (l := s) (k := j) (by omega)
        have hz2 := okS_at hs hz
        have hu2 := okS_at hs hu
        have e1 : inB (i : Int) 0 (s.length - 1) = true := by unfold inB; simp; omega
        have e2 : inB (j : Int) 0 (s.length - 1) = true := by unfold inB; simp; omega
        simp only [h1, h2, h3, decide_true, if_true, hi, hj, Option.bind_some, Int.toNat_natCast, hz, hu, e1, e2, Bool.true_and]
        rw [wrap_in (x := z - 1) (by omega) (by omega), wrap_in (x := u - 1) (by omega) (by omega)]
        cases inB x 0 (z - 1) <;> simp
      · have e2 : inB c 0 (s.length - 1) = false := by unfold inB; simp; omega
        simp [h1, h2, h3, e2]
    · simp [h1, h2]
  · have e1 : inB a 0 (s.length - 1) = false := by unfold inB; simp; omega
    simp [h1, e1]
def code (b : Ban) : Int := 1000 * b.a + 100 * b.x + 10 * b.b + b.y
theorem okB_in {s : List Int} (hs : okS s = true) (hl : s.length ≤ 5) {b : Ban} (h : okB s b = true) : 0 ≤ b.a ∧ b.a < b.b ∧ b.b ≤ 4 ∧ b.b < s.length ∧ 0 ≤ b.x ∧ b.x ≤ 4 ∧ 0 ≤ b.y ∧ b.y ≤ 4 := by
  unfold okB at h
  simp only [Bool.and_eq_true, decide_eq_true_eq] at h
  obtain ⟨k, z, e1, k1, hz, v1, v2⟩ := hasV_of h.1.2
  obtain ⟨j, u, e2, k2, hu, v3, v4⟩ := hasV_of h.2
  have := okS_at hs hz
  have := okS_at hs hu
  omega
theorem l6Code_eq {s : List Int} (hs : okS s = true) (hl : s.length ≤ 5) {b : Ban} (h : okB s b = true) : GsL6Code.P b = some (code b) := by
  have := okB_in hs hl h
  obtain ⟨a, x, c, y⟩ := b
  dsimp only at this
  simp only [GsL6Code.P, unBan, letK, code]
  rw [wrap_in (x := 1000 * a) (by omega) (by omega), wrap_in (x := 100 * x) (by omega) (by omega), wrap_in (x := 1000 * a + 100 * x) (by omega) (by omega), wrap_in (x := 10 * c) (by omega) (by omega), wrap_in (x := 1000 * a + 100 * x + 10 * c) (by omega) (by omega), wrap_in (by omega) (by omega)]
def cmpI (x y : Int) : Int := if x < y then -1 else if y < x then 1 else 0
theorem cmp_eq (x y : Int) : GxCmpCompareInt.P x y = some (cmpI x y) := by
  simp only [GxCmpCompareInt.P, GxCmpIsNaNInt.P, Option.bind_some, letK, iteK_if, cmpI]
  by_cases h1 : x < y
  · simp [h1]
  · by_cases h2 : y < x <;> simp [h1, h2]
theorem or_eq (a b c d : Int) : GxCmpOrInt.P [a, b, c, d] = some (if a != 0 then a else if b != 0 then b else if c != 0 then c else d) := by
  have st : ∀ m k fin, cntK (GxCmpOrInt.l0 [a, b, c, d]) (m + 1) k () fin = GxCmpOrInt.l0 [a, b, c, d] k () (fun s' => cntK (GxCmpOrInt.l0 [a, b, c, d]) m (k + 1) s' fin) fin := fun _ _ _ => rfl
  show cntK (GxCmpOrInt.l0 [a, b, c, d]) (3 + 1) 0 () (GxCmpOrInt.e0) = _
  rw [st]
  simp only [GxCmpOrInt.l0, show idx [a, b, c, d] ((0 : Nat) : Int) = some a from rfl, Option.bind_some, letK, appK, iteK_if]
  by_cases ha : (a != 0) = true
  · rw [if_pos ha, if_pos ha]
  · rw [if_neg ha, if_neg ha]
    show cntK (GxCmpOrInt.l0 [a, b, c, d]) (2 + 1) 1 () (GxCmpOrInt.e0) = _
    rw [st]
    simp only [GxCmpOrInt.l0, show idx [a, b, c, d] ((1 : Nat) : Int) = some b from rfl, Option.bind_some, letK, appK, iteK_if]
    by_cases hb : (b != 0) = true
    · rw [if_pos hb, if_pos hb]
    · rw [if_neg hb, if_neg hb]
      show cntK (GxCmpOrInt.l0 [a, b, c, d]) (1 + 1) 2 () (GxCmpOrInt.e0) = _
      rw [st]
      simp only [GxCmpOrInt.l0, show idx [a, b, c, d] ((2 : Nat) : Int) = some c from rfl, Option.bind_some, letK, appK, iteK_if]
      by_cases hc : (c != 0) = true
      · rw [if_pos hc, if_pos hc]
      · rw [if_neg hc, if_neg hc]
        show cntK (GxCmpOrInt.l0 [a, b, c, d]) (0 + 1) 3 () (GxCmpOrInt.e0) = _
        rw [st]
        simp only [GxCmpOrInt.l0, show idx [a, b, c, d] ((3 : Nat) : Int) = some d from rfl, Option.bind_some, letK, appK, iteK_if]
        by_cases hd : (d != 0) = true
        · rw [if_pos hd]
        · rw [if_neg hd]
          have : d = 0 := by simpa using hd
          rw [this]; rfl
theorem compare_eq {s : List Int} (hs : okS s = true) (hl : s.length ≤ 5) {r b : Ban} (hr : okB s r = true) (hb : okB s b = true) : ∃ c, GiCompareBans.P r b = some c ∧ (0 ≤ c ↔ code b ≤ code r) ∧ (c < 0 ↔ code r < code b) ∧ (c = 0 ↔ code r = code b) := by
  have h1 := okB_in hs hl hr
  have h2 := okB_in hs hl hb
  obtain ⟨a, x, c, y⟩ := r
  obtain ⟨a', x', c', y'⟩ := b
  dsimp only at h1 h2
  simp only [GiCompareBans.P, unBan, cmp_eq, Option.bind_some, letK, or_eq]
  refine ⟨_, rfl, ?_⟩
  unfold cmpI code
  dsimp only
  by_cases p1 : a < a'
  · simp [p1]; omega
  · by_cases p2 : a' < a
    · simp [p1, p2]; omega
    · obtain rfl : a = a' := by omega
      by_cases p3 : x < x'
      · simp [p3]; omega
      · by_cases p4 : x' < x
        · simp [p3, p4]; omega
        · obtain rfl : x = x' := by omega
          by_cases p5 : c < c'
          · simp [p5]; omega
          · by_cases p6 : c' < c
            · simp [p5, p6]; omega
            · obtain rfl : c = c' := by omega
              by_cases p7 : y < y'
              · simp [p7]; omega
              · by_cases p8 : y' < y
                · simp [p7, p8]; omega
                · simp [p7, p8]; omega
end Go.Proofs.Ytekacbjnpeglhaa.Q6Ban

/- Chapter 6: tables of kinds: the plain functions of the program and of the reference agree, and the laws answer true. (Q6Tab) No condition but those of each theorem. -/
namespace Go.Proofs.Ytekacbjnpeglhaa.Q6Tab
set_option linter.unusedVariables false
set_option linter.unusedSimpArgs false
open Go.RowKit
open Go.Proofs.Ytekacbjnpeglhaa.GoP Go.Proofs.Ytekacbjnpeglhaa.PlainStamp Go.Proofs.Ytekacbjnpeglhaa.QBase Go.Proofs.Ytekacbjnpeglhaa.Q6Ban Go.Proofs.Ytekacbjnpeglhaa.Q6Hist Go.Proofs.Ytekacbjnpeglhaa.QLoop Go.Proofs.Ytekacbjnpeglhaa.QAll Go.Proofs.Ytekacbjnpeglhaa.PBan

def upB (s : List Int) (l : List Ban) (k : Nat) : Bool := upAt (okB s) code l k
def okT (s : List Int) (l : List Ban) : Bool := inB s.length 1 5 && decide (l.length ≤ 20) && okS s && allN l.length (upB s l)
theorem okT_of {s : List Int} {l : List Ban} (h : okT s l = true) : 1 ≤ s.length ∧ s.length ≤ 5 ∧ l.length ≤ 20 ∧ okS s = true ∧ ∀ b ∈ l, okB s b = true := by
  unfold okT at h
  simp only [Bool.and_eq_true, decide_eq_true_eq] at h
  have h1 := inB_of h.1.1.1
  refine ⟨by omega, by omega, h.1.1.2, h.1.2, fun b hb => ?_⟩
  obtain ⟨k, hk⟩ := List.getElem?_of_mem hb
  have := allN_iff.1 h.2 k (List.getElem?_eq_some_iff.1 hk).1
  unfold upB upAt at this
  rw [hk] at this
  simp only [Bool.and_eq_true] at this
  exact this.1
theorem hist_ok {s : List Int} {l : List Ban} {k : Nat} (hu : ∀ i, i < k → upB s l i = true) (hk : 0 < k) {r : Ban} (hr : l[k - 1]? = some r) : okB s r = true := by
  have := hu (k - 1) (by omega)
  unfold upB upAt at this
  rw [hr] at this
  simp only [Bool.and_eq_true] at this
  exact this.1
theorem isTable_eq (s : List Int) (l : List Ban) (hs : s.length ≤ 9223372036854775807) (hl : l.length ≤ 9223372036854775807) : GiIsKindTable.P s l = some (okT s l) := by
  simp only [GiIsKindTable.P, within_eq, Option.bind_some, letK, joinK, appK, iteK_if, okT]
  cases h1 : inB s.length 1 5 with
  | false => simp
  | true =>
    have hs5 := inB_of h1
    by_cases h2 : l.length ≤ 20
    · simp only [Bool.not_true, Bool.false_eq_true, if_false, show ¬ (20 < (l.length : Int)) by omega, decide_false, h2, decide_true, Bool.true_and]
      rw [all_cnt (p := fun i => match s[i]? with | some z => inB z 1 5 | none => true) (no := false)]
      · show (if okS s = true then _ else _) = _
        cases h3 : okS s with
        | false => simp
        | true =>
          simp only [if_true, Bool.true_and, GiIsKindTable.e0]
          rw [all_cntH (p := upB s l) (no := false)]
          · cases allN l.length (upB s l) <;> simp [GiIsKindTable.e1]
          · intro k nx hk hu
            obtain ⟨b, hb, hi⟩ := at_lt (l := l) (k := k) hk
            simp only [GiIsKindTable.l1, hi, Option.bind_some, unBan, isBan_eq s h3 (by omega), letK, joinK, appK, iteK_if]
            cases hok : okB s b with
            | false => exact ⟨fun _ => by simp, fun h => by rw [show upB s l k = false from upAt_bad hb hok] at h; exact absurd h (by simp)⟩
            | true =>
              by_cases hk0 : k = 0
              · subst hk0
                rw [show upB s l 0 = true from upAt_first hb hok]
                exact ⟨fun h => absurd h (by simp), fun _ => by simp⟩
              · obtain ⟨r, hr, _⟩ := at_lt (l := l) (k := k - 1) (by omega)
                have hrk := hist_ok hu (by omega) hr
                obtain ⟨c, hc, c1, c2, c3⟩ := compare_eq h3 (by omega) hrk hok
                rw [show upB s l k = decide (code r < code b) from upAt_next hb hr (by omega) hok]
                have hk1 : (0 : Int) < (k : Int) := by omega
                simp only [hk1, decide_true, if_true, Bool.not_true, Bool.false_eq_true, if_false]
                rw [idx_pred (by omega) (by omega) hr]
                simp only [Option.bind_some, hc]
                by_cases hlt : code r < code b
                · simp [hlt, show ¬ 0 ≤ c by omega]
                · simp [hlt, show 0 ≤ c by omega]
      · intro k nx hk
        obtain ⟨z, hz, hi⟩ := at_lt (l := s) (k := k) hk
        simp only [GiIsKindTable.l0, hi, Option.bind_some, within_eq, letK, appK, iteK_if, hz]
        exact ⟨fun h => by simp [h], fun h => by simp [h]⟩
    · simp [h2, show (20 < (l.length : Int)) by omega]
theorem l6Good_eq (fuel : Nat) (hf : 21 ≤ fuel) (s : List Int) (l : List Ban) (hs : s.length ≤ 9223372036854775807) (hl : l.length ≤ 9223372036854775807) : GsL6Good.P fuel s l = some (okT s l) := by
  simp only [GsL6Good.P, l1In_eq, Option.bind_some, letK, joinK, appK, iteK_if, okT]
  cases h1 : inB s.length 1 5 with
  | false => simp
  | true =>
    have hs5 := inB_of h1
    by_cases h2 : l.length ≤ 20
    · simp only [Bool.not_true, Bool.false_eq_true, if_false, show ¬ (20 < (l.length : Int)) by omega, decide_false, h2, decide_true, Bool.true_and]
      rw [all_lp (n := s.length) (p := fun i => match s[i]? with | some z => inB z 1 5 | none => true) (no := false)]
      · show (if okS s = true then _ else _) = _
        cases h3 : okS s with
        | false => simp
        | true =>
          simp only [if_true, Bool.true_and, GsL6Good.e0, letK]
          rw [all_lpH (n := l.length) (p := upB s l) (no := false)]
          · cases allN l.length (upB s l) <;> simp [GsL6Good.e1, letK]
          · intro k nx hk hu
            obtain ⟨b, hb, hi⟩ := at_lt (l := l) (k := k) hk
            have hlt0 : (k : Int) < (l.length : Int) := by omega
            simp only [GsL6Good.l1, letK, hlt0, decide_true, hi, Option.bind_some, unBan, l6Ban_eq s h3 (by omega), joinK, appK, iteK_if, if_true]
            rw [next_i (by omega)]
            cases hok : okB s b with
            | false => exact ⟨fun _ => by simp, fun h => by rw [show upB s l k = false from upAt_bad hb hok] at h; exact absurd h (by simp)⟩
            | true =>
              by_cases hk0 : k = 0
              · subst hk0
                rw [show upB s l 0 = true from upAt_first hb hok]
                exact ⟨fun h => absurd h (by simp), fun _ => by simp⟩
              · obtain ⟨r, hr, _⟩ := at_lt (l := l) (k := k - 1) (by omega)
                have hrk := hist_ok hu (by omega) hr
                have e1 := l6Code_eq h3 (by omega) hrk
                have e2 := l6Code_eq h3 (by omega) hok
                rw [show upB s l k = decide (code r < code b) from upAt_next hb hr (by omega) hok]
                have hk1 : (0 : Int) < (k : Int) := by omega
                simp only [hk1, decide_true, if_true, Bool.not_true, Bool.false_eq_true, if_false]
                rw [idx_pred (by omega) (by omega) hr]
                simp only [Option.bind_some, e1, e2]
                by_cases hlt : code r < code b
                · simp [hlt, show ¬ code b ≤ code r by omega]
                · simp [hlt, show code b ≤ code r by omega]
          · intro nx
            simp [GsL6Good.l1, letK, appK, iteK_if]
          · omega
      · intro k nx hk
        obtain ⟨z, hz, hi⟩ := at_lt (l := s) (k := k) hk
        have hlt0 : (k : Int) < (s.length : Int) := by omega
        simp only [GsL6Good.l0, letK, hlt0, decide_true, hi, Option.bind_some, l1In_eq, appK, iteK_if, hz, if_true]
        rw [next_i (by omega)]
        exact ⟨fun h => by simp [h], fun h => by simp [h]⟩
      · intro nx
        simp [GsL6Good.l0, letK, appK, iteK_if]
      · omega
    · simp [h2, show (20 < (l.length : Int)) by omega]
end Go.Proofs.Ytekacbjnpeglhaa.Q6Tab

