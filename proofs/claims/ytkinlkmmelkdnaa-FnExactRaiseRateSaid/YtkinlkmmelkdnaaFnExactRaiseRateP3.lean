/- The texts on which the proof of FnExactRaiseRate stands, one behind the other (3 of 5). No condition of their own. -/
import Derived.Lib.SliceRun
import Derived.Test.YtkinlkmmelkdnaaFnExactRaiseRateP1
import Derived.Test.YtkinlkmmelkdnaaChecked
import Derived.WalkKit
import Derived.WalkSpells
import Derived.WalkLawsBesides
import Derived.BigQuiet
import Derived.OwnWalk
import Derived.Deep.LoopGhost
import Derived.Deep.QuietTactic
import Derived.IntWalk
import Derived.Lib.QuietBelow
import Derived.Lib.Hide
import Derived.Lib.LaidU8
import Derived.Outline
import Derived.Laws.StructEq
import Derived.ChangeKeysEq
import Derived.Deep.RegionHeld3
import Derived.Lib.AppendZerosOnto
/- More words for the contracts of plain functions: a test against nil, a row that is handed over, a row whose end is cleared. No condition. -/
namespace Go.Proofs.Ytkinlkmmelkdnaa.GoK
set_option linter.unusedVariables false
open Go.RowKit
open Go.Proofs.Ytkinlkmmelkdnaa.Rowed Go.Proofs.Ytkinlkmmelkdnaa.Turn Go.Proofs.Ytkinlkmmelkdnaa.GoM

/-- a test of a row against nil: only an empty row can be nil, and then both ways have one answer -/
def nilK {α ρ : Type} (l : List α) (f : Bool → Option ρ) : Option ρ := f false
theorem nilK_hid {α ρ : Type} {l : List α} {f : Bool → Option ρ} {r : ρ} (H : Hid (nilK l f = some r)) (b : Bool) (hb : b = true → l = []) (he : l = [] → f true = f false) : Hid (f b = some r) := by
  have h : f false = some r := H
  cases b with
  | false => exact h
  | true => exact (he (hb rfl)).trans h
theorem nil_cells {w : World} {K n : Nat} {A : Option Addr} {α : Type} {l : List α} {cs : List Value} (h : Cells w K A n cs) (hl : cs = [] → l = []) : A.isNone = true → l = [] := by
  intro hA
  refine hl ?_
  cases hc : cs with
  | nil => rfl
  | cons y ys => obtain ⟨a, e, _⟩ := h.2 (by rw [hc]; simp); rw [e] at hA; simp at hA
/-- where a row lies that a function hands on: where another one lay, or behind all that was there -/
def From (w : World) (A A' : Option Addr) : Prop := ∀ a', A' = some a' → (∃ a, A = some a ∧ a.block = a'.block) ∨ w.heap.size ≤ a'.block
theorem from_self {w : World} {A : Option Addr} : From w A A := fun a h => .inl ⟨a, h, rfl⟩
theorem from_new {w : World} {A : Option Addr} {g : Nat} (h : w.heap.size ≤ g) : From w A (some ⟨g, 0, none⟩) := by
  intro a' e
  injection e with e
  subst e
  exact .inr h
theorem apart_from {w : World} {A A' B : Option Addr} (hD : Apart A B) (hB : ∀ a, B = some a → a.block < w.heap.size) (h : From w A A') : Apart A' B := by
  intro a a' ha ha' e
  have hl := hB a' ha'
  rcases h a ha with ⟨a2, h2, e2⟩ | h2
  · exact hD a2 a' h2 ha' (e2.trans e)
  · omega
theorem own_emptyB {b : Nat} {wc : World} {T K : Nat} (h : b ≤ wc.heap.size) : (wc.alloc (.cells #[] T)).ownsRow b T K (.slice (some ⟨wc.heap.size, 0, none⟩) 0 0) 0 [] :=
  ⟨by simp, .inr ⟨wc.heap.size, 0, #[], rfl, h, heap_alloc_new wc _, Nat.le_refl _, by unfold maxLen; omega, by simp, by simp⟩⟩
theorem own_setCells {b T K n c g : Nat} : ∀ (vs : List Value) (o : Nat) {w : World} {xs : List Value}, w.ownsRow b T K (.slice (some ⟨g, 0, none⟩) n c) n xs → o + vs.length ≤ xs.length →
    (w.setCells g o vs).ownsRow b T K (.slice (some ⟨g, 0, none⟩) n c) n (xs.take o ++ vs ++ xs.drop (o + vs.length)) ∧ w.grownBy (w.setCells g o vs) (some g) := by
  intro vs
  induction vs with
  | nil => intro o w xs h _; exact ⟨by simpa [World.setCells] using h, Aid.grown_refl _ _⟩
  | cons v vs ih =>
    intro o w xs h hl
    simp only [List.length_cons] at hl
    have h1 := h.stored o v
    have h2 := ih (o + 1) h1.1 (by rw [List.length_set]; omega)
    refine ⟨?_, Aid.grown_tr h1.2 h2.2⟩
    have e : (xs.set o v).take (o + 1) ++ vs ++ (xs.set o v).drop (o + 1 + vs.length) = xs.take o ++ (v :: vs) ++ xs.drop (o + (v :: vs).length) := by
      have ho : o < xs.length := by omega
      rw [List.drop_set_of_lt (by omega), List.take_add_one, List.getElem?_set_self ho, List.take_set_of_le (Nat.le_refl _)]
      simp [Nat.add_comm, Nat.add_left_comm]
    rw [← e]
    exact h2.1
/-- clear(s[lo:]) of a row of its own -/
theorem own_clear {P : Program} {t e : TypeId} {i : TypeInfo} {k : IntKind} {n c b : Nat} {A : Option Addr} {lo : Int} {w : World} {xs ys : List Value} {z : Value}
    (ht : P.underlying t = some (.slice (P.elem t))) (he : P.elem t = e) (hi : P.info? e = some i) (hs : i.size = 1) (hv : i.zero = some z) (hz : z.cells = #[z]) (h1 : z.oneCell' = true)
    (h : w.ownsRow b e 1 (.slice A n c) n xs) (hl : 0 ≤ lo ∧ lo ≤ (n : Int)) (hd : xs.take lo.toNat ++ List.replicate (n - lo.toNat) z = ys) :
    ∃ A' m c' w', (∀ W, (Instr.slice t (.slice A n c) (some (.int k lo)) none none).run P W = .ok (.slice A' m c') W) ∧ (∀ ty, (Builtin.clear_ #[t] ty #[.slice A' m c']).run P w = .ok (.tuple #[]) w') ∧
      w'.ownsRow b e 1 (.slice A n c) n ys ∧ w.grownBy w' (Value.slice A n c).ownBlock := by
  have hR := own_room h
  have hxs : xs.length = n := by have := h.1; omega
  have hsz : ∀ W, (sizeOf (P.elem t)).run P W = .ok 1 W := by intro W; subst he; simp [sizeOf, typeInfo, hi, hs]
  have hrun : ∀ W, (Instr.slice t (.slice A n c) (some (.int k lo)) none none).run P W = .ok (.slice (if c = lo.toNat then A else A.map (·.add (lo.toNat * 1))) (n - lo.toNat) (c - lo.toNat)) W := by
    intro W
    rw [run_slice_l (P := P) W t A n c ht k lo hl.1 hl.2, hsz W]
    rfl
  by_cases hm : n - lo.toNat = 0
  · refine ⟨_, _, _, w, hrun, ?_, ?_, Aid.grown_refl _ _⟩
    · intro ty
      rw [hm]
      generalize (if c = lo.toNat then A else A.map (·.add (lo.toNat * 1))) = A'
      cases A' <;> simp [Builtin.clear_, run_underlying ht]
    · rw [← hd, hm, List.replicate_zero, List.append_nil, List.take_of_length_le (by omega)]
      exact h
  · obtain ⟨g, rfl⟩ := own_some h (by omega)
    have hne : ¬ c = lo.toNat := by have := hR.1; omega
    have hcl := own_cells h
    have hget : ∀ j, j < n → (w.cell? ⟨g, j, none⟩).isSome = true := by
      intro j hj
      obtain ⟨ad, e0, hc⟩ := hcl.2 (by omega)
      obtain rfl := Option.some.inj e0
      have := hc j xs[j] (List.getElem?_eq_getElem (by omega))
      rw [add_flat, Nat.zero_add] at this
      rw [this]; rfl
    have hadd : (if c = lo.toNat then (some ⟨g, 0, none⟩ : Option Addr) else (some ⟨g, 0, none⟩ : Option Addr).map (·.add (lo.toNat * 1))) = some ⟨g, lo.toNat, none⟩ := by
      rw [if_neg hne, Option.map_some, add_flat, Nat.zero_add, Nat.mul_one]
    rw [hadd] at hrun
    have h2 := own_setCells (List.replicate (n - lo.toNat) z) lo.toNat h (by rw [List.length_replicate]; omega)
    refine ⟨_, _, _, _, hrun, fun ty => ?_, ?_, h2.2⟩
    · refine Lib.run_clear_slice w t e ty z (he ▸ ht) (fun w => by simp [zeroValue, typeInfo, hi, hv]) hz h1 g lo.toNat (n - lo.toNat) (c - lo.toNat) (by omega) (fun j hj => hget _ (by omega)) (fun j hj => h.frozenAt _)
    · have e2 : xs.take lo.toNat ++ List.replicate (n - lo.toNat) z ++ xs.drop (lo.toNat + (List.replicate (n - lo.toNat) z).length) = ys := by
        rw [List.length_replicate, List.drop_of_length_le (by omega), List.append_nil, hd]
      rw [← e2]
      exact h2.1
theorem apart_xio {n bb oo : Nat} {B : Option Addr} (h : 0 < n → Apart (some ⟨bb, oo, none⟩) B) (h0 : 0 < n) : Apart B (some ⟨bb, 0, none⟩) := by
  intro a a' ha ha' e
  injection ha' with ha'
  subst ha'
  exact h h0 ⟨bb, oo, none⟩ a rfl ha e.symm
/-- a row that came in, where another one was written -/
theorem cells_wr {w w' : World} {K n q c' : Nat} {A B : Option Addr} {xs : List Value} (h : Cells w K A n xs) (hg : w.grownBy w' (Value.slice B q c').ownBlock) (hX : 0 < n → Apart A B) : Cells w' K A n xs := by
  refine ⟨h.1, fun h0 => ?_⟩
  obtain ⟨a, e, hc⟩ := h.2 h0
  have hn : 0 < n := by
    rcases Nat.eq_zero_or_pos n with h1 | h1
    · have := h.1; rw [h1, Nat.zero_mul] at this; omega
    · exact h1
  refine ⟨a, e, fun j u hu => ?_⟩
  have hj := hc j u hu
  have hb : (a.add j).block = a.block := by unfold Addr.add; split <;> rfl
  rw [World.cell?_of_block (hg.block (a.add j).block (cell_lt hj) ?_)]
  · exact hj
  · cases hB : B with
    | none => simp [Value.ownBlock]
    | some y =>
      simp only [Value.ownBlock, ne_eq, Option.some.injEq]
      intro e2
      exact hX hn a y e hB (by rw [← hb]; exact e2)
/-- what came in lies apart from a row of one's own -/
theorem far_base {w w1 : World} {K n T K' m c n' : Nat} {A B : Option Addr} {cs xs : List Value} (hK : 0 < K) (h : Cells w K A n cs) (hO : w1.ownsRow w.heap.size T K' (.slice B m c) n' xs) : 0 < n → Apart A B := by
  intro hn a a' ha ha' e
  have h0 : 0 < cs.length := by rw [h.1]; exact Nat.mul_pos hn hK
  obtain ⟨a2, e2, hc⟩ := h.2 h0
  obtain rfl : a = a2 := by rw [ha] at e2; exact Option.some.inj e2
  have hl := cell_lt (hc 0 _ (List.getElem?_eq_getElem h0))
  have hb : (a.add 0).block = a.block := by unfold Addr.add; simp
  have := (own_lt hO a' ha').1
  rw [hb] at hl
  omega
end Go.Proofs.Ytkinlkmmelkdnaa.GoK

/- Rows of rows: a row of slices, each of which is a row of its own, all apart from each other. No condition. -/
namespace Go.Proofs.Ytkinlkmmelkdnaa.GoN
set_option linter.unusedVariables false
open Go.RowKit
open Go.Proofs.Ytkinlkmmelkdnaa.Rowed Go.Proofs.Ytkinlkmmelkdnaa.Turn Go.Proofs.Ytkinlkmmelkdnaa.GoM Go.Proofs.Ytkinlkmmelkdnaa.GoK

/-- the cells of a row of slices whose headers are hs -/
def heads {F : Type} (l : List (List F)) (hs : List (Option Addr × Nat)) : List Value := (l.zip hs).map fun p => Value.slice p.2.1 p.1.length p.2.2
/-- l, laid as rows of its own; B: where they lie -/
def OwnNest {F : Type} (w : World) (b T rT rK : Nat) (f : List F → List Value) (A : Option Addr) (c : Nat) (l : List (List F)) (B : List (Option Addr)) : Prop :=
  ∃ hs : List (Option Addr × Nat), hs.length = l.length ∧ w.ownsRow b T 1 (.slice A l.length c) l.length (heads l hs) ∧
    (∀ (i : Nat) x h, l[i]? = some x → hs[i]? = some h → w.ownsRow b rT rK (.slice h.1 x.length h.2) x.length (f x)) ∧ B = A :: hs.map (·.1) ∧ B.Pairwise Apart
/-- l reads as rows -/
def ReadNest {F : Type} (w : World) (rK : Nat) (f : List F → List Value) (A : Option Addr) (l : List (List F)) : Prop :=
  ∃ hs : List (Option Addr × Nat), hs.length = l.length ∧ Cells w 1 A l.length (heads l hs) ∧
    ∀ (i : Nat) x h, l[i]? = some x → hs[i]? = some h → Cells w rK h.1 x.length (f x) ∧ Room h.1 x.length h.2 ∧ x.length ≤ 9223372036854775807

section
variable {F : Type} {w w' : World} {b T rT rK c : Nat} {f : List F → List Value} {A : Option Addr} {l : List (List F)} {B : List (Option Addr)}

theorem nest_below (h : OwnNest w b T rT rK f A c l B) (hb : Below w.heap.size w w') : OwnNest w' b T rT rK f A c l B := by
  obtain ⟨hs, h1, h2, h3, h4, h5⟩ := h
  exact ⟨hs, h1, own_below h2 hb, fun i x h hx hh => own_below (h3 i x h hx hh) hb, h4, h5⟩
/-- another row is written -/
theorem nest_other {n' c' : Nat} {A' : Option Addr} (h : OwnNest w b T rT rK f A c l B) (hg : w.grownBy w' (Value.slice A' n' c').ownBlock) (hD : ∀ x ∈ B, Apart A' x) : OwnNest w' b T rT rK f A c l B := by
  obtain ⟨hs, h1, h2, h3, h4, h5⟩ := h
  subst h4
  refine ⟨hs, h1, own_other h2 hg (hD _ (by simp)), fun i x h hx hh => own_other (h3 i x h hx hh) hg (hD _ ?_), rfl, h5⟩
  exact List.mem_cons_of_mem _ (List.mem_map.2 ⟨h, List.mem_of_getElem? hh, rfl⟩)
theorem nest_lt (h : OwnNest w b T rT rK f A c l B) : ∀ x ∈ B, ∀ a, x = some a → b ≤ a.block ∧ a.block < w.heap.size := by
  obtain ⟨hs, h1, h2, h3, rfl, h5⟩ := h
  intro x hx a ha
  rcases List.mem_cons.1 hx with rfl | hx
  · exact own_lt h2 a ha
  · obtain ⟨h, hh, rfl⟩ := List.mem_map.1 hx
    obtain ⟨i, hi⟩ := List.getElem?_of_mem hh
    have hil := (List.getElem?_eq_some_iff.1 hi).1
    exact own_lt (h3 i l[i] h (List.getElem?_eq_getElem (by omega)) hi) a ha
/-- what is laid now is apart from all of it -/
theorem nest_fresh (h : OwnNest w b T rT rK f A c l B) : ∀ x ∈ B, Apart (some ⟨w.heap.size, 0, none⟩) x := by
  intro x hx a a' ha ha' e
  have := (nest_lt h x hx a' ha').2
  injection ha with ha
  subst ha
  simp at e
  omega
theorem nest_call {w1 : World} {T' K' n m c' : Nat} {A' : Option Addr} {xs : List Value} (h1 : w1.ownsRow w.heap.size T' K' (.slice A' m c') n xs) (h : OwnNest w b T rT rK f A c l B) : ∀ x ∈ B, Apart A' x := by
  intro x hx a a' ha ha' e
  have := (nest_lt h x hx a' ha').2
  have := (own_lt h1 a ha).1
  omega
theorem nest_empty {wc : World} (h : b ≤ wc.heap.size) : OwnNest (wc.alloc (.cells #[] T)) b T rT rK f (some ⟨wc.heap.size, 0, none⟩) 0 ([] : List (List F)) [some ⟨wc.heap.size, 0, none⟩] :=
  ⟨[], rfl, ⟨by simp [heads], .inr ⟨wc.heap.size, 0, #[], rfl, h, heap_alloc_new wc _, Nat.le_refl _, by unfold maxLen; omega, by simp, by simp [heads]⟩⟩, fun i x h hx _ => by simp at hx, rfl, by simp⟩
theorem heads_at {hs : List (Option Addr × Nat)} {i : Nat} {x : List F} {h : Option Addr × Nat} (hx : l[i]? = some x) (hh : hs[i]? = some h) : (heads l hs)[i]? = some (.slice h.1 x.length h.2) := by
  unfold heads
  rw [List.getElem?_map, (List.getElem?_zip_eq_some (z := (x, h))).2 ⟨hx, hh⟩]; rfl
theorem heads_len {hs : List (Option Addr × Nat)} (h : hs.length = l.length) : (heads l hs).length = l.length := by unfold heads; rw [List.length_map, List.length_zip]; omega
theorem nest_read (h : OwnNest w b T rT rK f A c l B) : ReadNest w rK f A l := by
  obtain ⟨hs, h1, h2, h3, h4, h5⟩ := h
  exact ⟨hs, h1, own_cells h2, fun i x h hx hh => ⟨own_cells (h3 i x h hx hh), own_room (h3 i x h hx hh), own_max (h3 i x h hx hh)⟩⟩
theorem read_below (h : ReadNest w rK f A l) (hb : Below w.heap.size w w') : ReadNest w' rK f A l := by
  obtain ⟨hs, h1, h2, h3⟩ := h
  exact ⟨hs, h1, Cells.below h2 hb, fun i x h hx hh => ⟨Cells.below (h3 i x h hx hh).1 hb, (h3 i x h hx hh).2⟩⟩
/-- three rows whose heads are laid one behind the other -/
theorem read_lit3 {w0 : World} {a b1 c1 : List F} {A0 A1 A2 : Option Addr} {d0 d1 d2 : Nat} {v0 v1 v2 : Value} (e0 : v0 = .slice A0 a.length d0) (e1 : v1 = .slice A1 b1.length d1) (e2 : v2 = .slice A2 c1.length d2)
    (h0 : Cells w0 rK A0 a.length (f a)) (m0 : Room A0 a.length d0) (n0 : a.length ≤ 9223372036854775807) (h1 : Cells w0 rK A1 b1.length (f b1)) (m1 : Room A1 b1.length d1) (n1 : b1.length ≤ 9223372036854775807) (h2 : Cells w0 rK A2 c1.length (f c1)) (m2 : Room A2 c1.length d2) (n2 : c1.length ≤ 9223372036854775807) :
    ReadNest (w0.alloc (.cells #[v0, v1, v2] T)) rK f (some ⟨w0.heap.size, 0, none⟩) [a, b1, c1] := by
  subst e0; subst e1; subst e2
  have hb : Below w0.heap.size w0 (w0.alloc (.cells #[.slice A0 a.length d0, .slice A1 b1.length d1, .slice A2 c1.length d2] T)) := (Below.refl _ _).alloc (Nat.le_refl _) _
  refine ⟨[(A0, d0), (A1, d1), (A2, d2)], rfl, ⟨by simp [heads], fun _ => ⟨⟨w0.heap.size, 0, none⟩, rfl, fun j u hu => ?_⟩⟩, fun i x h hx hh => ?_⟩
  · rw [add_flat, Nat.zero_add]
    rcases j with _ | _ | _ | j
    · obtain rfl := Option.some.inj (show some (Value.slice A0 a.length d0) = some u from hu); exact box_new _ _ _ 0 _ rfl
    · obtain rfl := Option.some.inj (show some (Value.slice A1 b1.length d1) = some u from hu); exact box_new _ _ _ 1 _ rfl
    · obtain rfl := Option.some.inj (show some (Value.slice A2 c1.length d2) = some u from hu); exact box_new _ _ _ 2 _ rfl
    · simp [heads] at hu
  · rcases i with _ | _ | _ | i
    · simp only [List.getElem?_cons_zero, Option.some.injEq] at hx hh; subst hx; subst hh; exact ⟨Cells.below h0 hb, m0, n0⟩
    · simp only [List.getElem?_cons_succ, List.getElem?_cons_zero, Option.some.injEq] at hx hh; subst hx; subst hh; exact ⟨Cells.below h1 hb, m1, n1⟩
    · simp only [List.getElem?_cons_succ, List.getElem?_cons_zero, Option.some.injEq] at hx hh; subst hx; subst hh; exact ⟨Cells.below h2 hb, m2, n2⟩
    · simp at hx
/-- the slice at k -/
theorem nest_at {k : Nat} (h : ReadNest w rK f A l) (hk : k < l.length) : ∃ (bb o : Nat) (x : List F) (A1 : Option Addr) (c1 : Nat), A = some ⟨bb, o, none⟩ ∧ l[k]? = some x ∧ w.cell? ⟨bb, o + k, none⟩ = some (.slice A1 x.length c1) ∧
    Cells w rK A1 x.length (f x) ∧ Room A1 x.length c1 ∧ x.length ≤ 9223372036854775807 := by
  obtain ⟨hs, h1, h2, h3⟩ := h
  have hx := List.getElem?_eq_getElem hk
  have hh := List.getElem?_eq_getElem (show k < hs.length by omega)
  obtain ⟨⟨bb, o, sp⟩, e, hc⟩ := h2.2 (by rw [heads_len h1]; omega)
  have h0 := hc 0 _ (heads_at (List.getElem?_eq_getElem (show 0 < l.length by omega)) (List.getElem?_eq_getElem (show 0 < hs.length by omega)))
  obtain rfl : sp = none := cell_spot (b := bb) (o := o) h0
  have h4 := hc k _ (heads_at hx hh)
  rw [add_flat] at h4
  obtain ⟨r1, r2, r3⟩ := h3 k _ _ hx hh
  exact ⟨bb, o, l[k], hs[k].1, hs[k].2, e, hx, h4, r1, r2, r3⟩
/-- one row more, behind an append of its header -/
theorem nest_push {n' c' cx : Nat} {v' : Value} {Ax : Option Addr} {x : List F} {hs : List (Option Addr × Nat)} (h1 : hs.length = l.length)
    (h3 : ∀ (i : Nat) y h, l[i]? = some y → hs[i]? = some h → w'.ownsRow b rT rK (.slice h.1 y.length h.2) y.length (f y)) (hx : w'.ownsRow b rT rK (.slice Ax x.length cx) x.length (f x))
    (ho : w'.ownsRow b T 1 v' (l.length + 1) (heads l hs ++ [.slice Ax x.length cx])) (hp : (hs.map (·.1) ++ [Ax]).Pairwise Apart) (hv : ∀ a, v'.ownBlock = some a → ∀ y ∈ hs.map (·.1) ++ [Ax], ∀ a', y = some a' → a'.block ≠ a) :
    ∃ g cap, v' = .slice (some ⟨g, 0, none⟩) (l ++ [x]).length cap ∧ OwnNest w' b T rT rK f (some ⟨g, 0, none⟩) cap (l ++ [x]) (some ⟨g, 0, none⟩ :: (hs.map (·.1) ++ [Ax])) := by
  obtain ⟨g, cap, rfl⟩ : ∃ g cap, v' = .slice (some ⟨g, 0, none⟩) (l.length + 1) cap := by
    rcases ho.2 with ⟨_, h⟩ | ⟨g3, cap3, _, h, _⟩
    · omega
    · exact ⟨g3, cap3, h⟩
  have el : (l ++ [x]).length = l.length + 1 := by simp
  refine ⟨g, cap, by rw [el], hs ++ [(Ax, cx)], by simp [h1], ?_, ?_, by simp, ?_⟩
  · rw [el]
    have e : heads (l ++ [x]) (hs ++ [(Ax, cx)]) = heads l hs ++ [.slice Ax x.length cx] := by unfold heads; rw [List.zip_append h1.symm]; simp
    rw [e]; exact ho
  · intro i y h hy hh
    by_cases hi : i < l.length
    · rw [List.getElem?_append_left hi] at hy
      rw [List.getElem?_append_left (by omega)] at hh
      exact h3 i y h hy hh
    · have hi2 := (List.getElem?_eq_some_iff.1 hy).1
      rw [el] at hi2
      obtain rfl : i = l.length := by omega
      rw [List.getElem?_append_right (Nat.le_refl _)] at hy
      rw [List.getElem?_append_right (by omega)] at hh
      simp [h1] at hy hh
      subst hy
      subst hh
      exact hx
  · rw [List.pairwise_cons]
    refine ⟨fun y hy a a' ha ha' e => ?_, hp⟩
    injection ha with ha
    subst ha
    exact hv g rfl y hy a' ha' e.symm
theorem nest_head (h : OwnNest w b T rT rK f A c l B) : A ∈ B := by
  obtain ⟨hs, h1, h2, h3, rfl, h5⟩ := h
  simp
theorem nest_lower {b' : Nat} (h : OwnNest w b T rT rK f A c l B) (hb : b' ≤ b) : OwnNest w b' T rT rK f A c l B := by
  obtain ⟨hs, h1, h2, h3, h4, h5⟩ := h
  exact ⟨hs, h1, own_lower h2 hb, fun i x h hx hh => own_lower (h3 i x h hx hh) hb, h4, h5⟩
/-- what a call has laid lies apart from a row that was there -/
theorem nest_callrow {w1 : World} {b' T' K' n m c' : Nat} {A' : Option Addr} {xs : List Value} (h1 : OwnNest w1 w.heap.size T rT rK f A c l B) (h : w.ownsRow b' T' K' (.slice A' m c') n xs) : ∀ x ∈ B, Apart A' x := by
  intro x hx a a' ha ha' e
  have := (nest_lt h1 x hx a' ha').1
  have := (own_lt h a ha).2
  omega
theorem nest_callbox {w1 : World} {g j : Nat} {v : Value} (h1 : OwnNest w1 w.heap.size T rT rK f A c l B) (h : w.cell? ⟨g, j, none⟩ = some v) : ∀ x ∈ B, Apart (some ⟨g, 0, none⟩) x := by
  intro x hx a a' ha ha' e
  have := (nest_lt h1 x hx a' ha').1
  have hl : g < w.heap.size := cell_lt h
  injection ha with ha
  subst ha
  simp at e
  omega
theorem nest_callnest {F' : Type} {w1 : World} {b' T' rT' rK' c' : Nat} {f' : List F' → List Value} {A' : Option Addr} {l' : List (List F')} {B' : List (Option Addr)} (h1 : OwnNest w1 w.heap.size T rT rK f A c l B) (h : OwnNest w b' T' rT' rK' f' A' c' l' B') :
    ∀ x ∈ B, ∀ y ∈ B', Apart x y := by
  intro x hx y hy a a' ha ha' e
  have := (nest_lt h1 x hx a ha).1
  have := (nest_lt h y hy a' ha').2
  omega
theorem nest_flip {B B' : List (Option Addr)} (h : ∀ x ∈ B, ∀ y ∈ B', Apart x y) : ∀ y ∈ B', ∀ x ∈ B, Apart y x := fun y hy x hx => (h x hx y hy).symm
/-- the row at k -/
theorem nest_own {k : Nat} (h : OwnNest w b T rT rK f A c l B) (hk : k < l.length) : ∃ (g : Nat) (x : List F) (A1 : Option Addr) (c1 : Nat), A = some ⟨g, 0, none⟩ ∧ l[k]? = some x ∧ w.cell? ⟨g, k, none⟩ = some (.slice A1 x.length c1) ∧
    w.ownsRow b rT rK (.slice A1 x.length c1) x.length (f x) ∧ A1 ∈ B ∧ Apart A A1 := by
  obtain ⟨hs, h1, h2, h3, rfl, h5⟩ := h
  have hx := List.getElem?_eq_getElem hk
  have hh := List.getElem?_eq_getElem (show k < hs.length by omega)
  obtain ⟨g, rfl⟩ := own_some h2 (by omega)
  obtain ⟨ad, e, hc⟩ := (own_cells h2).2 (by rw [heads_len h1]; omega)
  obtain rfl := Option.some.inj e
  have h4 := hc k _ (heads_at hx hh)
  rw [add_flat, Nat.zero_add] at h4
  have hm : hs[k].1 ∈ hs.map (·.1) := List.mem_map.2 ⟨hs[k], List.getElem_mem _, rfl⟩
  exact ⟨g, l[k], hs[k].1, hs[k].2, rfl, hx, h4, h3 k _ _ hx hh, List.mem_cons_of_mem _ hm, (List.pairwise_cons.1 h5).1 _ hm⟩
/-- a row in it has been written -/
theorem nest_store {k g n' c' : Nat} {x x' : List F} {A1 : Option Addr} {c1 : Nat} (h : OwnNest w b T rT rK f (some ⟨g, 0, none⟩) c l B) (hk : l[k]? = some x) (hcell : w.cell? ⟨g, k, none⟩ = some (.slice A1 x.length c1))
    (hx : w'.ownsRow b rT rK (.slice A1 n' c1) n' (f x')) (hn : x'.length = n') (hn2 : x.length = n') (hg : w.grownBy w' (Value.slice A1 n' c').ownBlock) : OwnNest w' b T rT rK f (some ⟨g, 0, none⟩) c (l.set k x') B := by
  subst hn
  obtain ⟨hs, h1, h2, h3, rfl, h5⟩ := h
  have hkl := (List.getElem?_eq_some_iff.1 hk).1
  have hh := List.getElem?_eq_getElem (show k < hs.length by omega)
  obtain ⟨ad, e, hc⟩ := (own_cells h2).2 (by rw [heads_len h1]; omega)
  obtain rfl := Option.some.inj e
  have h4 := hc k _ (heads_at hk hh)
  rw [add_flat, Nat.zero_add, hcell] at h4
  have h4' := Option.some.inj h4
  simp only [Value.slice.injEq] at h4'
  obtain ⟨e1, _, e2⟩ := h4'
  subst e1
  have hap := List.pairwise_cons.1 h5
  have hmk : hs[k].1 ∈ hs.map (·.1) := List.mem_map.2 ⟨hs[k], List.getElem_mem _, rfl⟩
  refine ⟨hs, by rw [List.length_set]; exact h1, ?_, ?_, rfl, h5⟩
  · have e3 : heads (l.set k x') hs = heads l hs := by
      apply List.ext_getElem?
      intro i
      unfold heads
      rw [List.getElem?_map, List.getElem?_map]
      by_cases hi : i < l.length
      · have hi2 : i < hs.length := by omega
        by_cases hik : k = i
        · subst hik
          rw [(List.getElem?_zip_eq_some (z := (x', hs[k]))).2 ⟨by rw [List.getElem?_set_self hkl], hh⟩, (List.getElem?_zip_eq_some (z := (x, hs[k]))).2 ⟨hk, hh⟩]
          simp [hn2]
        · rw [(List.getElem?_zip_eq_some (z := (l[i], hs[i]))).2 ⟨by rw [List.getElem?_set_ne hik]; exact List.getElem?_eq_getElem hi, List.getElem?_eq_getElem hi2⟩,
            (List.getElem?_zip_eq_some (z := (l[i], hs[i]))).2 ⟨List.getElem?_eq_getElem hi, List.getElem?_eq_getElem hi2⟩]
      · rw [List.getElem?_eq_none (by rw [List.length_zip, List.length_set]; omega), List.getElem?_eq_none (by rw [List.length_zip]; omega)]
    rw [e3, List.length_set]
    refine own_other h2 hg ?_
    exact (hap.1 _ hmk).symm
  · intro i y h hy hhi
    by_cases hik : k = i
    · subst hik
      rw [List.getElem?_set_self hkl] at hy
      obtain rfl := Option.some.inj hy
      obtain rfl := Option.some.inj (hh.symm.trans hhi)
      rw [← e2]
      exact hx
    · rw [List.getElem?_set_ne hik] at hy
      refine own_other (h3 i y h hy hhi) hg ?_
      have hi2 := (List.getElem?_eq_some_iff.1 hhi).1
      have hp := List.pairwise_iff_getElem.1 hap.2
      have ei : h = hs[i] := by rw [List.getElem?_eq_getElem hi2] at hhi; exact (Option.some.inj hhi).symm
      rw [ei]
      rcases Nat.lt_or_gt_of_ne hik with h6 | h6
      · have := hp k i (by rw [List.length_map]; omega) (by rw [List.length_map]; omega) h6
        simpa using this
      · have := hp i k (by rw [List.length_map]; omega) (by rw [List.length_map]; omega) h6
        simpa using this.symm
/-- what lies in B' : what lay in B, the row at Ax, and the headers, where they were or behind all -/
def Pushed (w : World) (A Ax : Option Addr) (B B' : List (Option Addr)) : Prop := A ∈ B ∧ Ax ∈ B' ∧ ∀ y ∈ B', y ∈ B ∨ y = Ax ∨ From w A y
theorem apart_push {R Ax : Option Addr} {B' : List (Option Addr)} (hD : ∀ y ∈ B, Apart R y) (hx : Apart R Ax) (hR : ∀ a, R = some a → a.block < w.heap.size) (h : Pushed w A Ax B B') : ∀ y ∈ B', Apart R y := by
  intro y hy
  rcases h.2.2 y hy with h1 | rfl | h1
  · exact hD y h1
  · exact hx
  · exact (apart_from (hD A h.1).symm hR h1).symm
theorem apart_pushN {Ax : Option Addr} {B' C : List (Option Addr)} (hD : ∀ r ∈ C, ∀ y ∈ B, Apart r y) (hx : ∀ r ∈ C, Apart Ax r) (hR : ∀ r ∈ C, ∀ a, r = some a → a.block < w.heap.size) (h : Pushed w A Ax B B') : ∀ r ∈ C, ∀ y ∈ B', Apart r y :=
  fun r hr => apart_push (hD r hr) (hx r hr).symm (hR r hr) h
/-- append(rows, row): the row is in the nest from here on, and reads as before -/
theorem nest_app {n' c' : Nat} {v' : Value} {Ax : Option Addr} {cx : Nat} {x : List F} {hs : List (Option Addr × Nat)} {l' : List (List F)} (hl' : l ++ [x] = l') (h1 : hs.length = l.length) (h4 : B = A :: hs.map (·.1))
    (h3 : ∀ (i : Nat) y h, l[i]? = some y → hs[i]? = some h → w.ownsRow b rT rK (.slice h.1 y.length h.2) y.length (f y)) (h5 : B.Pairwise Apart) (hx : w.ownsRow b rT rK (.slice Ax x.length cx) x.length (f x))
    (hD : ∀ y ∈ B, Apart Ax y) (hg : w.grownBy w' (Value.slice A n' c').ownBlock) (ho : w'.ownsRow b T 1 v' (l.length + 1) (heads l hs ++ [.slice Ax x.length cx]))
    (hy : v'.ownBlock = (Value.slice A n' c').ownBlock ∨ v'.ownBlock = some w.heap.size) :
    ∃ g cap B', v' = .slice (some ⟨g, 0, none⟩) l'.length cap ∧ OwnNest w' b T rT rK f (some ⟨g, 0, none⟩) cap l' B' ∧ Pushed w A Ax B B' ∧ w'.ownsRow b rT rK (.slice Ax x.length cx) x.length (f x) := by
  subst hl'
  subst h4
  have hp := List.pairwise_cons.1 h5
  have hx' := own_other hx hg (hD A (by simp)).symm
  have hlt : ∀ y ∈ hs.map (·.1) ++ [Ax], ∀ a, y = some a → a.block < w.heap.size := by
    intro y hy a ha
    rcases List.mem_append.1 hy with hy | hy
    · obtain ⟨h, hh, rfl⟩ := List.mem_map.1 hy
      obtain ⟨i, hi⟩ := List.getElem?_of_mem hh
      have hil := (List.getElem?_eq_some_iff.1 hi).1
      exact (own_lt (h3 i l[i] h (List.getElem?_eq_getElem (by omega)) hi) a ha).2
    · simp at hy; subst hy; exact (own_lt hx a ha).2
  obtain ⟨g, cap, e, hN⟩ := nest_push (c' := c') (n' := n') h1 (fun i y h hy hh => own_other (h3 i y h hy hh) hg (hp.1 _ (List.mem_map.2 ⟨h, List.mem_of_getElem? hh, rfl⟩))) hx' ho
    (List.pairwise_append.2 ⟨hp.2, by simp, fun a ha b hb => by simp at hb; subst hb; exact (hD a (List.mem_cons_of_mem _ ha)).symm⟩)
    (by
      intro a ha y hy a' ha' e
      rcases hy with hy
      rcases ‹v'.ownBlock = _ ∨ _› with h6 | h6
      · rw [ha] at h6
        cases hA : A with
        | none => rw [hA] at h6; simp [Value.ownBlock] at h6
        | some z =>
          rw [hA] at h6
          simp only [Value.ownBlock, Option.some.injEq] at h6
          rcases List.mem_append.1 hy with hy | hy
          · exact hp.1 y hy z a' hA ha' (by omega)
          · simp at hy; subst hy; exact hD A (by simp) a' z ha' hA (by omega)
      · rw [ha] at h6
        have := hlt y hy a' ha'
        simp only [Option.some.injEq] at h6; omega)
  refine ⟨g, cap, _, e, hN, ⟨by simp, by simp, ?_⟩, hx'⟩
  intro y hy
  rcases List.mem_cons.1 hy with rfl | hy
  · right; right
    rw [e] at ‹v'.ownBlock = _ ∨ _›
    intro a' ha'
    injection ha' with ha'
    subst ha'
    rcases ‹_ ∨ _› with h6 | h6
    · left
      cases hA : A with
      | none => rw [hA] at h6; simp [Value.ownBlock] at h6
      | some z => rw [hA] at h6; simp only [Value.ownBlock, Option.some.injEq] at h6; exact ⟨z, rfl, h6.symm⟩
    · right; simp only [Value.ownBlock, Option.some.injEq] at h6; exact Nat.le_of_eq h6.symm
  · rcases List.mem_append.1 hy with hy | hy
    · exact .inl (List.mem_cons_of_mem _ hy)
    · simp at hy; exact .inr (.inl hy)
theorem nest_one {X R : Option Addr} (h : Apart X R) : ∀ y ∈ [X], Apart R y := by
  intro y hy
  simp at hy
  subst hy
  exact h.symm
theorem nest_max (h : OwnNest w b T rT rK f A c l B) : l.length ≤ 9223372036854775807 := by
  obtain ⟨hs, h1, h2, h3, h4, h5⟩ := h
  exact own_max h2
theorem nest_room (h : OwnNest w b T rT rK f A c l B) : Room A l.length c := by
  obtain ⟨hs, h1, h2, h3, h4, h5⟩ := h
  exact own_room h2
/-- w' is w but for what lies in B, and for new blocks -/
structure GrownN (w w' : World) (B : List (Option Addr)) : Prop where
  os : w'.os = w.os
  tape : w'.tape = w.tape
  output : w'.output = w.output
  size : w.heap.size ≤ w'.heap.size
  block : ∀ k, k < w.heap.size → (∀ y ∈ B, ∀ a, y = some a → a.block ≠ k) → w'.heap[k]? = w.heap[k]?
theorem grownN_refl (w : World) (B : List (Option Addr)) : GrownN w w B := ⟨rfl, rfl, rfl, Nat.le_refl _, fun _ _ _ => rfl⟩
theorem grownN_below {wr w2 : World} {B : List (Option Addr)} (h : GrownN w wr B) (hb : Below wr.heap.size wr w2) : GrownN w w2 B :=
  ⟨hb.os.trans h.os, hb.tape.trans h.tape, hb.output.trans h.output, Nat.le_trans h.size hb.size, fun k hk h1 => (hb.block k (Nat.lt_of_lt_of_le hk h.size)).trans (h.block k hk h1)⟩
theorem grownN_row {wr w2 : World} {B : List (Option Addr)} {n c' : Nat} {A1 : Option Addr} (h : GrownN w wr B) (hg : wr.grownBy w2 (Value.slice A1 n c').ownBlock) (hm : A1 ∈ B) : GrownN w w2 B :=
  ⟨hg.os.trans h.os, hg.tape.trans h.tape, hg.output.trans h.output, Nat.le_trans h.size hg.size, fun k hk h1 => (hg.block k (Nat.lt_of_lt_of_le hk h.size) (by
    cases hA : A1 with
    | none => simp [Value.ownBlock]
    | some a => simp only [Value.ownBlock, ne_eq, Option.some.injEq]; exact fun e => h1 _ hm a hA e.symm)).trans (h.block k hk h1)⟩
theorem below_nest {wr w2 : World} {B0 : Nat} {B : List (Option Addr)} (h : Below B0 w wr) (hg : GrownN wr w2 B) (hB : B0 ≤ wr.heap.size) (h1 : ∀ y ∈ B, ∀ a, y = some a → B0 ≤ a.block ∧ a.block < wr.heap.size) : Below B0 w w2 :=
  ⟨hg.os.trans h.os, hg.tape.trans h.tape, hg.output.trans h.output, Nat.le_trans h.size hg.size, fun k hk => (hg.block k (Nat.lt_of_lt_of_le hk hB) (fun y hy a e e2 => by have := (h1 y hy a e).1; omega)).trans (h.block k hk)⟩
theorem own_otherN {b' T' K' n m c' : Nat} {R : Option Addr} {ys : List Value} (h : w.ownsRow b' T' K' (.slice R m c') n ys) (hg : GrownN w w' B) (hD : ∀ y ∈ B, Apart R y) : w'.ownsRow b' T' K' (.slice R m c') n ys := by
  refine ⟨h.1, ?_⟩
  rcases h.2 with hn | ⟨g, cap, cur, hv, hb, hgg, rest⟩
  · exact .inl hn
  · have hlt := (h.lt g (by rw [hv]; rfl)).2
    have hR : R = some ⟨g, 0, none⟩ := by simp only [Value.slice.injEq] at hv; exact hv.1
    refine .inr ⟨g, cap, cur, hv, hb, ?_, rest⟩
    rw [hg.block g hlt (fun y hy a e e2 => hD y hy _ a hR e e2.symm)]
    exact hgg
theorem cell_otherN {a : Addr} {v : Value} (h : w.cell? a = some v) (hg : GrownN w w' B) (hD : ∀ y ∈ B, Apart (some ⟨a.block, 0, none⟩) y) : w'.cell? a = some v := by
  rw [World.cell?_of_block (hg.block a.block (cell_lt h) (fun y hy x e e2 => hD y hy _ x rfl e e2.symm))]
  exact h
theorem apart_oldN {wr : World} {b' g : Nat} (h : OwnNest wr b' T rT rK f A c l B) (hg : g < b') : ∀ y ∈ B, Apart (some ⟨g, 0, none⟩) y := by
  intro y hy a a' ha ha' e
  have := (nest_lt h y hy a' ha').1
  injection ha with ha
  subst ha
  simp at e
  omega
theorem nest_otherN {F' : Type} {b' T' rT' rK' c' : Nat} {f' : List F' → List Value} {A' : Option Addr} {l' : List (List F')} {B' : List (Option Addr)} (h : OwnNest w b' T' rT' rK' f' A' c' l' B') (hg : GrownN w w' B) (hD : ∀ x ∈ B', ∀ y ∈ B, Apart x y) : OwnNest w' b' T' rT' rK' f' A' c' l' B' := by
  obtain ⟨hs, h1, h2, h3, rfl, h5⟩ := h
  refine ⟨hs, h1, own_otherN h2 hg (hD _ (by simp)), fun i x h hx hh => own_otherN (h3 i x h hx hh) hg (hD _ ?_), rfl, h5⟩
  exact List.mem_cons_of_mem _ (List.mem_map.2 ⟨h, List.mem_of_getElem? hh, rfl⟩)
end
end Go.Proofs.Ytkinlkmmelkdnaa.GoN

/- loop.example/g01062/impl.within as a plain function, and the contract of the program's: where the plain one has an answer, the program has it. Conditions: slices read as lists. -/
namespace Go.Proofs.Ytkinlkmmelkdnaa.GiWithin
set_option linter.unusedVariables false
set_option linter.unusedSimpArgs false
open Go.RowKit
open Go.Proofs.Ytkinlkmmelkdnaa.Rowed Go.Proofs.Ytkinlkmmelkdnaa.Turn Go.Proofs.Ytkinlkmmelkdnaa.Aid Go.Proofs.Ytkinlkmmelkdnaa.GoP Go.Proofs.Ytkinlkmmelkdnaa.GoM

def P (n_0 : Int) (low : Int) (high : Int) : Option (Bool) :=
  letK (decide (low ≤ n_0)) fun (t_3 : Bool) =>
  joinK (fun (t_8 : Bool) =>
  some t_8) fun jt_8 => iteK t_3 (letK (decide (n_0 ≤ high)) fun (t_7 : Bool) =>
  appK jt_8 t_7) (appK jt_8 false)

set_option maxRecDepth 100000 in
set_option maxHeartbeats 2000000 in
theorem C (n_0 : Int) (low : Int) (high : Int)   (w : World)   {r : Bool} (H : Hid (P n_0 low high = some r)) :
    Calls Try.prog 86 #[.int .i64 n_0, .int .i64 low, .int .i64 high] w (Gives (.bool r) w) := by
  have HB := Lib.hid (Below.refl w.heap.size w)
  unfold P at H
  go_enter Try.func86, Try.ntmps86
  replace H := let_hid H
  obtain ⟨t_3, ht_3, H⟩ := H
  replace H := join_hid H
  cases t_3 with
  | false =>
    replace H := ite_f H
    replace H := app_hid H
    obtain rfl := ret_hid H
    go_wp2_with fail
    go_ret
    exact ⟨rfl, HB.out⟩
  | true =>
    replace H := ite_t H
    replace H := let_hid H
    obtain ⟨t_7, ht_7, H⟩ := H
    replace H := app_hid H
    obtain rfl := ret_hid H
    go_wp2_with fail
    go_ret
    exact ⟨rfl, HB.out⟩

set_option maxRecDepth 100000 in
set_option maxHeartbeats 2000000 in
theorem C0 (n_0 : Int) (low : Int) (high : Int)   (w : World)   {r : Bool} (H : Hid (P n_0 low high = some r)) :
    Calls Try.prog 86 #[.int .i64 n_0, .int .i64 low, .int .i64 high] w (fun e w'' => e = .returned (.bool r) ∧ w'' = w) := by
  have HB := Lib.hid (Below.refl w.heap.size w)
  unfold P at H
  go_enter Try.func86, Try.ntmps86
  replace H := let_hid H
  obtain ⟨t_3, ht_3, H⟩ := H
  replace H := join_hid H
  cases t_3 with
  | false =>
    replace H := ite_f H
    replace H := app_hid H
    obtain rfl := ret_hid H
    go_wp2_with fail
    go_ret
    exact ⟨rfl, rfl⟩
  | true =>
    replace H := ite_t H
    replace H := let_hid H
    obtain ⟨t_7, ht_7, H⟩ := H
    replace H := app_hid H
    obtain rfl := ret_hid H
    go_wp2_with fail
    go_ret
    exact ⟨rfl, rfl⟩
end Go.Proofs.Ytkinlkmmelkdnaa.GiWithin

/- loop.example/g01062/impl.isZone as a plain function, and the contract of the program's: where the plain one has an answer, the program has it. Conditions: slices read as lists. -/
namespace Go.Proofs.Ytkinlkmmelkdnaa.GiIsZone
set_option linter.unusedVariables false
set_option linter.unusedSimpArgs false
open Go.RowKit
open Go.Proofs.Ytkinlkmmelkdnaa.Rowed Go.Proofs.Ytkinlkmmelkdnaa.Turn Go.Proofs.Ytkinlkmmelkdnaa.Aid Go.Proofs.Ytkinlkmmelkdnaa.GoP Go.Proofs.Ytkinlkmmelkdnaa.GoM

def P (zone : Int) : Option (Bool) :=
  Option.bind (Go.Proofs.Ytkinlkmmelkdnaa.GiWithin.P zone 0 9) fun (t_2 : Bool) =>
  some t_2

set_option maxRecDepth 100000 in
set_option maxHeartbeats 2000000 in
theorem C (zone : Int)   (w : World)   {r : Bool} (H : Hid (P zone = some r)) :
    Calls Try.prog 71 #[.int .i64 zone] w (Gives (.bool r) w) := by
  have HB := Lib.hid (Below.refl w.heap.size w)
  unfold P at H
  go_enter Try.func71, Try.ntmps71
  replace H := bind_hid H
  obtain ⟨t_2, qt_2, H⟩ := H
  go_wp2_with fail
  go_at_call 86
  refine (Go.Proofs.Ytkinlkmmelkdnaa.GiWithin.C (zone) (0) (9)  _    qt_2).mono ?_
  rintro e_t_2 wt_2 ⟨rfl, bt_2⟩
  have HBwt_2 := Lib.hid (Below.step HB.out bt_2)
  clear bt_2
  obtain rfl := ret_hid H
  go_wp2_with fail
  go_ret
  exact ⟨rfl, HBwt_2.out⟩
end Go.Proofs.Ytkinlkmmelkdnaa.GiIsZone

/- loop.example/g01062/impl.isWeight as a plain function, and the contract of the program's: where the plain one has an answer, the program has it. Conditions: slices read as lists. -/
namespace Go.Proofs.Ytkinlkmmelkdnaa.GiIsWeight
set_option linter.unusedVariables false
set_option linter.unusedSimpArgs false
open Go.RowKit
open Go.Proofs.Ytkinlkmmelkdnaa.Rowed Go.Proofs.Ytkinlkmmelkdnaa.Turn Go.Proofs.Ytkinlkmmelkdnaa.Aid Go.Proofs.Ytkinlkmmelkdnaa.GoP Go.Proofs.Ytkinlkmmelkdnaa.GoM

def P (grams : Int) : Option (Bool) :=
  Option.bind (Go.Proofs.Ytkinlkmmelkdnaa.GiWithin.P grams 1 2000) fun (t_2 : Bool) =>
  some t_2

set_option maxRecDepth 100000 in
set_option maxHeartbeats 2000000 in
theorem C (grams : Int)   (w : World)   {r : Bool} (H : Hid (P grams = some r)) :
    Calls Try.prog 72 #[.int .i64 grams] w (Gives (.bool r) w) := by
  have HB := Lib.hid (Below.refl w.heap.size w)
  unfold P at H
  go_enter Try.func72, Try.ntmps72
  replace H := bind_hid H
  obtain ⟨t_2, qt_2, H⟩ := H
  go_wp2_with fail
  go_at_call 86
  refine (Go.Proofs.Ytkinlkmmelkdnaa.GiWithin.C (grams) (1) (2000)  _    qt_2).mono ?_
  rintro e_t_2 wt_2 ⟨rfl, bt_2⟩
  have HBwt_2 := Lib.hid (Below.step HB.out bt_2)
  clear bt_2
  obtain rfl := ret_hid H
  go_wp2_with fail
  go_ret
  exact ⟨rfl, HBwt_2.out⟩
end Go.Proofs.Ytkinlkmmelkdnaa.GiIsWeight

/- loop.example/g01062/impl.isRateCents as a plain function, and the contract of the program's: where the plain one has an answer, the program has it. Conditions: slices read as lists. -/
namespace Go.Proofs.Ytkinlkmmelkdnaa.GiIsRateCents
set_option linter.unusedVariables false
set_option linter.unusedSimpArgs false
open Go.RowKit
open Go.Proofs.Ytkinlkmmelkdnaa.Rowed Go.Proofs.Ytkinlkmmelkdnaa.Turn Go.Proofs.Ytkinlkmmelkdnaa.Aid Go.Proofs.Ytkinlkmmelkdnaa.GoP Go.Proofs.Ytkinlkmmelkdnaa.GoM

def P (cents : Int) : Option (Bool) :=
  Option.bind (Go.Proofs.Ytkinlkmmelkdnaa.GiWithin.P cents 1 9999) fun (t_2 : Bool) =>
  some t_2

set_option maxRecDepth 100000 in
set_option maxHeartbeats 2000000 in
theorem C (cents : Int)   (w : World)   {r : Bool} (H : Hid (P cents = some r)) :
    Calls Try.prog 73 #[.int .i64 cents] w (Gives (.bool r) w) := by
  have HB := Lib.hid (Below.refl w.heap.size w)
  unfold P at H
  go_enter Try.func73, Try.ntmps73
  replace H := bind_hid H
  obtain ⟨t_2, qt_2, H⟩ := H
  go_wp2_with fail
  go_at_call 86
  refine (Go.Proofs.Ytkinlkmmelkdnaa.GiWithin.C (cents) (1) (9999)  _    qt_2).mono ?_
  rintro e_t_2 wt_2 ⟨rfl, bt_2⟩
  have HBwt_2 := Lib.hid (Below.step HB.out bt_2)
  clear bt_2
  obtain rfl := ret_hid H
  go_wp2_with fail
  go_ret
  exact ⟨rfl, HBwt_2.out⟩
end Go.Proofs.Ytkinlkmmelkdnaa.GiIsRateCents

/- loop.example/g01062/impl.isDay as a plain function, and the contract of the program's: where the plain one has an answer, the program has it. Conditions: slices read as lists. -/
namespace Go.Proofs.Ytkinlkmmelkdnaa.GiIsDay
set_option linter.unusedVariables false
set_option linter.unusedSimpArgs false
open Go.RowKit
open Go.Proofs.Ytkinlkmmelkdnaa.Rowed Go.Proofs.Ytkinlkmmelkdnaa.Turn Go.Proofs.Ytkinlkmmelkdnaa.Aid Go.Proofs.Ytkinlkmmelkdnaa.GoP Go.Proofs.Ytkinlkmmelkdnaa.GoM

def P (day : Int) : Option (Bool) :=
  Option.bind (Go.Proofs.Ytkinlkmmelkdnaa.GiWithin.P day 0 4000) fun (t_2 : Bool) =>
  some t_2

set_option maxRecDepth 100000 in
set_option maxHeartbeats 2000000 in
theorem C (day : Int)   (w : World)   {r : Bool} (H : Hid (P day = some r)) :
    Calls Try.prog 74 #[.int .i64 day] w (Gives (.bool r) w) := by
  have HB := Lib.hid (Below.refl w.heap.size w)
  unfold P at H
  go_enter Try.func74, Try.ntmps74
  replace H := bind_hid H
  obtain ⟨t_2, qt_2, H⟩ := H
  go_wp2_with fail
  go_at_call 86
  refine (Go.Proofs.Ytkinlkmmelkdnaa.GiWithin.C (day) (0) (4000)  _    qt_2).mono ?_
  rintro e_t_2 wt_2 ⟨rfl, bt_2⟩
  have HBwt_2 := Lib.hid (Below.step HB.out bt_2)
  clear bt_2
  obtain rfl := ret_hid H
  go_wp2_with fail
  go_ret
  exact ⟨rfl, HBwt_2.out⟩
end Go.Proofs.Ytkinlkmmelkdnaa.GiIsDay

/- loop.example/g01062/impl.IsRate as a plain function, and the contract of the program's: where the plain one has an answer, the program has it. Conditions: slices read as lists. -/
namespace Go.Proofs.Ytkinlkmmelkdnaa.GiIsRate
set_option linter.unusedVariables false
set_option linter.unusedSimpArgs false
open Go.RowKit
open Go.Proofs.Ytkinlkmmelkdnaa.Rowed Go.Proofs.Ytkinlkmmelkdnaa.Turn Go.Proofs.Ytkinlkmmelkdnaa.Aid Go.Proofs.Ytkinlkmmelkdnaa.GoP Go.Proofs.Ytkinlkmmelkdnaa.GoM

def P (r_0 : Go.Proofs.Ytkinlkmmelkdnaa.PRate.Rate) : Option (Bool) :=
  unRate r_0 fun (r_0_zone : Int) (r_0_grams : Int) (r_0_from_ : Int) (r_0_until_ : Int) (r_0_cents : Int) =>
  Option.bind (Go.Proofs.Ytkinlkmmelkdnaa.GiIsZone.P r_0_zone) fun (t_4 : Bool) =>
  joinK (fun (t_9 : Bool) =>
  joinK (fun (t_14 : Bool) =>
  joinK (fun (t_19 : Bool) =>
  joinK (fun (t_24 : Bool) =>
  joinK (fun (t_31 : Bool) =>
  some t_31) fun jt_31 => iteK t_24 (letK (decide (r_0_from_ ≤ r_0_until_)) fun (t_30 : Bool) =>
  appK jt_31 t_30) (appK jt_31 false)) fun jt_24 => iteK t_19 (Option.bind (Go.Proofs.Ytkinlkmmelkdnaa.GiIsDay.P r_0_until_) fun (t_23 : Bool) =>
  appK jt_24 t_23) (appK jt_24 false)) fun jt_19 => iteK t_14 (Option.bind (Go.Proofs.Ytkinlkmmelkdnaa.GiIsDay.P r_0_from_) fun (t_18 : Bool) =>
  appK jt_19 t_18) (appK jt_19 false)) fun jt_14 => iteK t_9 (Option.bind (Go.Proofs.Ytkinlkmmelkdnaa.GiIsRateCents.P r_0_cents) fun (t_13 : Bool) =>
  appK jt_14 t_13) (appK jt_14 false)) fun jt_9 => iteK t_4 (Option.bind (Go.Proofs.Ytkinlkmmelkdnaa.GiIsWeight.P r_0_grams) fun (t_8 : Bool) =>
  appK jt_9 t_8) (appK jt_9 false)

set_option maxRecDepth 100000 in
set_option maxHeartbeats 2000000 in
theorem C (r_0 : Go.Proofs.Ytkinlkmmelkdnaa.PRate.Rate)   (w : World)   {r : Bool} (H : Hid (P r_0 = some r)) :
    Calls Try.prog 16 #[r_0.val] w (Gives (.bool r) w) := by
  have HB := Lib.hid (Below.refl w.heap.size w)
  unfold P at H
  obtain ⟨r_0_zone, r_0_grams, r_0_from_, r_0_until_, r_0_cents⟩ := r_0
  replace H := unRate_hid H
  unfold Go.Proofs.Ytkinlkmmelkdnaa.PRate.Rate.val
  go_enter Try.func16, Try.ntmps16
  obtain ⟨w_r_0, hw_r_0⟩ : ∃ x, w.alloc (.cells #[.int .i64 r_0_zone, .int .i64 r_0_grams, .int .i64 r_0_from_, .int .i64 r_0_until_, .int .i64 r_0_cents] 25) = x := ⟨_, rfl⟩
  have bw_r_0 : Below w.heap.size w w_r_0 := by rw [← hw_r_0]; exact (Below.refl _ _).alloc (Nat.le_refl _) _
  have HBw_r_0 := Lib.hid (Below.step HB.out bw_r_0)
  clear bw_r_0
  have kr_0_0 : w_r_0.cell? ⟨w.heap.size, 0, none⟩ = some (.int .i64 r_0_zone) := by rw [← hw_r_0]; exact box_new _ _ _ 0 _ rfl
  have kr_0_1 : w_r_0.cell? ⟨w.heap.size, 1, none⟩ = some (.int .i64 r_0_grams) := by rw [← hw_r_0]; exact box_new _ _ _ 1 _ rfl
  have kr_0_2 : w_r_0.cell? ⟨w.heap.size, 2, none⟩ = some (.int .i64 r_0_from_) := by rw [← hw_r_0]; exact box_new _ _ _ 2 _ rfl
  have kr_0_3 : w_r_0.cell? ⟨w.heap.size, 3, none⟩ = some (.int .i64 r_0_until_) := by rw [← hw_r_0]; exact box_new _ _ _ 3 _ rfl
  have kr_0_4 : w_r_0.cell? ⟨w.heap.size, 4, none⟩ = some (.int .i64 r_0_cents) := by rw [← hw_r_0]; exact box_new _ _ _ 4 _ rfl
  replace H := bind_hid H
  obtain ⟨t_4, qt_4, H⟩ := H
  go_wp2_with fail
  go_at_call 71
  refine (Go.Proofs.Ytkinlkmmelkdnaa.GiIsZone.C (r_0_zone)  _    qt_4).mono ?_
  rintro e_t_4 wt_4 ⟨rfl, bt_4⟩
  have HBwt_4 := Lib.hid (Below.step HBw_r_0.out bt_4)
  replace kr_0_0 := cell_below bt_4 kr_0_0
  replace kr_0_1 := cell_below bt_4 kr_0_1
  replace kr_0_2 := cell_below bt_4 kr_0_2
  replace kr_0_3 := cell_below bt_4 kr_0_3
  replace kr_0_4 := cell_below bt_4 kr_0_4
  clear bt_4
  replace H := join_hid H
  cases t_4 with
  | false =>
    replace H := ite_f H
    replace H := app_hid H
    replace H := join_hid H
    replace H := ite_f H
    replace H := app_hid H
    replace H := join_hid H
    replace H := ite_f H
    replace H := app_hid H
    replace H := join_hid H
    replace H := ite_f H
    replace H := app_hid H
    replace H := join_hid H
    replace H := ite_f H
    replace H := app_hid H
    obtain rfl := ret_hid H
    go_wp2_with fail
    go_ret
    exact ⟨rfl, HBwt_4.out⟩
  | true =>
    replace H := ite_t H
    replace H := bind_hid H
    obtain ⟨t_8, qt_8, H⟩ := H
    go_wp2_with fail
    go_at_call 72
    refine (Go.Proofs.Ytkinlkmmelkdnaa.GiIsWeight.C (r_0_grams)  _    qt_8).mono ?_
    rintro e_t_8 wt_8 ⟨rfl, bt_8⟩
    have HBwt_8 := Lib.hid (Below.step HBwt_4.out bt_8)
    replace kr_0_0 := cell_below bt_8 kr_0_0
    replace kr_0_1 := cell_below bt_8 kr_0_1
    replace kr_0_2 := cell_below bt_8 kr_0_2
    replace kr_0_3 := cell_below bt_8 kr_0_3
    replace kr_0_4 := cell_below bt_8 kr_0_4
    clear bt_8
    replace H := app_hid H
    replace H := join_hid H
    cases t_8 with
    | false =>
      replace H := ite_f H
      replace H := app_hid H
      replace H := join_hid H
      replace H := ite_f H
      replace H := app_hid H
      replace H := join_hid H
      replace H := ite_f H
      replace H := app_hid H
      replace H := join_hid H
      replace H := ite_f H
      replace H := app_hid H
      obtain rfl := ret_hid H
      go_wp2_with fail
      go_ret
      exact ⟨rfl, HBwt_8.out⟩
    | true =>
      replace H := ite_t H
      replace H := bind_hid H
      obtain ⟨t_13, qt_13, H⟩ := H
      go_wp2_with fail
      go_at_call 73
      refine (Go.Proofs.Ytkinlkmmelkdnaa.GiIsRateCents.C (r_0_cents)  _    qt_13).mono ?_
      rintro e_t_13 wt_13 ⟨rfl, bt_13⟩
      have HBwt_13 := Lib.hid (Below.step HBwt_8.out bt_13)
      replace kr_0_0 := cell_below bt_13 kr_0_0
      replace kr_0_1 := cell_below bt_13 kr_0_1
      replace kr_0_2 := cell_below bt_13 kr_0_2
      replace kr_0_3 := cell_below bt_13 kr_0_3
      replace kr_0_4 := cell_below bt_13 kr_0_4
      clear bt_13
      replace H := app_hid H
      replace H := join_hid H
      cases t_13 with
      | false =>
        replace H := ite_f H
        replace H := app_hid H
        replace H := join_hid H
        replace H := ite_f H
        replace H := app_hid H
        replace H := join_hid H
        replace H := ite_f H
        replace H := app_hid H
        obtain rfl := ret_hid H
        go_wp2_with fail
        go_ret
        exact ⟨rfl, HBwt_13.out⟩
      | true =>
        replace H := ite_t H
        replace H := bind_hid H
        obtain ⟨t_18, qt_18, H⟩ := H
        go_wp2_with fail
        go_at_call 74
        refine (Go.Proofs.Ytkinlkmmelkdnaa.GiIsDay.C (r_0_from_)  _    qt_18).mono ?_
        rintro e_t_18 wt_18 ⟨rfl, bt_18⟩
        have HBwt_18 := Lib.hid (Below.step HBwt_13.out bt_18)
        replace kr_0_0 := cell_below bt_18 kr_0_0
        replace kr_0_1 := cell_below bt_18 kr_0_1
        replace kr_0_2 := cell_below bt_18 kr_0_2
        replace kr_0_3 := cell_below bt_18 kr_0_3
        replace kr_0_4 := cell_below bt_18 kr_0_4
        clear bt_18
        replace H := app_hid H
        replace H := join_hid H
        cases t_18 with
        | false =>
          replace H := ite_f H
          replace H := app_hid H
          replace H := join_hid H
          replace H := ite_f H
          replace H := app_hid H
          obtain rfl := ret_hid H
          go_wp2_with fail
          go_ret
          exact ⟨rfl, HBwt_18.out⟩
        | true =>
          replace H := ite_t H
          replace H := bind_hid H
          obtain ⟨t_23, qt_23, H⟩ := H
          go_wp2_with fail
          go_at_call 74
          refine (Go.Proofs.Ytkinlkmmelkdnaa.GiIsDay.C (r_0_until_)  _    qt_23).mono ?_
          rintro e_t_23 wt_23 ⟨rfl, bt_23⟩
          have HBwt_23 := Lib.hid (Below.step HBwt_18.out bt_23)
          replace kr_0_0 := cell_below bt_23 kr_0_0
          replace kr_0_1 := cell_below bt_23 kr_0_1
          replace kr_0_2 := cell_below bt_23 kr_0_2
          replace kr_0_3 := cell_below bt_23 kr_0_3
          replace kr_0_4 := cell_below bt_23 kr_0_4
          clear bt_23
          replace H := app_hid H
          replace H := join_hid H
          cases t_23 with
          | false =>
            replace H := ite_f H
            replace H := app_hid H
            obtain rfl := ret_hid H
            go_wp2_with fail
            go_ret
            exact ⟨rfl, HBwt_23.out⟩
          | true =>
            replace H := ite_t H
            replace H := let_hid H
            obtain ⟨t_30, ht_30, H⟩ := H
            replace H := app_hid H
            obtain rfl := ret_hid H
            go_wp2_with fail
            go_ret
            exact ⟨rfl, HBwt_23.out⟩
end Go.Proofs.Ytkinlkmmelkdnaa.GiIsRate

/- Plain words on the record rateClass: its fields, its cells, a list of it as cells one after the other. No condition. -/
namespace Go.Proofs.Ytkinlkmmelkdnaa.PrateClass
set_option linter.unusedVariables false
set_option maxRecDepth 100000

structure rateClass where
  zone : Int
  grams : Int
def rateClass.cells (s : rateClass) : List Value := [.int .i64 s.zone, .int .i64 s.grams]
def rateClass.val (s : rateClass) : Value := .agg #[.int .i64 s.zone, .int .i64 s.grams]
/-- each field fits -/
def rateClass.fits (s : rateClass) : Prop := (Lit.int .i64 s.zone).wf = true ∧ (Lit.int .i64 s.grams).wf = true
def zero : rateClass := ⟨0, 0⟩
/-- the letters of its texts -/
def rateClass.wt (s : rateClass) : Nat := 0
def wts (l : List rateClass) : Nat := (l.map rateClass.wt).sum
theorem wts_snoc (l : List rateClass) (s : rateClass) : wts (l ++ [s]) = wts l + s.wt := by unfold wts; simp [List.sum_append]
theorem wts_succ {l : List rateClass} {k : Nat} {s : rateClass} (h : l[k]? = some s) : wts (l.take (k + 1)) = wts (l.take k) + s.wt := by
  have hk := List.getElem?_eq_some_iff.1 h
  rw [List.take_succ_eq_append_getElem hk.1, hk.2, wts_snoc]
theorem wts_take (l : List rateClass) (k : Nat) : wts (l.take k) ≤ wts l := by
  have : wts l = wts (l.take k) + wts (l.drop k) := by
    unfold wts; rw [← List.sum_append, ← List.map_append, List.take_append_drop]
  omega
theorem wts_all (l : List rateClass) : wts (l.take l.length) = wts l := by rw [List.take_of_length_le (Nat.le_refl _)]

/-- the cells of a list of records, one after the other -/
def flat (l : List rateClass) : List Value := l.flatMap rateClass.cells
theorem flat_nil : flat [] = [] := rfl
theorem flat_cons (s : rateClass) (l : List rateClass) : flat (s :: l) = s.cells ++ flat l := by simp [flat]
theorem flat_snoc (l : List rateClass) (s : rateClass) : flat (l ++ [s]) = flat l ++ s.cells := by simp [flat]
theorem flat_len (l : List rateClass) : (flat l).length = l.length * 2 := by
  induction l with
  | nil => rfl
  | cons s l ih => rw [flat_cons, List.length_append, ih]; simp [rateClass.cells]; omega
theorem flat_at : ∀ (l : List rateClass) (k : Nat) (s : rateClass), l[k]? = some s → ∀ j, j < 2 → (flat l)[k * 2 + j]? = s.cells[j]?
  | [], k, s, h, _, _ => by simp at h
  | r :: l, 0, s, h, j, hj => by
    obtain rfl : r = s := by simpa using h
    rw [flat_cons, List.getElem?_append_left (by simp [rateClass.cells]; omega)]; simp
  | r :: l, k + 1, s, h, j, hj => by
    rw [flat_cons, List.getElem?_append_right (by simp [rateClass.cells]; omega), show (k + 1) * 2 + j - r.cells.length = k * 2 + j by simp [rateClass.cells]; omega]
    exact flat_at l k s (by simpa using h) j hj
end Go.Proofs.Ytkinlkmmelkdnaa.PrateClass

/- A record rateClass opened into its fields. No condition. -/
namespace Go.Proofs.Ytkinlkmmelkdnaa.GoP
set_option linter.unusedVariables false
open Go.RowKit
def unrateClass {ρ : Type} (s : Go.Proofs.Ytkinlkmmelkdnaa.PrateClass.rateClass) (f : Int → Int → Option ρ) : Option ρ := f s.zone s.grams
theorem unrateClass_hid {ρ : Type} {x0 : Int} {x1 : Int} {f : Int → Int → Option ρ} {r : ρ} (H : Hid (unrateClass ⟨x0, x1⟩ f = some r)) : Hid (f x0 x1 = some r) := H
end Go.Proofs.Ytkinlkmmelkdnaa.GoP

/- The contracts of the laws' helpers on slices of ints: toIntS, eqIntS, markIntS, heldIntS. Condition: the slice reads as a list of ints. -/
namespace Go.Proofs.Ytkinlkmmelkdnaa.HelpInt
set_option linter.unusedVariables false
open Go.RowKit
open Go.Proofs.Ytkinlkmmelkdnaa.Rowed

/-- ints as values -/
def iv (l : List Int) : List Value := l.map (Value.int .i64)
theorem iv_len (l : List Int) : (iv l).length = l.length := by simp [iv]
theorem iv_at (l : List Int) (k : Nat) : (iv l)[k]? = (l[k]?).map (Value.int .i64) := by simp [iv]
theorem iv_snoc (l : List Int) (x : Int) : iv (l ++ [x]) = iv l ++ [.int .i64 x] := by simp [iv]
/-- the slice 'A, n' reads as the ints l -/
abbrev Ints (w : World) (A : Option Addr) (n : Nat) (l : List Int) : Prop := Cells w 1 A n (iv l)
theorem add_none (b o n : Nat) : (⟨b, o, none⟩ : Addr).add n = ⟨b, o + n, none⟩ := by
  unfold Addr.add; split
  · rename_i h; subst h; rfl
  · rfl
theorem Ints.at_ {w : World} {A : Option Addr} {n k : Nat} {l : List Int} (h : Ints w A n l) (hk : k < n) : ∃ (b o : Nat) (x : Int), A = some ⟨b, o, none⟩ ∧ l[k]? = some x ∧ w.cell? ⟨b, o + k, none⟩ = some (.int .i64 x) := by
  have hl : k < l.length := by have := h.1; rw [iv_len] at this; omega
  obtain ⟨⟨b, o, sp⟩, e, hc⟩ := h.2 (by rw [iv_len]; omega)
  have h0 := hc 0 _ (by rw [iv_at, List.getElem?_eq_getElem (show 0 < l.length by omega)]; rfl)
  obtain rfl : sp = none := cell_spot (b := b) (o := o) h0
  have hs := List.getElem?_eq_getElem hl
  have := hc k (.int .i64 l[k]) (by rw [iv_at, hs]; rfl)
  rw [add_none] at this
  exact ⟨b, o, l[k], e, hs, this⟩

set_option maxHeartbeats 800000 in
/-- eqIntS, where both slices hold the same ints -/
theorem eq_same (A B : Option Addr) (n c d : Nat) (l : List Int) (w : World) (h1 : Ints w A n l) (h2 : Ints w B n l) (hn : n ≤ 9223372036854775807) :
    Calls Try.prog 36 #[.slice A n c, .slice B n d] w fun e w' => e = .returned (.bool true) ∧ DrawnTo w w' := by
  have H1 := Lib.hid h1
  have H2 := Lib.hid h2
  clear h1 h2
  go_enter Try.func36, Try.ntmps36
  go_wp2
  go_loopw [5] (fun i wr => ∃ k : Nat, k ≤ n ∧ i = .int .i64 k ∧ DrawnTo w wr) (fun i _ => n - (intOf i).toNat)
  case atStart => exact ⟨0, Nat.zero_le _, rfl, 0, rfl⟩
  case round =>
    obtain ⟨k, hk, rfl, m, rfl⟩ := hrel
    by_cases hlt : k < n
    · obtain ⟨ab, ao, x, rfl, hx, hc1⟩ := Ints.at_ H1.out hlt
      obtain ⟨bb, bo, y, rfl, hy, hc2⟩ := Ints.at_ H2.out hlt
      obtain rfl : x = y := by rw [hx] at hy; exact Option.some.inj hy
      clear hx hy
      have hb1 : 0 ≤ (k : Int) := by omega
      have hb2 : (k : Int) < n := by omega
      go_wp2_with fail
      go_quiet (fail)
      go_wp2_with fail
      go_roundw
      case rel => exact ⟨k + 1, by omega, by go_num, _, rfl⟩
      case measure => simp [intOf]; omega
    · go_wp2
      go_ret
      exact ⟨rfl, m, rfl⟩

/-- the marks k, k + 1, .. -/
def imarks (k n : Nat) : List Value := (List.range n).map fun i => Value.int .i64 ((k + i : Nat) : Int)
theorem imarks_len (k n : Nat) : (imarks k n).length = n := by simp [imarks]
theorem imarks_at (k n i : Nat) (h : i < n) : (imarks k n)[i]? = some (.int .i64 ((k + i : Nat) : Int)) := by
  unfold imarks; rw [List.getElem?_map, List.getElem?_range h]; rfl
theorem grown_of {W W' : World} (h : Below W.heap.size W W') : W.grownBy W' none := ⟨h.os, h.tape, h.output, h.size, fun k hk _ => h.block k hk⟩
theorem grown_tr {a b c : World} {r : Option Nat} (h : a.grownBy b r) (k : b.grownBy c r) : a.grownBy c r :=
  ⟨k.os.trans h.os, k.tape.trans h.tape, k.output.trans h.output, Nat.le_trans h.size k.size, fun i hi hr => (k.block i (Nat.lt_of_lt_of_le hi h.size) hr).trans (h.block i hi hr)⟩
theorem grown_refl (w : World) (r : Option Nat) : w.grownBy w r := ⟨rfl, rfl, rfl, Nat.le_refl _, fun _ _ _ => rfl⟩

def MarkRel (w : World) (base n c k : Nat) (A : Option Addr) (xs : List Value) (i : Nat) (wr : World) : Prop :=
  wr.ownsRow base 3 1 (.slice A n c) n (fill (imarks k n) xs i) ∧ w.grownBy wr (Value.slice A n c).ownBlock

theorem mark_next {w wr : World} {base n c k i : Nat} {A : Option Addr} {xs : List Value} (h : MarkRel w base n c k A xs i wr) (hxs : xs.length = n) (hi : i < n) :
    ∃ g y, A = some ⟨g, 0, none⟩ ∧ wr.cell? ⟨g, i, none⟩ = some y ∧ wr.frozen? ⟨g, i, none⟩ = false ∧ MarkRel w base n c k A xs (i + 1) (wr.setCell ⟨g, i, none⟩ (.int .i64 ((k + i : Nat) : Int))) := by
  obtain ⟨g, rfl⟩ : ∃ g, A = some ⟨g, 0, none⟩ := by
    rcases h.1.2 with ⟨_, h0⟩ | ⟨g, cap, cur, hv, _⟩
    · omega
    · injection hv with h1 h2 h3; exact ⟨g, h1⟩
  have h1 := h.1
  have hlen : (fill (imarks k n) xs i).length = n := by rw [fill_len _ _ _ (by rw [imarks_len, hxs])]; exact hxs
  have hc := h1.cellAt i (by omega)
  rw [List.getElem?_eq_getElem (by omega)] at hc
  refine ⟨g, _, rfl, hc, h1.frozenAt i, ?_, ?_⟩
  · have := (h1.stored i (.int .i64 ((k + i : Nat) : Int))).1
    rw [fill_set _ _ _ _ (by omega) (imarks_at k n i hi)] at this
    exact this
  · exact grown_tr h.2 (h1.stored i (.int .i64 ((k + i : Nat) : Int))).2

def MarkPost (w : World) (base n c k : Nat) (A : Option Addr) (e : Ending) (w' : World) : Prop :=
  e = .returned (.int .i64 ((k + n : Nat) : Int)) ∧ w'.ownsRow base 3 1 (.slice A n c) n (imarks k n) ∧ w.grownBy w' (Value.slice A n c).ownBlock

set_option maxHeartbeats 1000000 in
theorem mark_any (w : World) (base n c k : Nat) (A : Option Addr) (xs : List Value) (h : w.ownsRow base 3 1 (.slice A n c) n xs) (hn : n ≤ 1048576) (hk2 : k ≤ 100000000000) :
    Calls Try.prog 37 #[.slice A n c, .int .i64 (k : Int)] w (MarkPost w base n c k A) := by
  have hxs : Hid (xs.length = n) := Lib.hid (by have := h.1; omega)
  have HR0 : Hid (MarkRel w base n c k A xs 0 w) := Lib.hid ⟨by rw [fill_zero]; exact h, grown_refl _ _⟩
  clear h
  go_enter Try.func37, Try.ntmps37
  go_wp2_with fail
  go_loopw [1, 5] (fun t i wr => ∃ j : Nat, j ≤ n ∧ i = .int .i64 j ∧ t = .int .i64 ((k + j : Nat) : Int) ∧ Hid (MarkRel w base n c k A xs j wr)) (fun _ i _ => n - (intOf i).toNat)
  case atStart => exact ⟨0, Nat.zero_le _, rfl, rfl, HR0⟩
  case round =>
    obtain ⟨j, hj, rfl, rfl, HR⟩ := hrel
    by_cases hlt : j < n
    · obtain ⟨g, y, rfl, hc, hf, hR1⟩ := mark_next HR.out hxs.out hlt
      have HR1 := Lib.hid hR1
      clear hR1
      go_wp2_with fail
      go_roundw
      case rel => exact ⟨j + 1, by omega, by go_num, by go_num, HR1⟩
      case measure => simp [intOf]; omega
    · obtain rfl : j = n := by omega
      have HF := Lib.hid HR.out.1
      go_wp2_with fail
      go_ret
      exact ⟨rfl, by rw [← fill_all (imarks k j) xs (by rw [imarks_len]; exact hxs.out), imarks_len]; exact HF.out, HR.out.2⟩

set_option maxHeartbeats 1000000 in
theorem held_any (w : World) (n c k : Nat) (A : Option Addr) (h : Cells w 1 A n (imarks k n)) (hn : n ≤ 1048576) (hk2 : k ≤ 100000000000) :
    Calls Try.prog 38 #[.slice A n c, .int .i64 (k : Int)] w fun e w' => e = .returned (.int .i64 ((k + n : Nat) : Int)) ∧ w = w' := by
  have HH : Hid (Ints w A n ((List.range n).map fun i => ((k + i : Nat) : Int))) := Lib.hid (by show Cells w 1 A n _; unfold iv; rw [List.map_map]; exact h)
  clear h
  go_enter Try.func38, Try.ntmps38
  go_wp2_with fail
  go_loop [1, 5] (fun t i => ∃ j : Nat, j ≤ n ∧ i = .int .i64 j ∧ t = .int .i64 ((k + j : Nat) : Int)) (fun _ i => n - (intOf i).toNat)
  case atStart => exact ⟨0, Nat.zero_le _, rfl, rfl⟩
  case round =>
    obtain ⟨j, hj, rfl, rfl⟩ := hrel
    by_cases hlt : j < n
    · obtain ⟨ab, ao, x, rfl, hx, hc⟩ := Ints.at_ HH.out hlt
      rw [List.getElem?_map, List.getElem?_range hlt] at hx
      obtain rfl : ((k + j : Nat) : Int) = x := by simpa using hx
      clear hx
      go_wp2_with fail
      go_round
      case rel => exact ⟨j + 1, by omega, by go_num, by go_num⟩
      case measure => simp [intOf]; omega
    · obtain rfl : j = n := by omega
      go_wp2_with fail
      go_ret
      exact ⟨rfl, rfl⟩

/-- a slice that is owned, as a slice that reads -/
theorem own_cells {w : World} {base n c size : Nat} {A : Option Addr} {e : TypeId} {xs : List Value} (h : w.ownsRow base e size (.slice A n c) n xs) : Cells w size A n xs := by
  rcases h.2 with ⟨hv, h0⟩ | ⟨g, cap, cur, hv, _⟩
  · subst h0
    have := h.1
    exact ⟨h.1, fun hn => by omega⟩
  · injection hv with h1 h2 h3
    subst h1
    exact Cells.of_own h
theorem own_base_le {w : World} {base n c size b : Nat} {A : Option Addr} {e : TypeId} {xs : List Value} (h : w.ownsRow base e size (.slice A n c) n xs) (hb : (Value.slice A n c).ownBlock = some b) : base ≤ b ∧ b < w.heap.size := h.lt b hb
theorem own_below {w w' : World} {base n c size : Nat} {A : Option Addr} {e : TypeId} {xs : List Value} (h : w.ownsRow base e size (.slice A n c) n xs) (hb : Below w.heap.size w w') : w'.ownsRow base e size (.slice A n c) n xs :=
  h.kept (grown_of hb) (by cases (Value.slice A n c).ownBlock <;> simp)
/-- what is written is another block -/
theorem own_grown {w w' : World} {base n c size : Nat} {A : Option Addr} {e : TypeId} {xs : List Value} {r : Option Nat} (h : w.ownsRow base e size (.slice A n c) n xs) (hg : w.grownBy w' r) (hne : ∀ b, (Value.slice A n c).ownBlock = some b → r ≠ some b) : w'.ownsRow base e size (.slice A n c) n xs := by
  refine h.kept hg ?_
  cases ho : (Value.slice A n c).ownBlock with
  | none => exact .inl rfl
  | some b => exact .inr (fun e => hne b ho e.symm)
theorem cells_grown {w w' : World} {size n : Nat} {A : Option Addr} {xs : List Value} {r : Option Nat} (h : Cells w size A n xs) (hg : w.grownBy w' r) (hne : ∀ a, A = some a → r ≠ some a.block) : Cells w' size A n xs :=
  ⟨h.1, fun hn => by
    obtain ⟨ad, rfl, hc⟩ := h.2 hn
    exact ⟨_, rfl, fun j u hu => hg.cell (hc j u hu) (by rw [add_block]; exact fun e => hne ad rfl e.symm)⟩⟩
end Go.Proofs.Ytkinlkmmelkdnaa.HelpInt

/- loop.example/g01062/impl.classOf as a plain function, and the contract of the program's: where the plain one has an answer, the program has it. Conditions: slices read as lists. -/
namespace Go.Proofs.Ytkinlkmmelkdnaa.GiClassOf
set_option linter.unusedVariables false
set_option linter.unusedSimpArgs false
open Go.RowKit
open Go.Proofs.Ytkinlkmmelkdnaa.Rowed Go.Proofs.Ytkinlkmmelkdnaa.Turn Go.Proofs.Ytkinlkmmelkdnaa.Aid Go.Proofs.Ytkinlkmmelkdnaa.GoP Go.Proofs.Ytkinlkmmelkdnaa.GoM

def P (r_0 : Go.Proofs.Ytkinlkmmelkdnaa.PRate.Rate) : Option (Go.Proofs.Ytkinlkmmelkdnaa.PrateClass.rateClass) :=
  unRate r_0 fun (r_0_zone : Int) (r_0_grams : Int) (r_0_from_ : Int) (r_0_until_ : Int) (r_0_cents : Int) =>
  some (Go.Proofs.Ytkinlkmmelkdnaa.PrateClass.rateClass.mk r_0_zone r_0_grams)

set_option maxRecDepth 100000 in
set_option maxHeartbeats 2000000 in
theorem C (r_0 : Go.Proofs.Ytkinlkmmelkdnaa.PRate.Rate)   (w : World)   {r : Go.Proofs.Ytkinlkmmelkdnaa.PrateClass.rateClass} (H : Hid (P r_0 = some r)) :
    Calls Try.prog 91 #[r_0.val] w (Gives ((Go.Proofs.Ytkinlkmmelkdnaa.PrateClass.rateClass.val r)) w) := by
  have HB := Lib.hid (Below.refl w.heap.size w)
  unfold P at H
  obtain ⟨r_0_zone, r_0_grams, r_0_from_, r_0_until_, r_0_cents⟩ := r_0
  replace H := unRate_hid H
  unfold Go.Proofs.Ytkinlkmmelkdnaa.PRate.Rate.val
  go_enter Try.func91, Try.ntmps91
  obtain ⟨w_r_0, hw_r_0⟩ : ∃ x, w.alloc (.cells #[.int .i64 r_0_zone, .int .i64 r_0_grams, .int .i64 r_0_from_, .int .i64 r_0_until_, .int .i64 r_0_cents] 25) = x := ⟨_, rfl⟩
  have bw_r_0 : Below w.heap.size w w_r_0 := by rw [← hw_r_0]; exact (Below.refl _ _).alloc (Nat.le_refl _) _
  have HBw_r_0 := Lib.hid (Below.step HB.out bw_r_0)
  clear bw_r_0
  have kr_0_0 : w_r_0.cell? ⟨w.heap.size, 0, none⟩ = some (.int .i64 r_0_zone) := by rw [← hw_r_0]; exact box_new _ _ _ 0 _ rfl
  have kr_0_1 : w_r_0.cell? ⟨w.heap.size, 1, none⟩ = some (.int .i64 r_0_grams) := by rw [← hw_r_0]; exact box_new _ _ _ 1 _ rfl
  have kr_0_2 : w_r_0.cell? ⟨w.heap.size, 2, none⟩ = some (.int .i64 r_0_from_) := by rw [← hw_r_0]; exact box_new _ _ _ 2 _ rfl
  have kr_0_3 : w_r_0.cell? ⟨w.heap.size, 3, none⟩ = some (.int .i64 r_0_until_) := by rw [← hw_r_0]; exact box_new _ _ _ 3 _ rfl
  have kr_0_4 : w_r_0.cell? ⟨w.heap.size, 4, none⟩ = some (.int .i64 r_0_cents) := by rw [← hw_r_0]; exact box_new _ _ _ 4 _ rfl
  obtain ⟨w_t_1, hw_t_1⟩ : ∃ x, w_r_0.alloc (.cells #[.int .i64 0, .int .i64 0] 95) = x := ⟨_, rfl⟩
  have bw_t_1 : Below w_r_0.heap.size w_r_0 w_t_1 := by rw [← hw_t_1]; exact (Below.refl _ _).alloc (Nat.le_refl _) _
  have Dt_1_r_0 := Lib.hid (apart_box kr_0_0)
  have HBw_t_1 := Lib.hid (Below.step HBw_r_0.out bw_t_1)
  have kr_0_0__989 := cell_below bw_t_1 kr_0_0
  have kr_0_1__990 := cell_below bw_t_1 kr_0_1
  have kr_0_2__991 := cell_below bw_t_1 kr_0_2
  have kr_0_3__992 := cell_below bw_t_1 kr_0_3
  have kr_0_4__993 := cell_below bw_t_1 kr_0_4
  clear bw_t_1
  have kt_1_0 : w_t_1.cell? ⟨w_r_0.heap.size, 0, none⟩ = some (.int .i64 0) := by rw [← hw_t_1]; exact box_new _ _ _ 0 _ rfl
  have kt_1_1 : w_t_1.cell? ⟨w_r_0.heap.size, 1, none⟩ = some (.int .i64 0) := by rw [← hw_t_1]; exact box_new _ _ _ 1 _ rfl
  have Ot_1 : Hid (w_t_1.ownsRow w.heap.size 95 2 (.slice (some ⟨w_r_0.heap.size, 0, none⟩) 1 1) 1 [.int .i64 0, .int .i64 0]) := Lib.hid (by rw [← hw_t_1]; exact own_laid (n := 1) HBw_r_0.out.size rfl rfl (by unfold maxLen; omega))
  obtain ⟨wb7_7, hwb7_7⟩ : ∃ x, ((w_t_1).setCell ⟨w_r_0.heap.size, 0, none⟩ (.int .i64 r_0_zone)).setCell ⟨w_r_0.heap.size, 1, none⟩ (.int .i64 r_0_grams) = x := ⟨_, rfl⟩
  have z0b7_7 := Ot_1.out.frozenAt 0
  have z1b7_7 := Ot_1.out.frozenAt 1
  have Sb7_7 := Lib.hid (own_stores [(0, .int .i64 r_0_zone), (1, .int .i64 r_0_grams)] Ot_1.out)
  have Pb7_7 : Hid (wb7_7.ownsRow w.heap.size 95 2 (.slice (some ⟨w_r_0.heap.size, 0, none⟩) 1 1) 1 [.int .i64 r_0_zone, .int .i64 r_0_grams]) := Lib.hid (by rw [← hwb7_7]; exact Sb7_7.out.1)
  have Gb7_7 : Hid (w_t_1.grownBy wb7_7 (Value.slice (some ⟨w_r_0.heap.size, 0, none⟩) 1 1).ownBlock) := Lib.hid (by rw [← hwb7_7]; exact Sb7_7.out.2)
  have HBwb7_7 := Lib.hid (HBw_t_1.out.grown Gb7_7.out HBw_t_1.out.size (fun q hq => (Ot_1.out.lt q hq).1))
  clear Sb7_7
  have kr_0_0__994 := cell_other kr_0_0__989 Gb7_7.out Dt_1_r_0.out
  have kr_0_1__995 := cell_other kr_0_1__990 Gb7_7.out Dt_1_r_0.out
  have kr_0_2__996 := cell_other kr_0_2__991 Gb7_7.out Dt_1_r_0.out
  have kr_0_3__997 := cell_other kr_0_3__992 Gb7_7.out Dt_1_r_0.out
  have kr_0_4__998 := cell_other kr_0_4__993 Gb7_7.out Dt_1_r_0.out
  clear Ot_1 Gb7_7
  have kt_1_0__999 : wb7_7.cell? ⟨w_r_0.heap.size, 0, none⟩ = some (.int .i64 r_0_zone) := Pb7_7.out.cells rfl 0 _ rfl
  have kt_1_1__1000 : wb7_7.cell? ⟨w_r_0.heap.size, 1, none⟩ = some (.int .i64 r_0_grams) := Pb7_7.out.cells rfl 1 _ rfl
  cases ret_hid H
  go_wp2_with fail
  (try simp only [Exit.inBlock, Exit.then])
  refine bodyPost_ret (v := .agg #[.int .i64 r_0_zone, .int .i64 r_0_grams]) ?hr_ ?hd_ ?_
  case hd_ => rfl
  case hr_ => simp [results, Try.results91, kt_1_0__999, kt_1_1__1000, go_sem]
  exact ⟨rfl, HBwb7_7.out⟩
end Go.Proofs.Ytkinlkmmelkdnaa.GiClassOf

/- cmp.isNaN[int] as a plain function, and the contract of the program's: where the plain one has an answer, the program has it. Conditions: slices read as lists. -/
namespace Go.Proofs.Ytkinlkmmelkdnaa.GxCmpIsNaNInt
set_option linter.unusedVariables false
set_option linter.unusedSimpArgs false
open Go.RowKit
open Go.Proofs.Ytkinlkmmelkdnaa.Rowed Go.Proofs.Ytkinlkmmelkdnaa.Turn Go.Proofs.Ytkinlkmmelkdnaa.Aid Go.Proofs.Ytkinlkmmelkdnaa.GoP Go.Proofs.Ytkinlkmmelkdnaa.GoM

def P (x : Int) : Option (Bool) :=
  some false

set_option maxRecDepth 100000 in
set_option maxHeartbeats 2000000 in
theorem C (x : Int)   (w : World)   {r : Bool} (H : Hid (P x = some r)) :
    Calls Try.prog 137 #[.int .i64 x] w (Gives (.bool r) w) := by
  have HB := Lib.hid (Below.refl w.heap.size w)
  unfold P at H
  go_enter Try.func137, Try.ntmps137
  obtain rfl := ret_hid H
  go_wp2_with fail
  go_ret
  exact ⟨rfl, HB.out⟩

set_option maxRecDepth 100000 in
set_option maxHeartbeats 2000000 in
theorem C0 (x : Int)   (w : World)   {r : Bool} (H : Hid (P x = some r)) :
    Calls Try.prog 137 #[.int .i64 x] w (fun e w'' => e = .returned (.bool r) ∧ w'' = w) := by
  have HB := Lib.hid (Below.refl w.heap.size w)
  unfold P at H
  go_enter Try.func137, Try.ntmps137
  obtain rfl := ret_hid H
  go_wp2_with fail
  go_ret
  exact ⟨rfl, rfl⟩
end Go.Proofs.Ytkinlkmmelkdnaa.GxCmpIsNaNInt

/- cmp.Compare[int] as a plain function, and the contract of the program's: where the plain one has an answer, the program has it. Conditions: slices read as lists. -/
namespace Go.Proofs.Ytkinlkmmelkdnaa.GxCmpCompareInt
set_option linter.unusedVariables false
set_option linter.unusedSimpArgs false
open Go.RowKit
open Go.Proofs.Ytkinlkmmelkdnaa.Rowed Go.Proofs.Ytkinlkmmelkdnaa.Turn Go.Proofs.Ytkinlkmmelkdnaa.Aid Go.Proofs.Ytkinlkmmelkdnaa.GoP Go.Proofs.Ytkinlkmmelkdnaa.GoM

def P (x : Int) (y : Int) : Option (Int) :=
  Option.bind (Go.Proofs.Ytkinlkmmelkdnaa.GxCmpIsNaNInt.P x) fun (t_2 : Bool) =>
  Option.bind (Go.Proofs.Ytkinlkmmelkdnaa.GxCmpIsNaNInt.P y) fun (t_5 : Bool) =>
  iteK t_2
  (iteK t_5
  (some 0)
  (some (-1)))
  (iteK t_5
  (some 1)
  (letK (decide (x < y)) fun (t_15 : Bool) =>
  iteK t_15
  (some (-1))
  (letK (decide (y < x)) fun (t_19 : Bool) =>
  iteK t_19
  (some 1)
  (some 0))))

set_option maxRecDepth 100000 in
set_option maxHeartbeats 2000000 in
theorem C (x : Int) (y : Int)   (w : World)   {r : Int} (H : Hid (P x y = some r)) :
    Calls Try.prog 111 #[.int .i64 x, .int .i64 y] w (Gives (.int .i64 r) w) := by
  have HB := Lib.hid (Below.refl w.heap.size w)
  unfold P at H
  go_enter Try.func111, Try.ntmps111
  replace H := bind_hid H
  obtain ⟨t_2, qt_2, H⟩ := H
  go_wp2_with fail
  go_at_call 137
  refine (Go.Proofs.Ytkinlkmmelkdnaa.GxCmpIsNaNInt.C (x)  _    qt_2).mono ?_
  rintro e_t_2 wt_2 ⟨rfl, bt_2⟩
  have HBwt_2 := Lib.hid (Below.step HB.out bt_2)
  clear bt_2
  replace H := bind_hid H
  obtain ⟨t_5, qt_5, H⟩ := H
  go_wp2_with fail
  go_at_call 137
  refine (Go.Proofs.Ytkinlkmmelkdnaa.GxCmpIsNaNInt.C (y)  _    qt_5).mono ?_
  rintro e_t_5 wt_5 ⟨rfl, bt_5⟩
  have HBwt_5 := Lib.hid (Below.step HBwt_2.out bt_5)
  clear bt_5
  cases t_2 with
  | false =>
    replace H := ite_f H
    cases t_5 with
    | false =>
      replace H := ite_f H
      replace H := let_hid H
      obtain ⟨t_15, ht_15, H⟩ := H
      cases t_15 with
      | false =>
        replace H := ite_f H
        replace H := let_hid H
        obtain ⟨t_19, ht_19, H⟩ := H
        cases t_19 with
        | false =>
          replace H := ite_f H
          obtain rfl := ret_hid H
          go_wp2_with fail
          go_ret
          exact ⟨rfl, HBwt_5.out⟩
        | true =>
          replace H := ite_t H
          obtain rfl := ret_hid H
          go_wp2_with fail
          go_ret
          exact ⟨rfl, HBwt_5.out⟩
      | true =>
        replace H := ite_t H
        obtain rfl := ret_hid H
        go_wp2_with fail
        go_ret
        exact ⟨rfl, HBwt_5.out⟩
    | true =>
      replace H := ite_t H
      obtain rfl := ret_hid H
      go_wp2_with fail
      go_ret
      exact ⟨rfl, HBwt_5.out⟩
  | true =>
    replace H := ite_t H
    cases t_5 with
    | false =>
      replace H := ite_f H
      obtain rfl := ret_hid H
      go_wp2_with fail
      go_ret
      exact ⟨rfl, HBwt_5.out⟩
    | true =>
      replace H := ite_t H
      obtain rfl := ret_hid H
      go_wp2_with fail
      go_ret
      exact ⟨rfl, HBwt_5.out⟩
end Go.Proofs.Ytkinlkmmelkdnaa.GxCmpCompareInt

/- cmp.Or[int] as a plain function, and the contract of the program's: where the plain one has an answer, the program has it. Conditions: slices read as lists. -/
namespace Go.Proofs.Ytkinlkmmelkdnaa.GxCmpOrInt
set_option linter.unusedVariables false
set_option linter.unusedSimpArgs false
open Go.RowKit
open Go.Proofs.Ytkinlkmmelkdnaa.Rowed Go.Proofs.Ytkinlkmmelkdnaa.Turn Go.Proofs.Ytkinlkmmelkdnaa.Aid Go.Proofs.Ytkinlkmmelkdnaa.GoP Go.Proofs.Ytkinlkmmelkdnaa.GoM

def l0 (vals : (List Int)) (k0 : Nat) (s : Unit) (nx0 bk0 : Unit → Option (Int)) : Option (Int) :=
  
  Option.bind (idx vals (k0 : Int)) fun (yt_6 : Int) =>
  letK (yt_6 != 0) fun (t_11 : Bool) =>
  iteK t_11
  (some yt_6)
  (appK nx0 ())

def e0  (s : Unit) : Option (Int) :=
  
  some 0

def P (vals : (List Int)) : Option (Int) :=
  cntK (l0 vals) (vals.length) 0 () (e0 )

set_option maxRecDepth 100000 in
set_option maxHeartbeats 2000000 in
theorem C (vals : (List Int)) (A0 : Option Addr) (c0 : Nat)  (w : World) (M0 : Hid (Cells w 1 A0 vals.length (Go.Proofs.Ytkinlkmmelkdnaa.HelpInt.iv vals))) (N0 : Hid (vals.length ≤ 9223372036854775807))  {r : Int} (H : Hid (P vals = some r)) :
    Calls Try.prog 110 #[.slice A0 vals.length c0] w (Gives (.int .i64 r) w) := by
  have HB := Lib.hid (Below.refl w.heap.size w)
  unfold P at H
  have N0o := N0.out
  go_enter Try.func110, Try.ntmps110
  go_wp2_with fail
  go_loopg [8] (vals.length) (fun m_ v8_ wr => ∃ (k0 : Nat) , k0 + m_ = vals.length ∧ v8_ = .int .i64 (k0 : Int) ∧ Hid (cntK (l0 vals) m_ k0 () (e0 ) = some r) ∧ Hid (Below w.heap.size w wr))
  case atStart => exact ⟨0, by omega, rfl, H, HB⟩
  case round =>
    obtain ⟨k0, hkm0, rfl, H, HBwr0⟩ := hrel
    rename World => wr0
    cases gk with
    | zero =>
      obtain rfl : k0 = vals.length := by omega
      have hc0 : decide (((vals.length : Nat) : Int) < ((vals.length : Nat) : Int)) = false := by simp
      replace H := cnt_zero H
      unfold e0 at H
      obtain rfl := ret_hid H
      go_wp2_with fail
      go_ret
      exact ⟨rfl, HBwr0.out⟩
    | succ m0 =>
      have hlt0 : k0 < vals.length := by omega
      have hc0 : decide ((k0 : Int) < ((vals.length : Nat) : Int)) = true := by simp; omega
      replace H := cnt_succ H
      unfold l0 at H
      replace H := idx_hid H
      obtain ⟨nt_6, yt_6, et_6, lt_6, gt_6, H⟩ := H
      obtain rfl : k0 = nt_6 := by omega
      clear et_6
      obtain ⟨ab_t_6, ao_t_6, zt_6, At_6, z_t_6, ct_6_0⟩ := Go.Proofs.Ytkinlkmmelkdnaa.HelpInt.Ints.at_ M0.out lt_6
      obtain rfl := Option.some.inj (gt_6.out.symm.trans z_t_6)
      subst At_6
      have ltt_6 := cell_lt ct_6_0
      replace ct_6_0 := cell_below HBwr0.out ct_6_0
      clear z_t_6
      have b0t_6 : (0 : Int) ≤ (k0 : Int) := by omega
      have b1t_6 : (k0 : Int) < ((vals.length : Nat) : Int) := by omega
      have b2t_6 : ((k0 : Int)).toNat = k0 := by omega
      replace H := let_hid H
      obtain ⟨t_11, ht_11, H⟩ := H
      cases t_11 with
      | false =>
        replace H := ite_f H
        replace H := app_hid H
        go_wp2_with fail
        go_roundg m0
        case measure => omega
        case rel => exact ⟨k0 + 1, by omega, by go_num, H, HBwr0⟩
      | true =>
        replace H := ite_t H
        obtain rfl := ret_hid H
        go_wp2_with fail
        go_ret
        exact ⟨rfl, HBwr0.out⟩
end Go.Proofs.Ytkinlkmmelkdnaa.GxCmpOrInt

/- loop.example/g01062/impl.canFollow as a plain function, and the contract of the program's: where the plain one has an answer, the program has it. Conditions: slices read as lists. -/
namespace Go.Proofs.Ytkinlkmmelkdnaa.GiCanFollow
set_option linter.unusedVariables false
set_option linter.unusedSimpArgs false
open Go.RowKit
open Go.Proofs.Ytkinlkmmelkdnaa.Rowed Go.Proofs.Ytkinlkmmelkdnaa.Turn Go.Proofs.Ytkinlkmmelkdnaa.Aid Go.Proofs.Ytkinlkmmelkdnaa.GoP Go.Proofs.Ytkinlkmmelkdnaa.GoM

def P (r_0 : Go.Proofs.Ytkinlkmmelkdnaa.PRate.Rate) (before : Go.Proofs.Ytkinlkmmelkdnaa.PRate.Rate) : Option (Bool) :=
  unRate r_0 fun (r_0_zone : Int) (r_0_grams : Int) (r_0_from_ : Int) (r_0_until_ : Int) (r_0_cents : Int) =>
  unRate before fun (before_zone : Int) (before_grams : Int) (before_from_ : Int) (before_until_ : Int) (before_cents : Int) =>
  Option.bind (Go.Proofs.Ytkinlkmmelkdnaa.GiClassOf.P (Go.Proofs.Ytkinlkmmelkdnaa.PRate.Rate.mk r_0_zone r_0_grams r_0_from_ r_0_until_ r_0_cents)) fun (t_4 : Go.Proofs.Ytkinlkmmelkdnaa.PrateClass.rateClass) =>
  unrateClass t_4 fun (t_4_zone : Int) (t_4_grams : Int) =>
  Option.bind (Go.Proofs.Ytkinlkmmelkdnaa.GiClassOf.P (Go.Proofs.Ytkinlkmmelkdnaa.PRate.Rate.mk before_zone before_grams before_from_ before_until_ before_cents)) fun (t_6 : Go.Proofs.Ytkinlkmmelkdnaa.PrateClass.rateClass) =>
  unrateClass t_6 fun (t_6_zone : Int) (t_6_grams : Int) =>
  letK (t_4_zone == t_6_zone && t_4_grams == t_6_grams) fun (t_7 : Bool) =>
  iteK t_7
  (letK (decide (before_until_ < r_0_from_)) fun (t_12 : Bool) =>
  some t_12)
  (Option.bind (Go.Proofs.Ytkinlkmmelkdnaa.GxCmpCompareInt.P before_zone r_0_zone) fun (t_18 : Int) =>
  Option.bind (Go.Proofs.Ytkinlkmmelkdnaa.GxCmpCompareInt.P before_grams r_0_grams) fun (t_23 : Int) =>
  letK ([t_18, t_23]) fun (t_24 : (List Int)) =>
  Option.bind (Go.Proofs.Ytkinlkmmelkdnaa.GxCmpOrInt.P t_24) fun (t_25 : Int) =>
  letK (decide (t_25 < 0)) fun (t_26 : Bool) =>
  some t_26)

set_option maxRecDepth 100000
theorem eqr_95 (x0 x1 y0 y1 : Int) : ∀ W, (Op.equalIn 10000 95 (.agg #[Value.int IntKind.i64 x0, Value.int IntKind.i64 x1]) (.agg #[Value.int IntKind.i64 y0, Value.int IntKind.i64 y1])).run Try.prog W = .ok (x0 == y0 && x1 == y1) W := by
  intro W
  rw [run_equalIn_agg W _ _ _ _ (by kernel_rfl) (by kernel_rfl)]
  obtain ⟨f, hf⟩ : ∃ f, (Try.prog.fieldsOf 95).toList = f := ⟨_, rfl⟩
  have : (Try.prog.fieldsOf 95).toList.map (fun f => (f.name, f.type, f.offset)) = [("zone", 3, 0), ("grams", 3, 1)] := by kernel_rfl
  rw [hf] at this ⊢
  match f, this with
  | [f0, f1], h =>
    simp only [List.map_cons, List.map_nil, List.cons.injEq, Prod.mk.injEq, and_true] at h
    obtain ⟨⟨a0, b0, d0⟩, a1, b1, d1⟩ := h
    simp only [Op.eqFields, a0, b0, d0, a1, b1, d1]
    have p0 : ∀ (w : World) (x0 x1 : Int), (part 3 #[Value.int IntKind.i64 x0, Value.int IntKind.i64 x1] 0).run Try.prog w = .ok (.int .i64 x0) w := fun w x0 x1 => run_part_plain w (by kernel_rfl) rfl
    have p1 : ∀ (w : World) (x0 x1 : Int), (part 3 #[Value.int IntKind.i64 x0, Value.int IntKind.i64 x1] 1).run Try.prog w = .ok (.int .i64 x1) w := fun w x0 x1 => run_part_plain w (by kernel_rfl) rfl
    have e0 : ∀ (w : World) (d : Nat) (x y : Int), (Op.equalIn (d + 1) 3 (.int .i64 x) (.int .i64 y)).run Try.prog w = .ok (x == y) w := fun w d x y => run_equalIn_int w d 3 .i64 .i64 x y Try.underlying3
    have e1 : ∀ (w : World) (x y : Int), (Op.equalIn 9999 3 (.int .i64 x) (.int .i64 y)).run Try.prog w = .ok (x == y) w := fun w x y => e0 w 9998 x y
    rw [if_pos (by decide)]; rw [if_pos (by decide)]
    simp only [Sem.run_bind, p0, p1, e1, Result.andThen_ok, Sem.run_ite, Sem.run_pure]
    cases x0 == y0 <;> cases x1 == y1 <;> rfl
theorem eqla_95 (x0 x1 y0 y1 : Int) : ∀ W, (binOp .eql 95 (.agg #[Value.int IntKind.i64 x0, Value.int IntKind.i64 x1]) (.agg #[Value.int IntKind.i64 y0, Value.int IntKind.i64 y1])).run Try.prog W = .ok (.bool (x0 == y0 && x1 == y1)) W := by
  intro W
  rw [run_eql_struct, eqr_95]; rfl
theorem neqa_95 (x0 x1 y0 y1 : Int) : ∀ W, (binOp .neq 95 (.agg #[Value.int IntKind.i64 x0, Value.int IntKind.i64 x1]) (.agg #[Value.int IntKind.i64 y0, Value.int IntKind.i64 y1])).run Try.prog W = .ok (.bool (!(x0 == y0 && x1 == y1))) W := by
  intro W
  rw [run_neq_struct, eqr_95]; rfl

set_option maxRecDepth 100000 in
set_option maxHeartbeats 2000000 in
theorem C (r_0 : Go.Proofs.Ytkinlkmmelkdnaa.PRate.Rate) (before : Go.Proofs.Ytkinlkmmelkdnaa.PRate.Rate)   (w : World)   {r : Bool} (H : Hid (P r_0 before = some r)) :
    Calls Try.prog 76 #[r_0.val, before.val] w (Gives (.bool r) w) := by
  have HB := Lib.hid (Below.refl w.heap.size w)
  unfold P at H
  obtain ⟨r_0_zone, r_0_grams, r_0_from_, r_0_until_, r_0_cents⟩ := r_0
  replace H := unRate_hid H
  obtain ⟨before_zone, before_grams, before_from_, before_until_, before_cents⟩ := before
  replace H := unRate_hid H
  unfold Go.Proofs.Ytkinlkmmelkdnaa.PRate.Rate.val
  go_enter Try.func76, Try.ntmps76
  obtain ⟨w_r_0, hw_r_0⟩ : ∃ x, w.alloc (.cells #[.int .i64 r_0_zone, .int .i64 r_0_grams, .int .i64 r_0_from_, .int .i64 r_0_until_, .int .i64 r_0_cents] 25) = x := ⟨_, rfl⟩
  have bw_r_0 : Below w.heap.size w w_r_0 := by rw [← hw_r_0]; exact (Below.refl _ _).alloc (Nat.le_refl _) _
  have HBw_r_0 := Lib.hid (Below.step HB.out bw_r_0)
  clear bw_r_0
  have kr_0_0 : w_r_0.cell? ⟨w.heap.size, 0, none⟩ = some (.int .i64 r_0_zone) := by rw [← hw_r_0]; exact box_new _ _ _ 0 _ rfl
  have kr_0_1 : w_r_0.cell? ⟨w.heap.size, 1, none⟩ = some (.int .i64 r_0_grams) := by rw [← hw_r_0]; exact box_new _ _ _ 1 _ rfl
  have kr_0_2 : w_r_0.cell? ⟨w.heap.size, 2, none⟩ = some (.int .i64 r_0_from_) := by rw [← hw_r_0]; exact box_new _ _ _ 2 _ rfl
  have kr_0_3 : w_r_0.cell? ⟨w.heap.size, 3, none⟩ = some (.int .i64 r_0_until_) := by rw [← hw_r_0]; exact box_new _ _ _ 3 _ rfl
  have kr_0_4 : w_r_0.cell? ⟨w.heap.size, 4, none⟩ = some (.int .i64 r_0_cents) := by rw [← hw_r_0]; exact box_new _ _ _ 4 _ rfl
  obtain ⟨w_before_1, hw_before_1⟩ : ∃ x, w_r_0.alloc (.cells #[.int .i64 before_zone, .int .i64 before_grams, .int .i64 before_from_, .int .i64 before_until_, .int .i64 before_cents] 25) = x := ⟨_, rfl⟩
  have bw_before_1 : Below w_r_0.heap.size w_r_0 w_before_1 := by rw [← hw_before_1]; exact (Below.refl _ _).alloc (Nat.le_refl _) _
  have HBw_before_1 := Lib.hid (Below.step HBw_r_0.out bw_before_1)
  have kr_0_0__1001 := cell_below bw_before_1 kr_0_0
  have kr_0_1__1002 := cell_below bw_before_1 kr_0_1
  have kr_0_2__1003 := cell_below bw_before_1 kr_0_2
  have kr_0_3__1004 := cell_below bw_before_1 kr_0_3
  have kr_0_4__1005 := cell_below bw_before_1 kr_0_4
  clear bw_before_1
  have kbefore_1_0 : w_before_1.cell? ⟨w_r_0.heap.size, 0, none⟩ = some (.int .i64 before_zone) := by rw [← hw_before_1]; exact box_new _ _ _ 0 _ rfl
  have kbefore_1_1 : w_before_1.cell? ⟨w_r_0.heap.size, 1, none⟩ = some (.int .i64 before_grams) := by rw [← hw_before_1]; exact box_new _ _ _ 1 _ rfl
  have kbefore_1_2 : w_before_1.cell? ⟨w_r_0.heap.size, 2, none⟩ = some (.int .i64 before_from_) := by rw [← hw_before_1]; exact box_new _ _ _ 2 _ rfl
  have kbefore_1_3 : w_before_1.cell? ⟨w_r_0.heap.size, 3, none⟩ = some (.int .i64 before_until_) := by rw [← hw_before_1]; exact box_new _ _ _ 3 _ rfl
  have kbefore_1_4 : w_before_1.cell? ⟨w_r_0.heap.size, 4, none⟩ = some (.int .i64 before_cents) := by rw [← hw_before_1]; exact box_new _ _ _ 4 _ rfl
  go_wp2_with fail
  clear kr_0_0 kr_0_1 kr_0_2 kr_0_3 kr_0_4
  have Hkr_0_0__1001 := Lib.hid kr_0_0__1001
  replace kr_0_0__1001 := cell_regrown kr_0_0__1001
  have Hkr_0_1__1002 := Lib.hid kr_0_1__1002
  replace kr_0_1__1002 := cell_regrown kr_0_1__1002
  have Hkr_0_2__1003 := Lib.hid kr_0_2__1003
  replace kr_0_2__1003 := cell_regrown kr_0_2__1003
  have Hkr_0_3__1004 := Lib.hid kr_0_3__1004
  replace kr_0_3__1004 := cell_regrown kr_0_3__1004
  have Hkr_0_4__1005 := Lib.hid kr_0_4__1005
  replace kr_0_4__1005 := cell_regrown kr_0_4__1005
  have Hkbefore_1_0 := Lib.hid kbefore_1_0
  replace kbefore_1_0 := cell_regrown kbefore_1_0
  have Hkbefore_1_1 := Lib.hid kbefore_1_1
  replace kbefore_1_1 := cell_regrown kbefore_1_1
  have Hkbefore_1_2 := Lib.hid kbefore_1_2
  replace kbefore_1_2 := cell_regrown kbefore_1_2
  have Hkbefore_1_3 := Lib.hid kbefore_1_3
  replace kbefore_1_3 := cell_regrown kbefore_1_3
  have Hkbefore_1_4 := Lib.hid kbefore_1_4
  replace kbefore_1_4 := cell_regrown kbefore_1_4
  replace H := bind_hid H
  obtain ⟨t_4, qt_4, H⟩ := H
  obtain ⟨t_4_zone, t_4_grams⟩ := t_4
  replace H := unrateClass_hid H
  have nt_4 : ∀ d os, Calls Try.prog 91 #[.agg #[.int .i64 r_0_zone, .int .i64 r_0_grams, .int .i64 r_0_from_, .int .i64 r_0_until_, .int .i64 r_0_cents]] (Go.Sort.grow (redrawn w_before_1 d) os) fun e w'' => e = .returned (.agg #[.int .i64 t_4_zone, .int .i64 t_4_grams]) ∧ ∃ p : Regrown, w'' = Go.Sort.grow (redrawn w_before_1 p.d) p.os := fun d os => Calls.regrown_of (Go.Proofs.Ytkinlkmmelkdnaa.GiClassOf.C ((Go.Proofs.Ytkinlkmmelkdnaa.PRate.Rate.mk r_0_zone r_0_grams r_0_from_ r_0_until_ r_0_cents))  _    qt_4)
  replace H := bind_hid H
  obtain ⟨t_6, qt_6, H⟩ := H
  obtain ⟨t_6_zone, t_6_grams⟩ := t_6
  replace H := unrateClass_hid H
  have nt_6 : ∀ d os, Calls Try.prog 91 #[.agg #[.int .i64 before_zone, .int .i64 before_grams, .int .i64 before_from_, .int .i64 before_until_, .int .i64 before_cents]] (Go.Sort.grow (redrawn w_before_1 d) os) fun e w'' => e = .returned (.agg #[.int .i64 t_6_zone, .int .i64 t_6_grams]) ∧ ∃ p : Regrown, w'' = Go.Sort.grow (redrawn w_before_1 p.d) p.os := fun d os => Calls.regrown_of (Go.Proofs.Ytkinlkmmelkdnaa.GiClassOf.C ((Go.Proofs.Ytkinlkmmelkdnaa.PRate.Rate.mk before_zone before_grams before_from_ before_until_ before_cents))  _    qt_6)
  replace H := let_hid H
  obtain ⟨t_7, ht_7, H⟩ := H
  have ct_7 : ∀ W, (binOp .eql 95 (.agg #[.int .i64 t_4_zone, .int .i64 t_4_grams]) (.agg #[.int .i64 t_6_zone, .int .i64 t_6_grams])).run Try.prog W = .ok (.bool t_7) W := fun W => by rw [eqla_95, ht_7]
  refine wp_region_quiet_below (by kernel_rfl) (by kernel_rfl) ?_
  repeat (go_big_quiet_step (first | (go_at_call 91; with_reducible exact nt_4 _ _) | (go_at_call 91; with_reducible exact nt_6 _ _) | (go_at_call 91; exact nt_4 _ _) | (go_at_call 91; exact nt_6 _ _)))
  refine wpQuiet_nil ?_
  intro Y1 hY1
  replace hY1 := below_class hY1
  clear nt_4 nt_6
  replace kr_0_0__1001 := Hkr_0_0__1001.out
  clear Hkr_0_0__1001
  replace kr_0_1__1002 := Hkr_0_1__1002.out
  clear Hkr_0_1__1002
  replace kr_0_2__1003 := Hkr_0_2__1003.out
  clear Hkr_0_2__1003
  replace kr_0_3__1004 := Hkr_0_3__1004.out
  clear Hkr_0_3__1004
  replace kr_0_4__1005 := Hkr_0_4__1005.out
  clear Hkr_0_4__1005
  replace kbefore_1_0 := Hkbefore_1_0.out
  clear Hkbefore_1_0
  replace kbefore_1_1 := Hkbefore_1_1.out
  clear Hkbefore_1_1
  replace kbefore_1_2 := Hkbefore_1_2.out
  clear Hkbefore_1_2
  replace kbefore_1_3 := Hkbefore_1_3.out
  clear Hkbefore_1_3
  replace kbefore_1_4 := Hkbefore_1_4.out
  clear Hkbefore_1_4
  have HBY1 := Lib.hid (Below.step HBw_before_1.out hY1)
  replace kr_0_0__1001 := cell_below hY1 kr_0_0__1001
  replace kr_0_1__1002 := cell_below hY1 kr_0_1__1002
  replace kr_0_2__1003 := cell_below hY1 kr_0_2__1003
  replace kr_0_3__1004 := cell_below hY1 kr_0_3__1004
  replace kr_0_4__1005 := cell_below hY1 kr_0_4__1005
  replace kbefore_1_0 := cell_below hY1 kbefore_1_0
  replace kbefore_1_1 := cell_below hY1 kbefore_1_1
  replace kbefore_1_2 := cell_below hY1 kbefore_1_2
  replace kbefore_1_3 := cell_below hY1 kbefore_1_3
  replace kbefore_1_4 := cell_below hY1 kbefore_1_4
  clear hY1
  cases t_7 with
  | false =>
    replace H := ite_f H
    go_wp2_with fail
    have bd3 : Below Y1.heap.size Y1 Y1.drew := (Below.refl _ _).drew
    have HBY1.drew := Lib.hid (Below.step HBY1.out bd3)
    replace kr_0_0__1001 := cell_below bd3 kr_0_0__1001
    replace kr_0_1__1002 := cell_below bd3 kr_0_1__1002
    replace kr_0_2__1003 := cell_below bd3 kr_0_2__1003
    replace kr_0_3__1004 := cell_below bd3 kr_0_3__1004
    replace kr_0_4__1005 := cell_below bd3 kr_0_4__1005
    replace kbefore_1_0 := cell_below bd3 kbefore_1_0
    replace kbefore_1_1 := cell_below bd3 kbefore_1_1
    replace kbefore_1_2 := cell_below bd3 kbefore_1_2
    replace kbefore_1_3 := cell_below bd3 kbefore_1_3
    replace kbefore_1_4 := cell_below bd3 kbefore_1_4
    clear bd3
    replace H := bind_hid H
    obtain ⟨t_18, qt_18, H⟩ := H
    replace H := bind_hid H
    obtain ⟨t_23, qt_23, H⟩ := H
    replace H := let_hid H
    obtain ⟨t_24, ht_24, H⟩ := H
    replace H := bind_hid H
    obtain ⟨t_25, qt_25, H⟩ := H
    replace H := let_hid H
    obtain ⟨t_26, ht_26, H⟩ := H
    go_region_held3 (fun w' => w'.cell? ⟨w.heap.size, 0, none⟩ = some (.int .i64 r_0_zone) ∧ w'.cell? ⟨w.heap.size, 1, none⟩ = some (.int .i64 r_0_grams) ∧ w'.cell? ⟨w.heap.size, 2, none⟩ = some (.int .i64 r_0_from_) ∧ w'.cell? ⟨w.heap.size, 3, none⟩ = some (.int .i64 r_0_until_) ∧ w'.cell? ⟨w.heap.size, 4, none⟩ = some (.int .i64 r_0_cents) ∧ w'.cell? ⟨w_r_0.heap.size, 0, none⟩ = some (.int .i64 before_zone) ∧ w'.cell? ⟨w_r_0.heap.size, 1, none⟩ = some (.int .i64 before_grams) ∧ w'.cell? ⟨w_r_0.heap.size, 2, none⟩ = some (.int .i64 before_from_) ∧ w'.cell? ⟨w_r_0.heap.size, 3, none⟩ = some (.int .i64 before_until_) ∧ w'.cell? ⟨w_r_0.heap.size, 4, none⟩ = some (.int .i64 before_cents)) (first | exact ⟨kr_0_0__1001, kr_0_1__1002, kr_0_2__1003, kr_0_3__1004, kr_0_4__1005, kbefore_1_0, kbefore_1_1, kbefore_1_2, kbefore_1_3, kbefore_1_4⟩ | exact ⟨kr_0_0__1006, kr_0_1__1007, kr_0_2__1008, kr_0_3__1009, kr_0_4__1010, kbefore_1_0__1011, kbefore_1_1__1012, kbefore_1_2__1013, kbefore_1_3__1014, kbefore_1_4__1015⟩)
        (first
          | (go_at_call 111
             refine (Go.Proofs.Ytkinlkmmelkdnaa.GxCmpCompareInt.C (before_zone) (r_0_zone)  _    qt_18).mono ?_
             rintro e_t_18 wt_18 ⟨rfl, bt_18⟩
             have HBwt_18 := Lib.hid (Below.step HBY1.drew.out bt_18)
             replace kr_0_0__1001 := cell_below bt_18 kr_0_0__1001
             replace kr_0_1__1002 := cell_below bt_18 kr_0_1__1002
             replace kr_0_2__1003 := cell_below bt_18 kr_0_2__1003
             replace kr_0_3__1004 := cell_below bt_18 kr_0_3__1004
             replace kr_0_4__1005 := cell_below bt_18 kr_0_4__1005
             replace kbefore_1_0 := cell_below bt_18 kbefore_1_0
             replace kbefore_1_1 := cell_below bt_18 kbefore_1_1
             replace kbefore_1_2 := cell_below bt_18 kbefore_1_2
             replace kbefore_1_3 := cell_below bt_18 kbefore_1_3
             replace kbefore_1_4 := cell_below bt_18 kbefore_1_4
             clear bt_18
             clear qt_18)
          | (go_at_call 111
             refine (Go.Proofs.Ytkinlkmmelkdnaa.GxCmpCompareInt.C (before_grams) (r_0_grams)  _    qt_23).mono ?_
             rintro e_t_23 wt_23 ⟨rfl, bt_23⟩
             have HBwt_23 := Lib.hid (Below.step HBwt_18.out bt_23)
             replace kr_0_0__1001 := cell_below bt_23 kr_0_0__1001
             replace kr_0_1__1002 := cell_below bt_23 kr_0_1__1002
             replace kr_0_2__1003 := cell_below bt_23 kr_0_2__1003
             replace kr_0_3__1004 := cell_below bt_23 kr_0_3__1004
             replace kr_0_4__1005 := cell_below bt_23 kr_0_4__1005
             replace kbefore_1_0 := cell_below bt_23 kbefore_1_0
             replace kbefore_1_1 := cell_below bt_23 kbefore_1_1
             replace kbefore_1_2 := cell_below bt_23 kbefore_1_2
             replace kbefore_1_3 := cell_below bt_23 kbefore_1_3
             replace kbefore_1_4 := cell_below bt_23 kbefore_1_4
             clear bt_23
             clear qt_23
             obtain ⟨w_t_24, hw_t_24⟩ : ∃ x, wt_23.alloc (.cells #[.int .i64 t_18, .int .i64 t_23] 3) = x := ⟨_, rfl⟩
             have bw_t_24 : Below wt_23.heap.size wt_23 w_t_24 := by rw [← hw_t_24]; exact (Below.refl _ _).alloc (Nat.le_refl _) _
             have hs_t_24 := HBwt_23.out.size
             have nt_24 : t_24.length = 2 := by rw [← ht_24]; rfl
             have Ot_24 : Hid (w_t_24.ownsRow w.heap.size 3 1 (.slice (some ⟨wt_23.heap.size, 0, none⟩) 2 2) 2 (Go.Proofs.Ytkinlkmmelkdnaa.HelpInt.iv t_24)) := by
               rw [← hw_t_24, ← ht_24]
               have e_ : ([.int .i64 t_18, .int .i64 t_23] : List Value) = (Go.Proofs.Ytkinlkmmelkdnaa.HelpInt.iv ([t_18, t_23] : List Int)) := rfl
               exact Lib.hid (own_laid (n := 2) hs_t_24 e_ rfl (by unfold maxLen; omega))
             clear hs_t_24
             have hht_24 := Lib.hid ht_24
             clear ht_24
             replace nt_24 := Lib.hid nt_24
             have Dt_24_r_0 := Lib.hid (apart_box kr_0_0__1001)
             have Dt_24_before_1 := Lib.hid (apart_box kbefore_1_0)
             have HBw_t_24 := Lib.hid (Below.step HBwt_23.out bw_t_24)
             have kr_0_0__1006 := cell_below bw_t_24 kr_0_0__1001
             have kr_0_1__1007 := cell_below bw_t_24 kr_0_1__1002
             have kr_0_2__1008 := cell_below bw_t_24 kr_0_2__1003
             have kr_0_3__1009 := cell_below bw_t_24 kr_0_3__1004
             have kr_0_4__1010 := cell_below bw_t_24 kr_0_4__1005
             have kbefore_1_0__1011 := cell_below bw_t_24 kbefore_1_0
             have kbefore_1_1__1012 := cell_below bw_t_24 kbefore_1_1
             have kbefore_1_2__1013 := cell_below bw_t_24 kbefore_1_2
             have kbefore_1_3__1014 := cell_below bw_t_24 kbefore_1_3
             have kbefore_1_4__1015 := cell_below bw_t_24 kbefore_1_4
             clear bw_t_24)
          | (have hc0_ := nt_24.out
             have Oct_25_1 := Lib.hid (own_len hc0_ Ot_24.out)
             have con_ := Go.Proofs.Ytkinlkmmelkdnaa.GxCmpOrInt.C (t_24) (some ⟨wt_23.heap.size, 0, none⟩) 2 _   (Lib.hid (own_cells Oct_25_1.out)) (Lib.hid (own_max Oct_25_1.out)) qt_25
             rw [hc0_] at con_
             clear hc0_ Oct_25_1
             go_at_call 110
             refine con_.mono ?_
             rintro e_t_25 wt_25 ⟨rfl, bt_25⟩
             have HBwt_25 := Lib.hid (Below.step HBw_t_24.out bt_25)
             replace kr_0_0__1006 := cell_below bt_25 kr_0_0__1006
             replace kr_0_1__1007 := cell_below bt_25 kr_0_1__1007
             replace kr_0_2__1008 := cell_below bt_25 kr_0_2__1008
             replace kr_0_3__1009 := cell_below bt_25 kr_0_3__1009
             replace kr_0_4__1010 := cell_below bt_25 kr_0_4__1010
             replace kbefore_1_0__1011 := cell_below bt_25 kbefore_1_0__1011
             replace kbefore_1_1__1012 := cell_below bt_25 kbefore_1_1__1012
             replace kbefore_1_2__1013 := cell_below bt_25 kbefore_1_2__1013
             replace kbefore_1_3__1014 := cell_below bt_25 kbefore_1_3__1014
             replace kbefore_1_4__1015 := cell_below bt_25 kbefore_1_4__1015
             replace Ot_24 := Lib.hid (own_below Ot_24.out bt_25)
             clear bt_25
             clear qt_25))
    try clear kr_0_0__1001
    try clear kr_0_1__1002
    try clear kr_0_2__1003
    try clear kr_0_3__1004
    try clear kr_0_4__1005
    try clear kbefore_1_0
    try clear kbefore_1_1
    try clear kbefore_1_2
    try clear kbefore_1_3
    try clear kbefore_1_4
    obtain rfl := ret_hid H
    go_wp2_with fail
    go_ret
    exact ⟨rfl, HBwt_25.out⟩
  | true =>
    replace H := ite_t H
    replace H := let_hid H
    obtain ⟨t_12, ht_12, H⟩ := H
    obtain rfl := ret_hid H
    go_wp2_with fail
    go_ret
    exact ⟨rfl, HBY1.out⟩
end Go.Proofs.Ytkinlkmmelkdnaa.GiCanFollow

/- loop.example/g01062/impl.AreRates as a plain function, and the contract of the program's: where the plain one has an answer, the program has it. Conditions: slices read as lists. -/
namespace Go.Proofs.Ytkinlkmmelkdnaa.GiAreRates
set_option linter.unusedVariables false
set_option linter.unusedSimpArgs false
open Go.RowKit
open Go.Proofs.Ytkinlkmmelkdnaa.Rowed Go.Proofs.Ytkinlkmmelkdnaa.Turn Go.Proofs.Ytkinlkmmelkdnaa.Aid Go.Proofs.Ytkinlkmmelkdnaa.GoP Go.Proofs.Ytkinlkmmelkdnaa.GoM

def l0 (list : (List Go.Proofs.Ytkinlkmmelkdnaa.PRate.Rate)) (k0 : Nat) (s : Unit) (nx0 bk0 : Unit → Option (Bool)) : Option (Bool) :=
  
  Option.bind (idx list (k0 : Int)) fun (yt_10 : Go.Proofs.Ytkinlkmmelkdnaa.PRate.Rate) =>
  unRate yt_10 fun (t_10_zone : Int) (t_10_grams : Int) (t_10_from_ : Int) (t_10_until_ : Int) (t_10_cents : Int) =>
  Option.bind (Go.Proofs.Ytkinlkmmelkdnaa.GiIsRate.P (Go.Proofs.Ytkinlkmmelkdnaa.PRate.Rate.mk t_10_zone t_10_grams t_10_from_ t_10_until_ t_10_cents)) fun (t_16 : Bool) =>
  letK (!t_16) fun (t_17 : Bool) =>
  joinK (fun (t_31 : Bool) =>
  iteK t_31
  (some false)
  (appK nx0 ())) fun jt_31 => iteK t_17 (appK jt_31 true) (letK (decide (0 < (k0 : Int))) fun (t_20 : Bool) =>
  joinK (fun (t_30 : Bool) =>
  appK jt_31 t_30) fun jt_30 => iteK t_20 (letK (IntKind.i64.wrap ((k0 : Int) - 1)) fun (t_25 : Int) =>
  Option.bind (idx list t_25) fun (yt_26 : Go.Proofs.Ytkinlkmmelkdnaa.PRate.Rate) =>
  unRate yt_26 fun (t_26_zone : Int) (t_26_grams : Int) (t_26_from_ : Int) (t_26_until_ : Int) (t_26_cents : Int) =>
  Option.bind (Go.Proofs.Ytkinlkmmelkdnaa.GiCanFollow.P (Go.Proofs.Ytkinlkmmelkdnaa.PRate.Rate.mk t_10_zone t_10_grams t_10_from_ t_10_until_ t_10_cents) (Go.Proofs.Ytkinlkmmelkdnaa.PRate.Rate.mk t_26_zone t_26_grams t_26_from_ t_26_until_ t_26_cents)) fun (t_28 : Bool) =>
  letK (!t_28) fun (t_29 : Bool) =>
  appK jt_30 t_29) (appK jt_30 false))

def e0  (s : Unit) : Option (Bool) :=
  
  some true

def P (list : (List Go.Proofs.Ytkinlkmmelkdnaa.PRate.Rate)) : Option (Bool) :=
  letK (decide (16 < (list.length : Int))) fun (t_3 : Bool) =>
  iteK t_3
  (some false)
  (cntK (l0 list) (list.length) 0 () (e0 ))

set_option maxRecDepth 100000 in
set_option maxHeartbeats 2000000 in
theorem C (list : (List Go.Proofs.Ytkinlkmmelkdnaa.PRate.Rate)) (A0 : Option Addr) (c0 : Nat)  (w : World) (M0 : Hid (Cells w 5 A0 list.length (Go.Proofs.Ytkinlkmmelkdnaa.PRate.flat list))) (N0 : Hid (list.length ≤ 9223372036854775807))  {r : Bool} (H : Hid (P list = some r)) :
    Calls Try.prog 20 #[.slice A0 list.length c0] w (Gives (.bool r) w) := by
  have HB := Lib.hid (Below.refl w.heap.size w)
  unfold P at H
  have N0o := N0.out
  go_enter Try.func20, Try.ntmps20
  replace H := let_hid H
  obtain ⟨t_3, ht_3, H⟩ := H
  cases t_3 with
  | false =>
    have nht_3 : ¬ (16 < list.length) := by have := of_decide_eq_false ht_3; omega
    replace H := ite_f H
    go_wp2_with fail
    go_loopg [10] (list.length) (fun m_ v10_ wr => ∃ (k0 : Nat) , k0 + m_ = list.length ∧ v10_ = .int .i64 (k0 : Int) ∧ Hid (cntK (l0 list) m_ k0 () (e0 ) = some r) ∧ Hid (Below w.heap.size w wr))
    case atStart => exact ⟨0, by omega, rfl, H, HB⟩
    case round =>
      obtain ⟨k0, hkm0, rfl, H, HBwr0⟩ := hrel
      rename World => wr0
      cases gk with
      | zero =>
        obtain rfl : k0 = list.length := by omega
        have hc0 : decide (((list.length : Nat) : Int) < ((list.length : Nat) : Int)) = false := by simp
        replace H := cnt_zero H
        unfold e0 at H
        obtain rfl := ret_hid H
        go_wp2_with fail
        go_ret
        exact ⟨rfl, HBwr0.out⟩
      | succ m0 =>
        have hlt0 : k0 < list.length := by omega
        have hc0 : decide ((k0 : Int) < ((list.length : Nat) : Int)) = true := by simp; omega
        replace H := cnt_succ H
        unfold l0 at H
        replace H := idx_hid H
        obtain ⟨nt_10, yt_10, et_10, lt_10, gt_10, H⟩ := H
        obtain rfl : k0 = nt_10 := by omega
        clear et_10
        obtain ⟨t_10_zone, t_10_grams, t_10_from_, t_10_until_, t_10_cents⟩ := yt_10
        replace H := unRate_hid H
        obtain ⟨ab_t_10, ao_t_10, zt_10, At_10, z_t_10, ct_10_0, ct_10_1, ct_10_2, ct_10_3, ct_10_4⟩ := Go.Proofs.Ytkinlkmmelkdnaa.ORate.at_ M0.out lt_10
        obtain rfl := Option.some.inj (gt_10.out.symm.trans z_t_10)
        subst At_10
        have ltt_10 := cell_lt ct_10_0
        replace ct_10_0 := cell_below HBwr0.out ct_10_0
        replace ct_10_1 := cell_below HBwr0.out ct_10_1
        replace ct_10_2 := cell_below HBwr0.out ct_10_2
        replace ct_10_3 := cell_below HBwr0.out ct_10_3
        replace ct_10_4 := cell_below HBwr0.out ct_10_4
        clear z_t_10
        have b0t_10 : (0 : Int) ≤ (k0 : Int) := by omega
        have b1t_10 : (k0 : Int) < ((list.length : Nat) : Int) := by omega
        have b2t_10 : ((k0 : Int)).toNat = k0 := by omega
        obtain ⟨w_r_12, hw_r_12⟩ : ∃ x, wr0.alloc (.cells #[.int .i64 t_10_zone, .int .i64 t_10_grams, .int .i64 t_10_from_, .int .i64 t_10_until_, .int .i64 t_10_cents] 25) = x := ⟨_, rfl⟩
        have bw_r_12 : Below wr0.heap.size wr0 w_r_12 := by rw [← hw_r_12]; exact (Below.refl _ _).alloc (Nat.le_refl _) _
        have HBw_r_12 := Lib.hid (Below.step HBwr0.out bw_r_12)
        have ct_10_0__1016 := cell_below bw_r_12 ct_10_0
        have ct_10_1__1017 := cell_below bw_r_12 ct_10_1
        have ct_10_2__1018 := cell_below bw_r_12 ct_10_2
        have ct_10_3__1019 := cell_below bw_r_12 ct_10_3
        have ct_10_4__1020 := cell_below bw_r_12 ct_10_4
        clear bw_r_12
        have kr_12_0 : w_r_12.cell? ⟨wr0.heap.size, 0, none⟩ = some (.int .i64 t_10_zone) := by rw [← hw_r_12]; exact box_new _ _ _ 0 _ rfl
        have kr_12_1 : w_r_12.cell? ⟨wr0.heap.size, 1, none⟩ = some (.int .i64 t_10_grams) := by rw [← hw_r_12]; exact box_new _ _ _ 1 _ rfl
        have kr_12_2 : w_r_12.cell? ⟨wr0.heap.size, 2, none⟩ = some (.int .i64 t_10_from_) := by rw [← hw_r_12]; exact box_new _ _ _ 2 _ rfl
        have kr_12_3 : w_r_12.cell? ⟨wr0.heap.size, 3, none⟩ = some (.int .i64 t_10_until_) := by rw [← hw_r_12]; exact box_new _ _ _ 3 _ rfl
        have kr_12_4 : w_r_12.cell? ⟨wr0.heap.size, 4, none⟩ = some (.int .i64 t_10_cents) := by rw [← hw_r_12]; exact box_new _ _ _ 4 _ rfl
        go_wp2_with fail
        clear ct_10_0 ct_10_1 ct_10_2 ct_10_3 ct_10_4
        have Hct_10_0__1016 := Lib.hid ct_10_0__1016
        replace ct_10_0__1016 := cell_regrown ct_10_0__1016
        have Hct_10_1__1017 := Lib.hid ct_10_1__1017
        replace ct_10_1__1017 := cell_regrown ct_10_1__1017
        have Hct_10_2__1018 := Lib.hid ct_10_2__1018
        replace ct_10_2__1018 := cell_regrown ct_10_2__1018
        have Hct_10_3__1019 := Lib.hid ct_10_3__1019
        replace ct_10_3__1019 := cell_regrown ct_10_3__1019
        have Hct_10_4__1020 := Lib.hid ct_10_4__1020
        replace ct_10_4__1020 := cell_regrown ct_10_4__1020
        have Hkr_12_0 := Lib.hid kr_12_0
        replace kr_12_0 := cell_regrown kr_12_0
        have Hkr_12_1 := Lib.hid kr_12_1
        replace kr_12_1 := cell_regrown kr_12_1
        have Hkr_12_2 := Lib.hid kr_12_2
        replace kr_12_2 := cell_regrown kr_12_2
        have Hkr_12_3 := Lib.hid kr_12_3
        replace kr_12_3 := cell_regrown kr_12_3
        have Hkr_12_4 := Lib.hid kr_12_4
        replace kr_12_4 := cell_regrown kr_12_4
        replace H := bind_hid H
        obtain ⟨t_16, qt_16, H⟩ := H
        have nt_16 : ∀ d os, Calls Try.prog 16 #[.agg #[.int .i64 t_10_zone, .int .i64 t_10_grams, .int .i64 t_10_from_, .int .i64 t_10_until_, .int .i64 t_10_cents]] (Go.Sort.grow (redrawn w_r_12 d) os) fun e w'' => e = .returned (.bool t_16) ∧ ∃ p : Regrown, w'' = Go.Sort.grow (redrawn w_r_12 p.d) p.os := fun d os => Calls.regrown_of (Go.Proofs.Ytkinlkmmelkdnaa.GiIsRate.C ((Go.Proofs.Ytkinlkmmelkdnaa.PRate.Rate.mk t_10_zone t_10_grams t_10_from_ t_10_until_ t_10_cents))  _    qt_16)
        cases t_16 with
        | false =>
          replace H := let_hid H
          obtain ⟨t_17, ht_17, H⟩ := H
          obtain rfl : t_17 = true := ht_17.symm
          replace H := join_hid H
          replace H := ite_t H
          replace H := app_hid H
          refine wp_region_quiet_below (by kernel_rfl) (by kernel_rfl) ?_
          repeat (go_big_quiet_step (first | (go_at_call 16; exact nt_16 _ _)))
          refine wpQuiet_nil ?_
          intro Y6 hY6
          replace hY6 := below_class hY6
          clear nt_16
          replace ct_10_0__1016 := Hct_10_0__1016.out
          clear Hct_10_0__1016
          replace ct_10_1__1017 := Hct_10_1__1017.out
          clear Hct_10_1__1017
          replace ct_10_2__1018 := Hct_10_2__1018.out
          clear Hct_10_2__1018
          replace ct_10_3__1019 := Hct_10_3__1019.out
          clear Hct_10_3__1019
          replace ct_10_4__1020 := Hct_10_4__1020.out
          clear Hct_10_4__1020
          replace kr_12_0 := Hkr_12_0.out
          clear Hkr_12_0
          replace kr_12_1 := Hkr_12_1.out
          clear Hkr_12_1
          replace kr_12_2 := Hkr_12_2.out
          clear Hkr_12_2
          replace kr_12_3 := Hkr_12_3.out
          clear Hkr_12_3
          replace kr_12_4 := Hkr_12_4.out
          clear Hkr_12_4
          have HBY6 := Lib.hid (Below.step HBw_r_12.out hY6)
          replace ct_10_0__1016 := cell_below hY6 ct_10_0__1016
          replace ct_10_1__1017 := cell_below hY6 ct_10_1__1017
          replace ct_10_2__1018 := cell_below hY6 ct_10_2__1018
          replace ct_10_3__1019 := cell_below hY6 ct_10_3__1019
          replace ct_10_4__1020 := cell_below hY6 ct_10_4__1020
          replace kr_12_0 := cell_below hY6 kr_12_0
          replace kr_12_1 := cell_below hY6 kr_12_1
          replace kr_12_2 := cell_below hY6 kr_12_2
          replace kr_12_3 := cell_below hY6 kr_12_3
          replace kr_12_4 := cell_below hY6 kr_12_4
          clear hY6
          replace H := ite_t H
          obtain rfl := ret_hid H
          go_wp2_with fail
          go_ret
          exact ⟨rfl, HBY6.out⟩
        | true =>
          replace H := let_hid H
          obtain ⟨t_17, ht_17, H⟩ := H
          obtain rfl : t_17 = false := ht_17.symm
          replace H := join_hid H
          replace H := ite_f H
          replace H := let_hid H
          obtain ⟨t_20, ht_20, H⟩ := H
          replace H := join_hid H
          cases t_20 with
          | false =>
            have nht_20 : ¬ (0 < k0) := by have := of_decide_eq_false ht_20; omega
            replace H := ite_f H
            replace H := app_hid H
            replace H := app_hid H
            refine wp_region_quiet_below (by kernel_rfl) (by kernel_rfl) ?_
            repeat (go_big_quiet_step (first | (go_at_call 16; exact nt_16 _ _)))
            refine wpQuiet_nil ?_
            intro Y6 hY6
            replace hY6 := below_class hY6
            clear nt_16
            replace ct_10_0__1016 := Hct_10_0__1016.out
            clear Hct_10_0__1016
            replace ct_10_1__1017 := Hct_10_1__1017.out
            clear Hct_10_1__1017
            replace ct_10_2__1018 := Hct_10_2__1018.out
            clear Hct_10_2__1018
            replace ct_10_3__1019 := Hct_10_3__1019.out
            clear Hct_10_3__1019
            replace ct_10_4__1020 := Hct_10_4__1020.out
            clear Hct_10_4__1020
            replace kr_12_0 := Hkr_12_0.out
            clear Hkr_12_0
            replace kr_12_1 := Hkr_12_1.out
            clear Hkr_12_1
            replace kr_12_2 := Hkr_12_2.out
            clear Hkr_12_2
            replace kr_12_3 := Hkr_12_3.out
            clear Hkr_12_3
            replace kr_12_4 := Hkr_12_4.out
            clear Hkr_12_4
            have HBY6 := Lib.hid (Below.step HBw_r_12.out hY6)
            replace ct_10_0__1016 := cell_below hY6 ct_10_0__1016
            replace ct_10_1__1017 := cell_below hY6 ct_10_1__1017
            replace ct_10_2__1018 := cell_below hY6 ct_10_2__1018
            replace ct_10_3__1019 := cell_below hY6 ct_10_3__1019
            replace ct_10_4__1020 := cell_below hY6 ct_10_4__1020
            replace kr_12_0 := cell_below hY6 kr_12_0
            replace kr_12_1 := cell_below hY6 kr_12_1
            replace kr_12_2 := cell_below hY6 kr_12_2
            replace kr_12_3 := cell_below hY6 kr_12_3
            replace kr_12_4 := cell_below hY6 kr_12_4
            clear hY6
            replace H := ite_f H
            replace H := app_hid H
            go_wp2_with fail
            go_roundg m0
            case measure => omega
            case rel => exact ⟨k0 + 1, by omega, by go_num, H, HBY6⟩
          | true =>
            have nht_20 : 0 < k0 := by have := of_decide_eq_true ht_20; omega
            replace H := ite_t H
            replace H := let_hid H
            obtain ⟨t_25, ht_25, H⟩ := H
            replace H := idx_hid H
            obtain ⟨nt_26, yt_26, et_26, lt_26, gt_26, H⟩ := H
            subst et_26
            obtain ⟨t_26_zone, t_26_grams, t_26_from_, t_26_until_, t_26_cents⟩ := yt_26
            replace H := unRate_hid H
            obtain ⟨ab_t_26, ao_t_26, zt_26, At_26, z_t_26, ct_26_0, ct_26_1, ct_26_2, ct_26_3, ct_26_4⟩ := Go.Proofs.Ytkinlkmmelkdnaa.ORate.at_ M0.out lt_26
            obtain rfl := Option.some.inj (gt_26.out.symm.trans z_t_26)
            simp only [Option.some.injEq, Addr.mk.injEq] at At_26
            obtain ⟨rfl, rfl, _⟩ := At_26
            have ltt_26 := cell_lt ct_26_0
            replace ct_26_0 := cell_below HBw_r_12.out ct_26_0
            replace ct_26_1 := cell_below HBw_r_12.out ct_26_1
            replace ct_26_2 := cell_below HBw_r_12.out ct_26_2
            replace ct_26_3 := cell_below HBw_r_12.out ct_26_3
            replace ct_26_4 := cell_below HBw_r_12.out ct_26_4
            clear z_t_26
            have b0t_26 : (0 : Int) ≤ (nt_26 : Int) := by omega
            have b1t_26 : (nt_26 : Int) < ((list.length : Nat) : Int) := by omega
            have b2t_26 : ((nt_26 : Int)).toNat = nt_26 := by omega
            have Hct_26_0 := Lib.hid ct_26_0
            replace ct_26_0 := cell_regrown ct_26_0
            have Hct_26_1 := Lib.hid ct_26_1
            replace ct_26_1 := cell_regrown ct_26_1
            have Hct_26_2 := Lib.hid ct_26_2
            replace ct_26_2 := cell_regrown ct_26_2
            have Hct_26_3 := Lib.hid ct_26_3
            replace ct_26_3 := cell_regrown ct_26_3
            have Hct_26_4 := Lib.hid ct_26_4
            replace ct_26_4 := cell_regrown ct_26_4
            replace H := bind_hid H
            obtain ⟨t_28, qt_28, H⟩ := H
            have nt_28 : ∀ d os, Calls Try.prog 76 #[.agg #[.int .i64 t_10_zone, .int .i64 t_10_grams, .int .i64 t_10_from_, .int .i64 t_10_until_, .int .i64 t_10_cents], .agg #[.int .i64 t_26_zone, .int .i64 t_26_grams, .int .i64 t_26_from_, .int .i64 t_26_until_, .int .i64 t_26_cents]] (Go.Sort.grow (redrawn w_r_12 d) os) fun e w'' => e = .returned (.bool t_28) ∧ ∃ p : Regrown, w'' = Go.Sort.grow (redrawn w_r_12 p.d) p.os := fun d os => Calls.regrown_of (Go.Proofs.Ytkinlkmmelkdnaa.GiCanFollow.C ((Go.Proofs.Ytkinlkmmelkdnaa.PRate.Rate.mk t_10_zone t_10_grams t_10_from_ t_10_until_ t_10_cents)) ((Go.Proofs.Ytkinlkmmelkdnaa.PRate.Rate.mk t_26_zone t_26_grams t_26_from_ t_26_until_ t_26_cents))  _    qt_28)
            cases t_28 with
            | false =>
              replace H := let_hid H
              obtain ⟨t_29, ht_29, H⟩ := H
              obtain rfl : t_29 = true := ht_29.symm
              replace H := app_hid H
              replace H := app_hid H
              refine wp_region_quiet_below (by kernel_rfl) (by kernel_rfl) ?_
              repeat (go_big_quiet_step (first | (go_at_call 16; exact nt_16 _ _) | (go_at_call 76; exact nt_28 _ _)))
              refine wpQuiet_nil ?_
              intro Y6 hY6
              replace hY6 := below_class hY6
              clear nt_16 nt_28
              replace ct_10_0__1016 := Hct_10_0__1016.out
              clear Hct_10_0__1016
              replace ct_10_1__1017 := Hct_10_1__1017.out
              clear Hct_10_1__1017
              replace ct_10_2__1018 := Hct_10_2__1018.out
              clear Hct_10_2__1018
              replace ct_10_3__1019 := Hct_10_3__1019.out
              clear Hct_10_3__1019
              replace ct_10_4__1020 := Hct_10_4__1020.out
              clear Hct_10_4__1020
              replace kr_12_0 := Hkr_12_0.out
              clear Hkr_12_0
              replace kr_12_1 := Hkr_12_1.out
              clear Hkr_12_1
              replace kr_12_2 := Hkr_12_2.out
              clear Hkr_12_2
              replace kr_12_3 := Hkr_12_3.out
              clear Hkr_12_3
              replace kr_12_4 := Hkr_12_4.out
              clear Hkr_12_4
              replace ct_26_0 := Hct_26_0.out
              clear Hct_26_0
              replace ct_26_1 := Hct_26_1.out
              clear Hct_26_1
              replace ct_26_2 := Hct_26_2.out
              clear Hct_26_2
              replace ct_26_3 := Hct_26_3.out
              clear Hct_26_3
              replace ct_26_4 := Hct_26_4.out
              clear Hct_26_4
              have HBY6 := Lib.hid (Below.step HBw_r_12.out hY6)
              replace ct_10_0__1016 := cell_below hY6 ct_10_0__1016
              replace ct_10_1__1017 := cell_below hY6 ct_10_1__1017
              replace ct_10_2__1018 := cell_below hY6 ct_10_2__1018
              replace ct_10_3__1019 := cell_below hY6 ct_10_3__1019
              replace ct_10_4__1020 := cell_below hY6 ct_10_4__1020
              replace kr_12_0 := cell_below hY6 kr_12_0
              replace kr_12_1 := cell_below hY6 kr_12_1
              replace kr_12_2 := cell_below hY6 kr_12_2
              replace kr_12_3 := cell_below hY6 kr_12_3
              replace kr_12_4 := cell_below hY6 kr_12_4
              replace ct_26_0 := cell_below hY6 ct_26_0
              replace ct_26_1 := cell_below hY6 ct_26_1
              replace ct_26_2 := cell_below hY6 ct_26_2
              replace ct_26_3 := cell_below hY6 ct_26_3
              replace ct_26_4 := cell_below hY6 ct_26_4
              clear hY6
              replace H := ite_t H
              obtain rfl := ret_hid H
              go_wp2_with fail
              go_ret
              exact ⟨rfl, HBY6.out⟩
            | true =>
              replace H := let_hid H
              obtain ⟨t_29, ht_29, H⟩ := H
              obtain rfl : t_29 = false := ht_29.symm
              replace H := app_hid H
              replace H := app_hid H
              refine wp_region_quiet_below (by kernel_rfl) (by kernel_rfl) ?_
              repeat (go_big_quiet_step (first | (go_at_call 16; exact nt_16 _ _) | (go_at_call 76; exact nt_28 _ _)))
              refine wpQuiet_nil ?_
              intro Y6 hY6
              replace hY6 := below_class hY6
              clear nt_16 nt_28
              replace ct_10_0__1016 := Hct_10_0__1016.out
              clear Hct_10_0__1016
              replace ct_10_1__1017 := Hct_10_1__1017.out
              clear Hct_10_1__1017
              replace ct_10_2__1018 := Hct_10_2__1018.out
              clear Hct_10_2__1018
              replace ct_10_3__1019 := Hct_10_3__1019.out
              clear Hct_10_3__1019
              replace ct_10_4__1020 := Hct_10_4__1020.out
              clear Hct_10_4__1020
              replace kr_12_0 := Hkr_12_0.out
              clear Hkr_12_0
              replace kr_12_1 := Hkr_12_1.out
              clear Hkr_12_1
              replace kr_12_2 := Hkr_12_2.out
              clear Hkr_12_2
              replace kr_12_3 := Hkr_12_3.out
              clear Hkr_12_3
              replace kr_12_4 := Hkr_12_4.out
              clear Hkr_12_4
              replace ct_26_0 := Hct_26_0.out
              clear Hct_26_0
              replace ct_26_1 := Hct_26_1.out
              clear Hct_26_1
              replace ct_26_2 := Hct_26_2.out
              clear Hct_26_2
              replace ct_26_3 := Hct_26_3.out
              clear Hct_26_3
              replace ct_26_4 := Hct_26_4.out
              clear Hct_26_4
              have HBY6 := Lib.hid (Below.step HBw_r_12.out hY6)
              replace ct_10_0__1016 := cell_below hY6 ct_10_0__1016
              replace ct_10_1__1017 := cell_below hY6 ct_10_1__1017
              replace ct_10_2__1018 := cell_below hY6 ct_10_2__1018
              replace ct_10_3__1019 := cell_below hY6 ct_10_3__1019
              replace ct_10_4__1020 := cell_below hY6 ct_10_4__1020
              replace kr_12_0 := cell_below hY6 kr_12_0
              replace kr_12_1 := cell_below hY6 kr_12_1
              replace kr_12_2 := cell_below hY6 kr_12_2
              replace kr_12_3 := cell_below hY6 kr_12_3
              replace kr_12_4 := cell_below hY6 kr_12_4
              replace ct_26_0 := cell_below hY6 ct_26_0
              replace ct_26_1 := cell_below hY6 ct_26_1
              replace ct_26_2 := cell_below hY6 ct_26_2
              replace ct_26_3 := cell_below hY6 ct_26_3
              replace ct_26_4 := cell_below hY6 ct_26_4
              clear hY6
              replace H := ite_f H
              replace H := app_hid H
              go_wp2_with fail
              go_roundg m0
              case measure => omega
              case rel => exact ⟨k0 + 1, by omega, by go_num, H, HBY6⟩
  | true =>
    have nht_3 : 16 < list.length := by have := of_decide_eq_true ht_3; omega
    replace H := ite_t H
    obtain rfl := ret_hid H
    go_wp2_with fail
    go_ret
    exact ⟨rfl, HB.out⟩
end Go.Proofs.Ytkinlkmmelkdnaa.GiAreRates

/- loop.example/g01062/impl.canSend as a plain function, and the contract of the program's: where the plain one has an answer, the program has it. Conditions: slices read as lists. -/
namespace Go.Proofs.Ytkinlkmmelkdnaa.GiCanSend
set_option linter.unusedVariables false
set_option linter.unusedSimpArgs false
open Go.RowKit
open Go.Proofs.Ytkinlkmmelkdnaa.Rowed Go.Proofs.Ytkinlkmmelkdnaa.Turn Go.Proofs.Ytkinlkmmelkdnaa.Aid Go.Proofs.Ytkinlkmmelkdnaa.GoP Go.Proofs.Ytkinlkmmelkdnaa.GoM

def P (list : (List Go.Proofs.Ytkinlkmmelkdnaa.PRate.Rate)) (zone : Int) (grams : Int) : Option (Bool) :=
  Option.bind (Go.Proofs.Ytkinlkmmelkdnaa.GiAreRates.P list) fun (t_2 : Bool) =>
  joinK (fun (t_6 : Bool) =>
  joinK (fun (t_10 : Bool) =>
  some t_10) fun jt_10 => iteK t_6 (Option.bind (Go.Proofs.Ytkinlkmmelkdnaa.GiIsWeight.P grams) fun (t_9 : Bool) =>
  appK jt_10 t_9) (appK jt_10 false)) fun jt_6 => iteK t_2 (Option.bind (Go.Proofs.Ytkinlkmmelkdnaa.GiIsZone.P zone) fun (t_5 : Bool) =>
  appK jt_6 t_5) (appK jt_6 false)

set_option maxRecDepth 100000 in
set_option maxHeartbeats 2000000 in
theorem C (list : (List Go.Proofs.Ytkinlkmmelkdnaa.PRate.Rate)) (zone : Int) (grams : Int) (A0 : Option Addr) (c0 : Nat)  (w : World) (M0 : Hid (Cells w 5 A0 list.length (Go.Proofs.Ytkinlkmmelkdnaa.PRate.flat list))) (N0 : Hid (list.length ≤ 9223372036854775807))  {r : Bool} (H : Hid (P list zone grams = some r)) :
    Calls Try.prog 82 #[.slice A0 list.length c0, .int .i64 zone, .int .i64 grams] w (Gives (.bool r) w) := by
  have HB := Lib.hid (Below.refl w.heap.size w)
  unfold P at H
  have N0o := N0.out
  go_enter Try.func82, Try.ntmps82
  replace H := bind_hid H
  obtain ⟨t_2, qt_2, H⟩ := H
  go_wp2_with fail
  go_at_call 20
  refine (Go.Proofs.Ytkinlkmmelkdnaa.GiAreRates.C (list) A0 c0 _   (Lib.hid (Cells.below M0.out HB.out)) N0 qt_2).mono ?_
  rintro e_t_2 wt_2 ⟨rfl, bt_2⟩
  have HBwt_2 := Lib.hid (Below.step HB.out bt_2)
  clear bt_2
  replace H := join_hid H
  cases t_2 with
  | false =>
    replace H := ite_f H
    replace H := app_hid H
    replace H := join_hid H
    replace H := ite_f H
    replace H := app_hid H
    obtain rfl := ret_hid H
    go_wp2_with fail
    go_ret
    exact ⟨rfl, HBwt_2.out⟩
  | true =>
    replace H := ite_t H
    replace H := bind_hid H
    obtain ⟨t_5, qt_5, H⟩ := H
    go_wp2_with fail
    go_at_call 71
    refine (Go.Proofs.Ytkinlkmmelkdnaa.GiIsZone.C (zone)  _    qt_5).mono ?_
    rintro e_t_5 wt_5 ⟨rfl, bt_5⟩
    have HBwt_5 := Lib.hid (Below.step HBwt_2.out bt_5)
    clear bt_5
    replace H := app_hid H
    replace H := join_hid H
    cases t_5 with
    | false =>
      replace H := ite_f H
      replace H := app_hid H
      obtain rfl := ret_hid H
      go_wp2_with fail
      go_ret
      exact ⟨rfl, HBwt_5.out⟩
    | true =>
      replace H := ite_t H
      replace H := bind_hid H
      obtain ⟨t_9, qt_9, H⟩ := H
      go_wp2_with fail
      go_at_call 72
      refine (Go.Proofs.Ytkinlkmmelkdnaa.GiIsWeight.C (grams)  _    qt_9).mono ?_
      rintro e_t_9 wt_9 ⟨rfl, bt_9⟩
      have HBwt_9 := Lib.hid (Below.step HBwt_5.out bt_9)
      clear bt_9
      replace H := app_hid H
      obtain rfl := ret_hid H
      go_wp2_with fail
      go_ret
      exact ⟨rfl, HBwt_9.out⟩
end Go.Proofs.Ytkinlkmmelkdnaa.GiCanSend

/- loop.example/g01062/impl.RaiseRate$1 as a plain function, and the contract of the program's: where the plain one has an answer, the program has it. Conditions: slices read as lists. -/
namespace Go.Proofs.Ytkinlkmmelkdnaa.GiRaiseRate1
set_option linter.unusedVariables false
set_option linter.unusedSimpArgs false
open Go.RowKit
open Go.Proofs.Ytkinlkmmelkdnaa.Rowed Go.Proofs.Ytkinlkmmelkdnaa.Turn Go.Proofs.Ytkinlkmmelkdnaa.Aid Go.Proofs.Ytkinlkmmelkdnaa.GoP Go.Proofs.Ytkinlkmmelkdnaa.GoM

def P (r_0 : Go.Proofs.Ytkinlkmmelkdnaa.PRate.Rate) (hq0_zone : Int) (hq0_grams : Int) (hq1 : Int) : Option (Bool) :=
  unRate r_0 fun (r_0_zone : Int) (r_0_grams : Int) (r_0_from_ : Int) (r_0_until_ : Int) (r_0_cents : Int) =>
  Option.bind (Go.Proofs.Ytkinlkmmelkdnaa.GiClassOf.P (Go.Proofs.Ytkinlkmmelkdnaa.PRate.Rate.mk r_0_zone r_0_grams r_0_from_ r_0_until_ r_0_cents)) fun (t_3 : Go.Proofs.Ytkinlkmmelkdnaa.PrateClass.rateClass) =>
  unrateClass t_3 fun (t_3_zone : Int) (t_3_grams : Int) =>
  letK (t_3_zone == hq0_zone && t_3_grams == hq0_grams) fun (t_5 : Bool) =>
  joinK (fun (t_11 : Bool) =>
  joinK (fun (t_17 : Bool) =>
  some t_17) fun jt_17 => iteK t_11 (letK (decide (hq1 ≤ r_0_until_)) fun (t_16 : Bool) =>
  appK jt_17 t_16) (appK jt_17 false)) fun jt_11 => iteK t_5 (letK (decide (r_0_from_ < hq1)) fun (t_10 : Bool) =>
  appK jt_11 t_10) (appK jt_11 false)

set_option maxRecDepth 100000
theorem eqr_95 (x0 x1 y0 y1 : Int) : ∀ W, (Op.equalIn 10000 95 (.agg #[Value.int IntKind.i64 x0, Value.int IntKind.i64 x1]) (.agg #[Value.int IntKind.i64 y0, Value.int IntKind.i64 y1])).run Try.prog W = .ok (x0 == y0 && x1 == y1) W := by
  intro W
  rw [run_equalIn_agg W _ _ _ _ (by kernel_rfl) (by kernel_rfl)]
  obtain ⟨f, hf⟩ : ∃ f, (Try.prog.fieldsOf 95).toList = f := ⟨_, rfl⟩
  have : (Try.prog.fieldsOf 95).toList.map (fun f => (f.name, f.type, f.offset)) = [("zone", 3, 0), ("grams", 3, 1)] := by kernel_rfl
  rw [hf] at this ⊢
  match f, this with
  | [f0, f1], h =>
    simp only [List.map_cons, List.map_nil, List.cons.injEq, Prod.mk.injEq, and_true] at h
    obtain ⟨⟨a0, b0, d0⟩, a1, b1, d1⟩ := h
    simp only [Op.eqFields, a0, b0, d0, a1, b1, d1]
    have p0 : ∀ (w : World) (x0 x1 : Int), (part 3 #[Value.int IntKind.i64 x0, Value.int IntKind.i64 x1] 0).run Try.prog w = .ok (.int .i64 x0) w := fun w x0 x1 => run_part_plain w (by kernel_rfl) rfl
    have p1 : ∀ (w : World) (x0 x1 : Int), (part 3 #[Value.int IntKind.i64 x0, Value.int IntKind.i64 x1] 1).run Try.prog w = .ok (.int .i64 x1) w := fun w x0 x1 => run_part_plain w (by kernel_rfl) rfl
    have e0 : ∀ (w : World) (d : Nat) (x y : Int), (Op.equalIn (d + 1) 3 (.int .i64 x) (.int .i64 y)).run Try.prog w = .ok (x == y) w := fun w d x y => run_equalIn_int w d 3 .i64 .i64 x y Try.underlying3
    have e1 : ∀ (w : World) (x y : Int), (Op.equalIn 9999 3 (.int .i64 x) (.int .i64 y)).run Try.prog w = .ok (x == y) w := fun w x y => e0 w 9998 x y
    rw [if_pos (by decide)]; rw [if_pos (by decide)]
    simp only [Sem.run_bind, p0, p1, e1, Result.andThen_ok, Sem.run_ite, Sem.run_pure]
    cases x0 == y0 <;> cases x1 == y1 <;> rfl
theorem eqla_95 (x0 x1 y0 y1 : Int) : ∀ W, (binOp .eql 95 (.agg #[Value.int IntKind.i64 x0, Value.int IntKind.i64 x1]) (.agg #[Value.int IntKind.i64 y0, Value.int IntKind.i64 y1])).run Try.prog W = .ok (.bool (x0 == y0 && x1 == y1)) W := by
  intro W
  rw [run_eql_struct, eqr_95]; rfl
theorem neqa_95 (x0 x1 y0 y1 : Int) : ∀ W, (binOp .neq 95 (.agg #[Value.int IntKind.i64 x0, Value.int IntKind.i64 x1]) (.agg #[Value.int IntKind.i64 y0, Value.int IntKind.i64 y1])).run Try.prog W = .ok (.bool (!(x0 == y0 && x1 == y1))) W := by
  intro W
  rw [run_neq_struct, eqr_95]; rfl

set_option maxRecDepth 100000 in
set_option maxHeartbeats 2000000 in
theorem C (r_0 : Go.Proofs.Ytkinlkmmelkdnaa.PRate.Rate) (hq0_zone : Int) (hq0_grams : Int) (hq1 : Int)  (gq0 : Nat) (gq1 : Nat) (w : World)  (Fq0_0h : Hid (w.cell? ⟨gq0, 0, none⟩ = some (.int .i64 hq0_zone))) (Fq0_1h : Hid (w.cell? ⟨gq0, 1, none⟩ = some (.int .i64 hq0_grams))) (Fq1h : Hid (w.cell? ⟨gq1, 0, none⟩ = some (.int .i64 hq1))) {r : Bool} (H : Hid (P r_0 hq0_zone hq0_grams hq1 = some r)) :
    Calls Try.prog 90 #[r_0.val, .pointer (some ⟨gq0, 0, none⟩), .pointer (some ⟨gq1, 0, none⟩)] w (Gives (.bool r) w) := by
  have HB := Lib.hid (Below.refl w.heap.size w)
  unfold P at H
  obtain ⟨r_0_zone, r_0_grams, r_0_from_, r_0_until_, r_0_cents⟩ := r_0
  replace H := unRate_hid H
  unfold Go.Proofs.Ytkinlkmmelkdnaa.PRate.Rate.val
  have Fq0_0 := Fq0_0h.out
  have Fq0_1 := Fq0_1h.out
  have Fq1 := Fq1h.out
  go_enter Try.func90, Try.ntmps90
  obtain ⟨w_r_0, hw_r_0⟩ : ∃ x, w.alloc (.cells #[.int .i64 r_0_zone, .int .i64 r_0_grams, .int .i64 r_0_from_, .int .i64 r_0_until_, .int .i64 r_0_cents] 25) = x := ⟨_, rfl⟩
  have bw_r_0 : Below w.heap.size w w_r_0 := by rw [← hw_r_0]; exact (Below.refl _ _).alloc (Nat.le_refl _) _
  have HBw_r_0 := Lib.hid (Below.step HB.out bw_r_0)
  have Fq0_0__1021 := cell_below bw_r_0 Fq0_0
  have Fq0_1__1022 := cell_below bw_r_0 Fq0_1
  have Fq1__1023 := cell_below bw_r_0 Fq1
  clear bw_r_0
  have kr_0_0 : w_r_0.cell? ⟨w.heap.size, 0, none⟩ = some (.int .i64 r_0_zone) := by rw [← hw_r_0]; exact box_new _ _ _ 0 _ rfl
  have kr_0_1 : w_r_0.cell? ⟨w.heap.size, 1, none⟩ = some (.int .i64 r_0_grams) := by rw [← hw_r_0]; exact box_new _ _ _ 1 _ rfl
  have kr_0_2 : w_r_0.cell? ⟨w.heap.size, 2, none⟩ = some (.int .i64 r_0_from_) := by rw [← hw_r_0]; exact box_new _ _ _ 2 _ rfl
  have kr_0_3 : w_r_0.cell? ⟨w.heap.size, 3, none⟩ = some (.int .i64 r_0_until_) := by rw [← hw_r_0]; exact box_new _ _ _ 3 _ rfl
  have kr_0_4 : w_r_0.cell? ⟨w.heap.size, 4, none⟩ = some (.int .i64 r_0_cents) := by rw [← hw_r_0]; exact box_new _ _ _ 4 _ rfl
  go_wp2_with fail
  clear Fq0_0 Fq0_1 Fq1
  have HFq0_0__1021 := Lib.hid Fq0_0__1021
  replace Fq0_0__1021 := cell_regrown Fq0_0__1021
  have HFq0_1__1022 := Lib.hid Fq0_1__1022
  replace Fq0_1__1022 := cell_regrown Fq0_1__1022
  have HFq1__1023 := Lib.hid Fq1__1023
  replace Fq1__1023 := cell_regrown Fq1__1023
  have Hkr_0_0 := Lib.hid kr_0_0
  replace kr_0_0 := cell_regrown kr_0_0
  have Hkr_0_1 := Lib.hid kr_0_1
  replace kr_0_1 := cell_regrown kr_0_1
  have Hkr_0_2 := Lib.hid kr_0_2
  replace kr_0_2 := cell_regrown kr_0_2
  have Hkr_0_3 := Lib.hid kr_0_3
  replace kr_0_3 := cell_regrown kr_0_3
  have Hkr_0_4 := Lib.hid kr_0_4
  replace kr_0_4 := cell_regrown kr_0_4
  replace H := bind_hid H
  obtain ⟨t_3, qt_3, H⟩ := H
  obtain ⟨t_3_zone, t_3_grams⟩ := t_3
  replace H := unrateClass_hid H
  have nt_3 : ∀ d os, Calls Try.prog 91 #[.agg #[.int .i64 r_0_zone, .int .i64 r_0_grams, .int .i64 r_0_from_, .int .i64 r_0_until_, .int .i64 r_0_cents]] (Go.Sort.grow (redrawn w_r_0 d) os) fun e w'' => e = .returned (.agg #[.int .i64 t_3_zone, .int .i64 t_3_grams]) ∧ ∃ p : Regrown, w'' = Go.Sort.grow (redrawn w_r_0 p.d) p.os := fun d os => Calls.regrown_of (Go.Proofs.Ytkinlkmmelkdnaa.GiClassOf.C ((Go.Proofs.Ytkinlkmmelkdnaa.PRate.Rate.mk r_0_zone r_0_grams r_0_from_ r_0_until_ r_0_cents))  _    qt_3)
  replace H := let_hid H
  obtain ⟨t_5, ht_5, H⟩ := H
  have ct_5 : ∀ W, (binOp .eql 95 (.agg #[.int .i64 t_3_zone, .int .i64 t_3_grams]) (.agg #[.int .i64 hq0_zone, .int .i64 hq0_grams])).run Try.prog W = .ok (.bool t_5) W := fun W => by rw [eqla_95, ht_5]
  replace H := join_hid H
  cases t_5 with
  | false =>
    replace H := ite_f H
    replace H := app_hid H
    replace H := join_hid H
    replace H := ite_f H
    replace H := app_hid H
    refine wp_region_quiet_below (by kernel_rfl) (by kernel_rfl) ?_
    repeat (go_big_quiet_step (first | (go_at_call 91; exact nt_3 _ _)))
    refine wpQuiet_nil ?_
    intro Y1 hY1
    replace hY1 := below_class hY1
    clear nt_3
    replace Fq0_0__1021 := HFq0_0__1021.out
    clear HFq0_0__1021
    replace Fq0_1__1022 := HFq0_1__1022.out
    clear HFq0_1__1022
    replace Fq1__1023 := HFq1__1023.out
    clear HFq1__1023
    replace kr_0_0 := Hkr_0_0.out
    clear Hkr_0_0
    replace kr_0_1 := Hkr_0_1.out
    clear Hkr_0_1
    replace kr_0_2 := Hkr_0_2.out
    clear Hkr_0_2
    replace kr_0_3 := Hkr_0_3.out
    clear Hkr_0_3
    replace kr_0_4 := Hkr_0_4.out
    clear Hkr_0_4
    have HBY1 := Lib.hid (Below.step HBw_r_0.out hY1)
    replace Fq0_0__1021 := cell_below hY1 Fq0_0__1021
    replace Fq0_1__1022 := cell_below hY1 Fq0_1__1022
    replace Fq1__1023 := cell_below hY1 Fq1__1023
    replace kr_0_0 := cell_below hY1 kr_0_0
    replace kr_0_1 := cell_below hY1 kr_0_1
    replace kr_0_2 := cell_below hY1 kr_0_2
    replace kr_0_3 := cell_below hY1 kr_0_3
    replace kr_0_4 := cell_below hY1 kr_0_4
    clear hY1
    obtain rfl := ret_hid H
    go_wp2_with fail
    go_ret
    exact ⟨rfl, HBY1.out⟩
  | true =>
    replace H := ite_t H
    replace H := let_hid H
    obtain ⟨t_10, ht_10, H⟩ := H
    replace H := app_hid H
    replace H := join_hid H
    cases t_10 with
    | false =>
      replace H := ite_f H
      replace H := app_hid H
      refine wp_region_quiet_below (by kernel_rfl) (by kernel_rfl) ?_
      repeat (go_big_quiet_step (first | (go_at_call 91; exact nt_3 _ _)))
      refine wpQuiet_nil ?_
      intro Y1 hY1
      replace hY1 := below_class hY1
      clear nt_3
      replace Fq0_0__1021 := HFq0_0__1021.out
      clear HFq0_0__1021
      replace Fq0_1__1022 := HFq0_1__1022.out
      clear HFq0_1__1022
      replace Fq1__1023 := HFq1__1023.out
      clear HFq1__1023
      replace kr_0_0 := Hkr_0_0.out
      clear Hkr_0_0
      replace kr_0_1 := Hkr_0_1.out
      clear Hkr_0_1
      replace kr_0_2 := Hkr_0_2.out
      clear Hkr_0_2
      replace kr_0_3 := Hkr_0_3.out
      clear Hkr_0_3
      replace kr_0_4 := Hkr_0_4.out
      clear Hkr_0_4
      have HBY1 := Lib.hid (Below.step HBw_r_0.out hY1)
      replace Fq0_0__1021 := cell_below hY1 Fq0_0__1021
      replace Fq0_1__1022 := cell_below hY1 Fq0_1__1022
      replace Fq1__1023 := cell_below hY1 Fq1__1023
      replace kr_0_0 := cell_below hY1 kr_0_0
      replace kr_0_1 := cell_below hY1 kr_0_1
      replace kr_0_2 := cell_below hY1 kr_0_2
      replace kr_0_3 := cell_below hY1 kr_0_3
      replace kr_0_4 := cell_below hY1 kr_0_4
      clear hY1
      obtain rfl := ret_hid H
      go_wp2_with fail
      go_ret
      exact ⟨rfl, HBY1.out⟩
    | true =>
      replace H := ite_t H
      replace H := let_hid H
      obtain ⟨t_16, ht_16, H⟩ := H
      replace H := app_hid H
      refine wp_region_quiet_below (by kernel_rfl) (by kernel_rfl) ?_
      repeat (go_big_quiet_step (first | (go_at_call 91; exact nt_3 _ _)))
      refine wpQuiet_nil ?_
      intro Y1 hY1
      replace hY1 := below_class hY1
      clear nt_3
      replace Fq0_0__1021 := HFq0_0__1021.out
      clear HFq0_0__1021
      replace Fq0_1__1022 := HFq0_1__1022.out
      clear HFq0_1__1022
      replace Fq1__1023 := HFq1__1023.out
      clear HFq1__1023
      replace kr_0_0 := Hkr_0_0.out
      clear Hkr_0_0
      replace kr_0_1 := Hkr_0_1.out
      clear Hkr_0_1
      replace kr_0_2 := Hkr_0_2.out
      clear Hkr_0_2
      replace kr_0_3 := Hkr_0_3.out
      clear Hkr_0_3
      replace kr_0_4 := Hkr_0_4.out
      clear Hkr_0_4
      have HBY1 := Lib.hid (Below.step HBw_r_0.out hY1)
      replace Fq0_0__1021 := cell_below hY1 Fq0_0__1021
      replace Fq0_1__1022 := cell_below hY1 Fq0_1__1022
      replace Fq1__1023 := cell_below hY1 Fq1__1023
      replace kr_0_0 := cell_below hY1 kr_0_0
      replace kr_0_1 := cell_below hY1 kr_0_1
      replace kr_0_2 := cell_below hY1 kr_0_2
      replace kr_0_3 := cell_below hY1 kr_0_3
      replace kr_0_4 := cell_below hY1 kr_0_4
      clear hY1
      obtain rfl := ret_hid H
      go_wp2_with fail
      go_ret
      exact ⟨rfl, HBY1.out⟩
end Go.Proofs.Ytkinlkmmelkdnaa.GiRaiseRate1

/- slices.IndexFunc[[]loop.example/g01062/impl.Rate,loop.example/g01062/impl.Rate] as a plain function, and the contract of the program's: where the plain one has an answer, the program has it. Conditions: slices read as lists. -/
namespace Go.Proofs.Ytkinlkmmelkdnaa.GxSlicesIndexFuncLoopExampleG01062ImplRateLoopExampleG01062ImplRateiRaiseRate1
set_option linter.unusedVariables false
set_option linter.unusedSimpArgs false
open Go.RowKit
open Go.Proofs.Ytkinlkmmelkdnaa.Rowed Go.Proofs.Ytkinlkmmelkdnaa.Turn Go.Proofs.Ytkinlkmmelkdnaa.Aid Go.Proofs.Ytkinlkmmelkdnaa.GoP Go.Proofs.Ytkinlkmmelkdnaa.GoM

def l0 (s_0 : (List Go.Proofs.Ytkinlkmmelkdnaa.PRate.Rate)) (hf1_0_zone : Int) (hf1_0_grams : Int) (hf1_1 : Int) (k0 : Nat) (s : Unit) (nx0 bk0 : Unit → Option (Int)) : Option (Int) :=
  
  Option.bind (idx s_0 (k0 : Int)) fun (yt_10 : Go.Proofs.Ytkinlkmmelkdnaa.PRate.Rate) =>
  unRate yt_10 fun (t_10_zone : Int) (t_10_grams : Int) (t_10_from_ : Int) (t_10_until_ : Int) (t_10_cents : Int) =>
  Option.bind (Go.Proofs.Ytkinlkmmelkdnaa.GiRaiseRate1.P (Go.Proofs.Ytkinlkmmelkdnaa.PRate.Rate.mk t_10_zone t_10_grams t_10_from_ t_10_until_ t_10_cents) hf1_0_zone hf1_0_grams hf1_1) fun (t_12 : Bool) =>
  iteK t_12
  (some (k0 : Int))
  (appK nx0 ())

def e0  (s : Unit) : Option (Int) :=
  
  some (-1)

def P (s_0 : (List Go.Proofs.Ytkinlkmmelkdnaa.PRate.Rate)) (hf1_0_zone : Int) (hf1_0_grams : Int) (hf1_1 : Int) : Option (Int) :=
  cntK (l0 s_0 hf1_0_zone hf1_0_grams hf1_1) (s_0.length) 0 () (e0 )

set_option maxRecDepth 100000 in
set_option maxHeartbeats 2000000 in
theorem C (s_0 : (List Go.Proofs.Ytkinlkmmelkdnaa.PRate.Rate)) (hf1_0_zone : Int) (hf1_0_grams : Int) (hf1_1 : Int) (A0 : Option Addr) (c0 : Nat) (gf1_0 : Nat) (gf1_1 : Nat) (w : World) (M0 : Hid (Cells w 5 A0 s_0.length (Go.Proofs.Ytkinlkmmelkdnaa.PRate.flat s_0))) (N0 : Hid (s_0.length ≤ 9223372036854775807)) (Ff1_0_0h : Hid (w.cell? ⟨gf1_0, 0, none⟩ = some (.int .i64 hf1_0_zone))) (Ff1_0_1h : Hid (w.cell? ⟨gf1_0, 1, none⟩ = some (.int .i64 hf1_0_grams))) (Ff1_1h : Hid (w.cell? ⟨gf1_1, 0, none⟩ = some (.int .i64 hf1_1))) {r : Int} (H : Hid (P s_0 hf1_0_zone hf1_0_grams hf1_1 = some r)) :
    Calls Try.prog 89 #[.slice A0 s_0.length c0, .func (.func 90) #[] #[.pointer (some ⟨gf1_0, 0, none⟩), .pointer (some ⟨gf1_1, 0, none⟩)]] w (Gives (.int .i64 r) w) := by
  have HB := Lib.hid (Below.refl w.heap.size w)
  unfold P at H
  have N0o := N0.out
  have Ff1_0_0 := Ff1_0_0h.out
  have Ff1_0_1 := Ff1_0_1h.out
  have Ff1_1 := Ff1_1h.out
  go_enter Try.func89, Try.ntmps89
  go_wp2_with fail
  go_loopg [8] (s_0.length) (fun m_ v8_ wr => ∃ (k0 : Nat) , k0 + m_ = s_0.length ∧ v8_ = .int .i64 (k0 : Int) ∧ Hid (cntK (l0 s_0 hf1_0_zone hf1_0_grams hf1_1) m_ k0 () (e0 ) = some r) ∧ Hid (Below w.heap.size w wr) ∧ wr.cell? ⟨gf1_0, 0, none⟩ = some (.int .i64 hf1_0_zone) ∧ wr.cell? ⟨gf1_0, 1, none⟩ = some (.int .i64 hf1_0_grams) ∧ wr.cell? ⟨gf1_1, 0, none⟩ = some (.int .i64 hf1_1))
  case atStart => exact ⟨0, by omega, rfl, H, HB, Ff1_0_0, Ff1_0_1, Ff1_1⟩
  case round =>
    obtain ⟨k0, hkm0, rfl, H, HBwr0, Ff1_0_0, Ff1_0_1, Ff1_1⟩ := hrel
    rename World => wr0
    cases gk with
    | zero =>
      obtain rfl : k0 = s_0.length := by omega
      have hc0 : decide (((s_0.length : Nat) : Int) < ((s_0.length : Nat) : Int)) = false := by simp
      replace H := cnt_zero H
      unfold e0 at H
      obtain rfl := ret_hid H
      go_wp2_with fail
      go_ret
      exact ⟨rfl, HBwr0.out⟩
    | succ m0 =>
      have hlt0 : k0 < s_0.length := by omega
      have hc0 : decide ((k0 : Int) < ((s_0.length : Nat) : Int)) = true := by simp; omega
      replace H := cnt_succ H
      unfold l0 at H
      replace H := idx_hid H
      obtain ⟨nt_10, yt_10, et_10, lt_10, gt_10, H⟩ := H
      obtain rfl : k0 = nt_10 := by omega
      clear et_10
      obtain ⟨t_10_zone, t_10_grams, t_10_from_, t_10_until_, t_10_cents⟩ := yt_10
      replace H := unRate_hid H
      obtain ⟨ab_t_10, ao_t_10, zt_10, At_10, z_t_10, ct_10_0, ct_10_1, ct_10_2, ct_10_3, ct_10_4⟩ := Go.Proofs.Ytkinlkmmelkdnaa.ORate.at_ M0.out lt_10
      obtain rfl := Option.some.inj (gt_10.out.symm.trans z_t_10)
      subst At_10
      have ltt_10 := cell_lt ct_10_0
      replace ct_10_0 := cell_below HBwr0.out ct_10_0
      replace ct_10_1 := cell_below HBwr0.out ct_10_1
      replace ct_10_2 := cell_below HBwr0.out ct_10_2
      replace ct_10_3 := cell_below HBwr0.out ct_10_3
      replace ct_10_4 := cell_below HBwr0.out ct_10_4
      clear z_t_10
      have b0t_10 : (0 : Int) ≤ (k0 : Int) := by omega
      have b1t_10 : (k0 : Int) < ((s_0.length : Nat) : Int) := by omega
      have b2t_10 : ((k0 : Int)).toNat = k0 := by omega
      replace H := bind_hid H
      obtain ⟨t_12, qt_12, H⟩ := H
      go_wp2_with fail
      go_at_call 90
      refine (Go.Proofs.Ytkinlkmmelkdnaa.GiRaiseRate1.C ((Go.Proofs.Ytkinlkmmelkdnaa.PRate.Rate.mk t_10_zone t_10_grams t_10_from_ t_10_until_ t_10_cents)) (hf1_0_zone) (hf1_0_grams) (hf1_1) (gf1_0) (gf1_1) _   (Lib.hid Ff1_0_0) (Lib.hid Ff1_0_1) (Lib.hid Ff1_1) qt_12).mono ?_
      rintro e_t_12 wt_12 ⟨rfl, bt_12⟩
      have HBwt_12 := Lib.hid (Below.step HBwr0.out bt_12)
      replace Ff1_0_0 := cell_below bt_12 Ff1_0_0
      replace Ff1_0_1 := cell_below bt_12 Ff1_0_1
      replace Ff1_1 := cell_below bt_12 Ff1_1
      replace ct_10_0 := cell_below bt_12 ct_10_0
      replace ct_10_1 := cell_below bt_12 ct_10_1
      replace ct_10_2 := cell_below bt_12 ct_10_2
      replace ct_10_3 := cell_below bt_12 ct_10_3
      replace ct_10_4 := cell_below bt_12 ct_10_4
      clear bt_12
      cases t_12 with
      | false =>
        replace H := ite_f H
        replace H := app_hid H
        go_wp2_with fail
        go_roundg m0
        case measure => omega
        case rel => exact ⟨k0 + 1, by omega, by go_num, H, HBwt_12, Ff1_0_0, Ff1_0_1, Ff1_1⟩
      | true =>
        replace H := ite_t H
        obtain rfl := ret_hid H
        go_wp2_with fail
        go_ret
        exact ⟨rfl, HBwt_12.out⟩
end Go.Proofs.Ytkinlkmmelkdnaa.GxSlicesIndexFuncLoopExampleG01062ImplRateLoopExampleG01062ImplRateiRaiseRate1

/- slices.Grow of rates, from nil, as a plain function; the contract of the program's. Condition: the slice is nil. -/
namespace Go.Proofs.Ytkinlkmmelkdnaa.GxSlicesGrowLoopExampleG01062ImplRateLoopExampleG01062ImplRate
set_option linter.unusedVariables false
set_option linter.unusedSimpArgs false
open Go.RowKit Go.Lib
open Go.Proofs.Ytkinlkmmelkdnaa.Rowed Go.Proofs.Ytkinlkmmelkdnaa.Turn Go.Proofs.Ytkinlkmmelkdnaa.Aid Go.Proofs.Ytkinlkmmelkdnaa.GoP Go.Proofs.Ytkinlkmmelkdnaa.GoM
def P (s_0 : List Go.Proofs.Ytkinlkmmelkdnaa.PRate.Rate) (n_1 : Int) : Option (List Go.Proofs.Ytkinlkmmelkdnaa.PRate.Rate) := if s_0.length = 0 ∧ 0 ≤ n_1 ∧ n_1 ≤ 1099511627776 then some [] else none
theorem made {P : Program} (w : World) (e : TypeId) (z : Value) (hz : z.cells.size = 5) (n G : Nat) (h : n ≤ G) (hm : G ≤ maxLen) :
    (w.drew.alloc (.cells (([] : List Value).toArray ++ Builtin.zeroCells z.cells n ++ Builtin.zeroCells z.cells (G - n)) e)).ownsRow w.heap.size e 5 (.slice (some ⟨w.heap.size, 0, none⟩) 0 G) 0 [] ∧
    Below w.heap.size w (w.drew.alloc (.cells (([] : List Value).toArray ++ Builtin.zeroCells z.cells n ++ Builtin.zeroCells z.cells (G - n)) e)) := by
  refine ⟨World.ownsRow_made (size := 5) w.drew _ G (Nat.le_refl _) hm ?_, ((Below.refl _ _).drew).alloc (Nat.le_refl _) _⟩
  simp only [Builtin.zeroCells, Array.size_append, Array.size_map, Array.size_range, hz, List.size_toArray, List.length_nil]
  omega
set_option maxRecDepth 100000 in
set_option maxHeartbeats 2000000 in
theorem C (s_0 : List Go.Proofs.Ytkinlkmmelkdnaa.PRate.Rate) (n_1 : Int) (w : World) {r : List Go.Proofs.Ytkinlkmmelkdnaa.PRate.Rate} (H : Hid (P s_0 n_1 = some r)) :
    Calls Try.prog 130 #[.slice none 0 0, .int .i64 n_1] w (fun e w' => ∃ A_r c_r, e = .returned (.slice A_r r.length c_r) ∧ w'.ownsRow w.heap.size 25 5 (.slice A_r r.length c_r) r.length (Go.Proofs.Ytkinlkmmelkdnaa.PRate.flat r) ∧ Below w.heap.size w w') := by
  have h : P s_0 n_1 = some r := H
  unfold P at h
  by_cases hp : s_0.length = 0 ∧ 0 ≤ n_1 ∧ n_1 ≤ 1099511627776
  · rw [if_pos hp] at h
    obtain rfl := Option.some.inj h
    obtain ⟨hl, hn0, hn1⟩ := hp
    clear h H hl
    obtain ⟨n, rfl⟩ : ∃ n : Nat, n_1 = (n : Int) := ⟨n_1.toNat, by omega⟩
    have h1 : ¬ ((n : Int) < 0) := by omega
    have h2 : wrap64 (((0 : Nat) : Int) - ((0 : Nat) : Int)) = 0 := by unfold wrap64; omega
    have h3 : wrap64 ((n : Int) - 0) = (n : Int) := by unfold wrap64; omega
    by_cases hz : n = 0
    · subst hz
      go_enter Try.func130, Try.ntmps130
      go_wp2_with fail
      go_ret
      exact ⟨none, 0, rfl, World.ownsRow_nil _ _ _ _, Below.refl _ _⟩
    · have h4 : (n : Int) > 0 := by omega
      obtain ⟨i0, hi, hz0, hz1, hz2⟩ := Aid.info_parts (P := Try.prog) (T := 25) (z := .agg #[.int .i64 0, .int .i64 0, .int .i64 0, .int .i64 0, .int .i64 0]) (s := 5) (b := 40) (by kernel_rfl)
      have hbig : (0 + n) * i0.bytes ≤ 140737488355328 := by rw [hz2]; omega
      have hold : (Builtin.firstCells i0.size 0 (.slice none 0 0)).run Try.prog w.drew = .ok ([] : List Value).toArray w.drew := run_firstCells_none w.drew i0.size 0 0 0
      have hrz : ∀ ty, (Builtin.append_ #[31, 3] ty #[.slice none 0 0, .int .i64 (n : Int)]).run Try.prog w =
          .ok (.slice (some ⟨w.heap.size, 0, none⟩) (0 + n) (grownCap w (0 + n) 0 25)) (w.drew.alloc (.cells (([] : List Value).toArray ++ Builtin.zeroCells (Value.agg #[.int .i64 0, .int .i64 0, .int .i64 0, .int .i64 0, .int .i64 0]).cells n ++ Builtin.zeroCells (Value.agg #[.int .i64 0, .int .i64 0, .int .i64 0, .int .i64 0, .int .i64 0]).cells (grownCap w (0 + n) 0 25 - (0 + n))) 25)) := fun ty =>
        Lib.run_append_grow_zeros w 31 3 ty 25 i0 _ .i64 .i64 Try.underlying31 Try.underlying3 hi hz0 none 0 0 [] hold n (by omega) (by rw [hz1]; decide) (by omega) (by omega) (by rw [hz2]; omega) (growslice_fits (by omega) hbig)
      have hGn : 0 + n ≤ grownCap w (0 + n) 0 25 := grownCap_ge w _ _ _
      have hGm : grownCap w (0 + n) 0 25 ≤ maxLen := grownCap_le_maxLen w (0 + n) 0 25 (by unfold maxLen; omega)
      obtain ⟨G, hG⟩ : ∃ G, G = grownCap w (0 + n) 0 25 := ⟨_, rfl⟩
      rw [← hG] at hrz hGn hGm
      rw [Nat.zero_add] at hrz hGn
      have hmade := made (P := Try.prog) w 25 (Value.agg #[.int .i64 0, .int .i64 0, .int .i64 0, .int .i64 0, .int .i64 0]) rfl n G hGn hGm
      obtain ⟨w1, hw1⟩ : ∃ x, w.drew.alloc (.cells (([] : List Value).toArray ++ Builtin.zeroCells (Value.agg #[.int .i64 0, .int .i64 0, .int .i64 0, .int .i64 0, .int .i64 0]).cells n ++ Builtin.zeroCells (Value.agg #[.int .i64 0, .int .i64 0, .int .i64 0, .int .i64 0, .int .i64 0]).cells (G - n)) 25) = x := ⟨_, rfl⟩
      rw [hw1] at hrz hmade
      unfold maxLen at hGm
      clear hold hG hbig
      go_enter Try.func130, Try.ntmps130
      go_wp2_with (at_builtin; refine Lib.wpList_append_run _ rfl _ _ _ _ rfl _ _ rfl rfl _ _ (hrz _) ?_)
      all_goals (go_ret; exact ⟨_, G, rfl, hmade.1, hmade.2⟩)
  · rw [if_neg hp] at h; simp at h
end Go.Proofs.Ytkinlkmmelkdnaa.GxSlicesGrowLoopExampleG01062ImplRateLoopExampleG01062ImplRate

/- slices.Concat[[]loop.example/g01062/impl.Rate,loop.example/g01062/impl.Rate] as a plain function, and the contract of the program's: where the plain one has an answer, the program has it. Conditions: slices read as lists. -/
namespace Go.Proofs.Ytkinlkmmelkdnaa.GxSlicesConcatLoopExampleG01062ImplRateLoopExampleG01062ImplRate
set_option linter.unusedVariables false
set_option linter.unusedSimpArgs false
open Go.RowKit
open Go.Proofs.Ytkinlkmmelkdnaa.Rowed Go.Proofs.Ytkinlkmmelkdnaa.Turn Go.Proofs.Ytkinlkmmelkdnaa.Aid Go.Proofs.Ytkinlkmmelkdnaa.GoP Go.Proofs.Ytkinlkmmelkdnaa.GoM

def l0 (slices : (List (List Go.Proofs.Ytkinlkmmelkdnaa.PRate.Rate))) (k0 : Nat) (s : Int) (nx0 bk0 : Int → Option ((List Go.Proofs.Ytkinlkmmelkdnaa.PRate.Rate))) : Option ((List Go.Proofs.Ytkinlkmmelkdnaa.PRate.Rate)) :=
  letK s fun size_3l0 =>
  Option.bind (idx slices (k0 : Int)) fun (yt_6 : (List Go.Proofs.Ytkinlkmmelkdnaa.PRate.Rate)) =>
  letK (IntKind.i64.wrap (size_3l0 + (yt_6.length : Int))) fun (t_12 : Int) =>
  letK (decide (t_12 < 0)) fun (t_15 : Bool) =>
  iteK t_15
  (none)
  (appK nx0 (t_12))

def l1 (slices : (List (List Go.Proofs.Ytkinlkmmelkdnaa.PRate.Rate))) (k1 : Nat) (s : (List Go.Proofs.Ytkinlkmmelkdnaa.PRate.Rate)) (nx1 bk1 : (List Go.Proofs.Ytkinlkmmelkdnaa.PRate.Rate) → Option ((List Go.Proofs.Ytkinlkmmelkdnaa.PRate.Rate))) : Option ((List Go.Proofs.Ytkinlkmmelkdnaa.PRate.Rate)) :=
  letK s fun newslice_6l1 =>
  Option.bind (idx slices (k1 : Int)) fun (yt_27 : (List Go.Proofs.Ytkinlkmmelkdnaa.PRate.Rate)) =>
  guardK (newslice_6l1.length + yt_27.length ≤ 1099511627776) <|
  letK (newslice_6l1 ++ yt_27) fun (t_32 : (List Go.Proofs.Ytkinlkmmelkdnaa.PRate.Rate)) =>
  appK nx1 (t_32)

def e1  (s : (List Go.Proofs.Ytkinlkmmelkdnaa.PRate.Rate)) : Option ((List Go.Proofs.Ytkinlkmmelkdnaa.PRate.Rate)) :=
  letK s fun newslice_6l1 =>
  some newslice_6l1

def e0 (slices : (List (List Go.Proofs.Ytkinlkmmelkdnaa.PRate.Rate))) (s : Int) : Option ((List Go.Proofs.Ytkinlkmmelkdnaa.PRate.Rate)) :=
  letK s fun size_3l0 =>
  Option.bind (Go.Proofs.Ytkinlkmmelkdnaa.GxSlicesGrowLoopExampleG01062ImplRateLoopExampleG01062ImplRate.P [] size_3l0) fun (t_21 : (List Go.Proofs.Ytkinlkmmelkdnaa.PRate.Rate)) =>
  cntK (l1 slices) (slices.length) 0 (t_21) (e1 )

def P (slices : (List (List Go.Proofs.Ytkinlkmmelkdnaa.PRate.Rate))) : Option ((List Go.Proofs.Ytkinlkmmelkdnaa.PRate.Rate)) :=
  cntK (l0 slices) (slices.length) 0 (0) (e0 slices)

set_option maxRecDepth 100000 in
set_option maxHeartbeats 2000000 in
theorem C (slices : (List (List Go.Proofs.Ytkinlkmmelkdnaa.PRate.Rate))) (A0 : Option Addr) (c0 : Nat)  (w : World) (M0 : Hid (Go.Proofs.Ytkinlkmmelkdnaa.GoN.ReadNest w 5 Go.Proofs.Ytkinlkmmelkdnaa.PRate.flat A0 slices)) (N0 : Hid (slices.length ≤ 9223372036854775807)) (Q0 : Hid (Room A0 slices.length c0))  {r : (List Go.Proofs.Ytkinlkmmelkdnaa.PRate.Rate)} (H : Hid (P slices = some r)) :
    Calls Try.prog 92 #[.slice A0 slices.length c0] w (fun e w' => ∃ A_r c_r, e = .returned (.slice A_r r.length c_r) ∧ w'.ownsRow w.heap.size 25 5 (.slice A_r r.length c_r) r.length (Go.Proofs.Ytkinlkmmelkdnaa.PRate.flat r) ∧ Below w.heap.size w w') := by
  have HB := Lib.hid (Below.refl w.heap.size w)
  unfold P at H
  have N0o := N0.out
  obtain ⟨i0_25, hi_25, hz0_25, hz1_25, hz2_25⟩ := Aid.info_parts (P := Try.prog) (T := 25) (z := .agg #[.int .i64 0, .int .i64 0, .int .i64 0, .int .i64 0, .int .i64 0]) (s := 5) (b := 40) (by kernel_rfl)
  go_enter Try.func92, Try.ntmps92
  go_wp2_with fail
  go_loopg [11, 3] (slices.length) (fun m_ v11_ v3_ wr => ∃ (k0 : Nat) (size_3l0 : Int), k0 + m_ = slices.length ∧ v11_ = .int .i64 (k0 : Int) ∧ v3_ = .int .i64 size_3l0 ∧ Hid (cntK (l0 slices) m_ k0 (size_3l0) (e0 slices) = some r) ∧ Hid (Below w.heap.size w wr))
  case atStart => exact ⟨0, _, by omega, rfl, rfl, H, HB⟩
  case round =>
    obtain ⟨k0, size_3l0, hkm0, rfl, rfl, H, HBwr0⟩ := hrel
    rename World => wr0
    cases gk with
    | zero =>
      obtain rfl : k0 = slices.length := by omega
      have hc0 : decide (((slices.length : Nat) : Int) < ((slices.length : Nat) : Int)) = false := by simp
      replace H := cnt_zero H
      unfold e0 at H
      replace H := let_hid H
      obtain ⟨_, rfl, H⟩ := H
      replace H := bind_hid H
      obtain ⟨t_21, qt_21, H⟩ := H
      go_wp2_with fail
      go_at_call 130
      refine (Go.Proofs.Ytkinlkmmelkdnaa.GxSlicesGrowLoopExampleG01062ImplRateLoopExampleG01062ImplRate.C ([]) (size_3l0)  _    qt_21).mono ?_
      rintro e_t_21 wt_21 ⟨At_21, ct_21, rfl, ot_21, bt_21⟩
      have Ot_21 := Lib.hid (own_lower ot_21 HBwr0.out.size)
      clear ot_21
      have HBwt_21 := Lib.hid (Below.step HBwr0.out bt_21)
      clear bt_21
      go_wp2_with fail
      go_loopg [27, 6] (slices.length) (fun m_ v27_ v6_ wr => ∃ (k1 : Nat) (newslice_6l1 : (List Go.Proofs.Ytkinlkmmelkdnaa.PRate.Rate)) (Anewslice_6l1 : Option Addr) (cnewslice_6l1 : Nat), k1 + m_ = slices.length ∧ v27_ = .int .i64 (k1 : Int) ∧ v6_ = .slice Anewslice_6l1 newslice_6l1.length cnewslice_6l1 ∧ Hid (cntK (l1 slices) m_ k1 (newslice_6l1) (e1 ) = some r) ∧ Hid (Below w.heap.size w wr) ∧ Hid (wr.ownsRow w.heap.size 25 5 (.slice Anewslice_6l1 newslice_6l1.length cnewslice_6l1) newslice_6l1.length (Go.Proofs.Ytkinlkmmelkdnaa.PRate.flat newslice_6l1)))
      case atStart => exact ⟨0, _, _, _, by omega, rfl, rfl, H, HBwt_21, Ot_21⟩
      case round =>
        obtain ⟨k1, newslice_6l1, Anewslice_6l1, cnewslice_6l1, hkm1, rfl, rfl, H, HBwr1, Onewslice_6l1⟩ := hrel
        rename World => wr1
        cases gk with
        | zero =>
          obtain rfl : k1 = slices.length := by omega
          have hc1 : decide (((slices.length : Nat) : Int) < ((slices.length : Nat) : Int)) = false := by simp
          replace H := cnt_zero H
          unfold e1 at H
          replace H := let_hid H
          obtain ⟨_, rfl, H⟩ := H
          obtain rfl := ret_hid H
          go_wp2_with fail
          go_ret
          exact ⟨Anewslice_6l1, cnewslice_6l1, rfl, Onewslice_6l1.out, HBwr1.out⟩
        | succ m1 =>
          have hlt1 : k1 < slices.length := by omega
          have hc1 : decide ((k1 : Int) < ((slices.length : Nat) : Int)) = true := by simp; omega
          replace H := cnt_succ H
          unfold l1 at H
          replace H := let_hid H
          obtain ⟨_, rfl, H⟩ := H
          replace H := idx_hid H
          obtain ⟨nt_27, yt_27, et_27, lt_27, gt_27, H⟩ := H
          obtain rfl : k1 = nt_27 := by omega
          clear et_27
          obtain ⟨bbt_27, oot_27, zt_27, Art_27, crt_27, eAt_27, zzt_27, hct_27, hrt_27, hqt_27, hnt_27⟩ := Go.Proofs.Ytkinlkmmelkdnaa.GoN.nest_at M0.out (k := k1) lt_27
          obtain rfl := Option.some.inj (gt_27.out.symm.trans zzt_27)
          clear zzt_27
          subst eAt_27
          have ltt_27 := cell_lt hct_27
          replace hct_27 := cell_below HBwr1.out hct_27
          have Mrt_27 := Lib.hid hrt_27
          have Qrt_27 := Lib.hid hqt_27
          have Nrt_27 := Lib.hid hnt_27
          clear hrt_27 hqt_27 hnt_27
          have b0t_27 : (0 : Int) ≤ (k1 : Int) := by omega
          have b1t_27 : (k1 : Int) < ((slices.length : Nat) : Int) := by omega
          have b2t_27 : ((k1 : Int)).toNat = k1 := by omega
          replace H := guard_hid H
          obtain ⟨hlt_32, H⟩ := H
          replace H := let_hid H
          obtain ⟨t_32, ht_32, H⟩ := H
          have hht_32 := Lib.hid ht_32
          clear ht_32
          have hst_32 := HBwr1.out.size
          have Ct_32 := Lib.hid ((Cells.below Mrt_27.out HBwr1.out))
          go_wp2_with (at_builtin; refine append_spread rfl _ _ 31 rfl w.heap.size 25 i0_25 (.agg #[.int .i64 0, .int .i64 0, .int .i64 0, .int .i64 0, .int .i64 0]) 5 40 Try.underlying31 hi_25 hz0_25 hz1_25 hz2_25 rfl (by decide) Anewslice_6l1 cnewslice_6l1 newslice_6l1.length _ rfl Onewslice_6l1.out Art_27 yt_27.length crt_27 (Go.Proofs.Ytkinlkmmelkdnaa.PRate.flat yt_27) rfl Qrt_27.out Ct_32.out (fun u hu => by obtain ⟨y_, _, hy_⟩ := List.mem_flatMap.1 hu; simp only [Go.Proofs.Ytkinlkmmelkdnaa.PRate.Rate.cells, List.mem_cons, List.not_mem_nil, or_false] at hy_; rcases hy_ with rfl | rfl | rfl | rfl | rfl <;> rfl) (by unfold maxLen; omega) (by omega) hst_32 ?_; intro vt_32 wt_32 ot_32 gt_32 yt_32; obtain ⟨At_32, ct_32, rfl, pt_32⟩ := own_pushS (f := Go.Proofs.Ytkinlkmmelkdnaa.PRate.flat) hht_32.out (by simp [Go.Proofs.Ytkinlkmmelkdnaa.PRate.flat]) rfl ot_32; have Pt_32 := Lib.hid pt_32; have Yt_32 := Lib.hid yt_32; have Gt_32 := Lib.hid gt_32; clear ot_32 gt_32 pt_32 yt_32; refine stop_in ?_)
          refine stop_out ?_
          clear Ct_32
          have HBwt_32 := Lib.hid (HBwr1.out.grown Gt_32.out hst_32 (fun q hq => (Onewslice_6l1.out.lt q hq).1))
          clear hst_32
          replace hct_27 := cell_other hct_27 Gt_32.out (apart_old Onewslice_6l1.out ltt_27)
          clear Onewslice_6l1 Yt_32 Gt_32
          replace H := app_hid H
          go_wp2_with fail
          go_roundg m1
          case measure => omega
          case rel => exact ⟨k1 + 1, _, _, _, by omega, by go_num, rfl, H, HBwt_32, Pt_32⟩
    | succ m0 =>
      have hlt0 : k0 < slices.length := by omega
      have hc0 : decide ((k0 : Int) < ((slices.length : Nat) : Int)) = true := by simp; omega
      replace H := cnt_succ H
      unfold l0 at H
      replace H := let_hid H
      obtain ⟨_, rfl, H⟩ := H
      replace H := idx_hid H
      obtain ⟨nt_6, yt_6, et_6, lt_6, gt_6, H⟩ := H
      obtain rfl : k0 = nt_6 := by omega
      clear et_6
      obtain ⟨bbt_6, oot_6, zt_6, Art_6, crt_6, eAt_6, zzt_6, hct_6, hrt_6, hqt_6, hnt_6⟩ := Go.Proofs.Ytkinlkmmelkdnaa.GoN.nest_at M0.out (k := k0) lt_6
      obtain rfl := Option.some.inj (gt_6.out.symm.trans zzt_6)
      clear zzt_6
      subst eAt_6
      have ltt_6 := cell_lt hct_6
      replace hct_6 := cell_below HBwr0.out hct_6
      have Mrt_6 := Lib.hid hrt_6
      have Qrt_6 := Lib.hid hqt_6
      have Nrt_6 := Lib.hid hnt_6
      clear hrt_6 hqt_6 hnt_6
      have b0t_6 : (0 : Int) ≤ (k0 : Int) := by omega
      have b1t_6 : (k0 : Int) < ((slices.length : Nat) : Int) := by omega
      have b2t_6 : ((k0 : Int)).toNat = k0 := by omega
      replace H := let_hid H
      obtain ⟨t_12, ht_12, H⟩ := H
      replace H := let_hid H
      obtain ⟨t_15, ht_15, H⟩ := H
      cases t_15 with
      | false =>
        replace H := ite_f H
        replace H := app_hid H
        go_wp2_with fail
        go_roundg m0
        case measure => omega
        case rel => exact ⟨k0 + 1, _, by omega, by go_num, rfl, H, HBwr0⟩
      | true =>
        replace H := ite_t H
        exact (none_hid H).elim
end Go.Proofs.Ytkinlkmmelkdnaa.GxSlicesConcatLoopExampleG01062ImplRateLoopExampleG01062ImplRate

