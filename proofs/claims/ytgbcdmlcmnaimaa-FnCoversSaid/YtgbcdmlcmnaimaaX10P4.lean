/- Texts on which the proofs of several laws stand, one behind the other (4 of 20). No condition of their own. -/
import Derived.Lib.SliceRun
import Derived.Test.YtgbcdmlcmnaimaaX10P1
import Derived.Deep.AppendLies
import Derived.Test.YtgbcdmlcmnaimaaChecked
import Derived.Deep.Slices
import Derived.Deep.Fields
import Derived.ChangeSame
import Derived.Lib.LaidU8
import Derived.WalkKit
import Derived.WalkSpells
import Derived.WalkLawsBesides
import Derived.BigQuiet
import Derived.OwnWalk
import Derived.Deep.LoopGhost
import Derived.Deep.QuietTactic
import Derived.IntWalk
import Derived.Lib.QuietBelow
set_option linter.unusedVariables false
set_option linter.unusedSimpArgs false
namespace Go.Proofs.Ytgbcdmlcmnaimaa.GoK
open Go.RowKit
open Go.Proofs.Ytgbcdmlcmnaimaa.Rowed Go.Proofs.Ytgbcdmlcmnaimaa.Turn Go.Proofs.Ytgbcdmlcmnaimaa.GoM

/-- a test of a row against nil: only an empty row can be nil, and then both ways have one answer -/
def nilK {α ρ : Type} (l : List α) (f : Bool → Option ρ) : Option ρ := f false
theorem nilK_hid {α ρ : Type} {l : List α} {f : Bool → Option ρ} {r : ρ} (H : Hid (nilK l f = some r)) (b : Bool) (hb : b = true → l = []) (he : l = [] → f true = f false) : Hid (f b = some r) := by
  have h : f false = some r := H
  cases b with
  | false => exact h
  | true => exact (he (hb rfl)).trans h
theorem nil_cells {w : World} {K n : Nat} {A : Option Addr} {α : Type} {l : List α} {cs : List Value} (h : Cells w K A n cs) (hl : cs = [] → l = []) : A.isNone = true → l = [] := by
  intro hA
  refine hl ?_
  cases hc : cs with
  | nil => rfl
  | cons y ys => obtain ⟨a, e, _⟩ := h.2 (by rw [hc]; simp); rw [e] at hA; simp at hA
/-- where a row lies that a function hands on: where another one lay, or behind all that was there -/
def From (w : World) (A A' : Option Addr) : Prop := ∀ a', A' = some a' → (∃ a, A = some a ∧ a.block = a'.block) ∨ w.heap.size ≤ a'.block
theorem from_self {w : World} {A : Option Addr} : From w A A := fun a h => .inl ⟨a, h, rfl⟩
theorem from_new {w : World} {A : Option Addr} {g : Nat} (h : w.heap.size ≤ g) : From w A (some ⟨g, 0, none⟩) := by
  intro a' e
  injection e with e
  subst e
  exact .inr h
theorem apart_from {w : World} {A A' B : Option Addr} (hD : Apart A B) (hB : ∀ a, B = some a → a.block < w.heap.size) (h : From w A A') : Apart A' B := by
  intro a a' ha ha' e
  have hl := hB a' ha'
  rcases h a ha with ⟨a2, h2, e2⟩ | h2
  · exact hD a2 a' h2 ha' (e2.trans e)
  · omega
theorem own_emptyB {b : Nat} {wc : World} {T K : Nat} (h : b ≤ wc.heap.size) : (wc.alloc (.cells #[] T)).ownsRow b T K (.slice (some ⟨wc.heap.size, 0, none⟩) 0 0) 0 [] :=
  ⟨by simp, .inr ⟨wc.heap.size, 0, #[], rfl, h, heap_alloc_new wc _, Nat.le_refl _, by unfold maxLen; omega, by simp, by simp⟩⟩
theorem own_setCells {b T K n c g : Nat} : ∀ (vs : List Value) (o : Nat) {w : World} {xs : List Value}, w.ownsRow b T K (.slice (some ⟨g, 0, none⟩) n c) n xs → o + vs.length ≤ xs.length →
    (w.setCells g o vs).ownsRow b T K (.slice (some ⟨g, 0, none⟩) n c) n (xs.take o ++ vs ++ xs.drop (o + vs.length)) ∧ w.grownBy (w.setCells g o vs) (some g) := by
  intro vs
  induction vs with
  | nil => intro o w xs h _; exact ⟨by simpa [World.setCells] using h, Aid.grown_refl _ _⟩
  | cons v vs ih =>
    intro o w xs h hl
    simp only [List.length_cons] at hl
    have h1 := h.stored o v
    have h2 := ih (o + 1) h1.1 (by rw [List.length_set]; omega)
    refine ⟨?_, Aid.grown_tr h1.2 h2.2⟩
    have e : (xs.set o v).take (o + 1) ++ vs ++ (xs.set o v).drop (o + 1 + vs.length) = xs.take o ++ (v :: vs) ++ xs.drop (o + (v :: vs).length) := by
      have ho : o < xs.length := by omega
      rw [List.drop_set_of_lt (by omega), List.take_add_one, List.getElem?_set_self ho, List.take_set_of_le (Nat.le_refl _)]
      simp [Nat.add_comm, Nat.add_left_comm]
    rw [← e]
    exact h2.1
/-- clear(s[lo:]) of a row of its own -/
theorem own_clear {P : Program} {t e : TypeId} {i : TypeInfo} {k : IntKind} {n c b : Nat} {A : Option Addr} {lo : Int} {w : World} {xs ys : List Value} {z : Value}
    (ht : P.underlying t = some (.slice (P.elem t))) (he : P.elem t = e) (hi : P.info? e = some i) (hs : i.size = 1) (hv : i.zero = some z) (hz : z.cells = #[z]) (h1 : z.oneCell' = true)
    (h : w.ownsRow b e 1 (.slice A n c) n xs) (hl : 0 ≤ lo ∧ lo ≤ (n : Int)) (hd : xs.take lo.toNat ++ List.replicate (n - lo.toNat) z = ys) :
    ∃ A' m c' w', (∀ W, (Instr.slice t (.slice A n c) (some (.int k lo)) none none).run P W = .ok (.slice A' m c') W) ∧ (∀ ty, (Builtin.clear_ #[t] ty #[.slice A' m c']).run P w = .ok (.tuple #[]) w') ∧
      w'.ownsRow b e 1 (.slice A n c) n ys ∧ w.grownBy w' (Value.slice A n c).ownBlock := by
  have hR := own_room h
  have hxs : xs.length = n := by have := h.1; omega
  have hsz : ∀ W, (sizeOf (P.elem t)).run P W = .ok 1 W := by intro W; subst he; simp [sizeOf, typeInfo, hi, hs]
  have hrun : ∀ W, (Instr.slice t (.slice A n c) (some (.int k lo)) none none).run P W = .ok (.slice (if c = lo.toNat then A else A.map (·.add (lo.toNat * 1))) (n - lo.toNat) (c - lo.toNat)) W := by
    intro W
    rw [run_slice_l (P := P) W t A n c ht k lo hl.1 hl.2, hsz W]
    rfl
  by_cases hm : n - lo.toNat = 0
  · refine ⟨_, _, _, w, hrun, ?_, ?_, Aid.grown_refl _ _⟩
    · intro ty
      rw [hm]
      generalize (if c = lo.toNat then A else A.map (·.add (lo.toNat * 1))) = A'
      cases A' <;> simp [Builtin.clear_, run_underlying ht]
    · rw [← hd, hm, List.replicate_zero, List.append_nil, List.take_of_length_le (by omega)]
      exact h
  · obtain ⟨g, rfl⟩ := own_some h (by omega)
    have hne : ¬ c = lo.toNat := by have := hR.1; omega
    have hcl := own_cells h
    have hget : ∀ j, j < n → (w.cell? ⟨g, j, none⟩).isSome = true := by
      intro j hj
      obtain ⟨ad, e0, hc⟩ := hcl.2 (by omega)
      obtain rfl := Option.some.inj e0
      have := hc j xs[j] (List.getElem?_eq_getElem (by omega))
      rw [add_flat, Nat.zero_add] at this
      rw [this]; rfl
    have hadd : (if c = lo.toNat then (some ⟨g, 0, none⟩ : Option Addr) else (some ⟨g, 0, none⟩ : Option Addr).map (·.add (lo.toNat * 1))) = some ⟨g, lo.toNat, none⟩ := by
      rw [if_neg hne, Option.map_some, add_flat, Nat.zero_add, Nat.mul_one]
    rw [hadd] at hrun
    have h2 := own_setCells (List.replicate (n - lo.toNat) z) lo.toNat h (by rw [List.length_replicate]; omega)
    refine ⟨_, _, _, _, hrun, fun ty => ?_, ?_, h2.2⟩
    · refine Lib.run_clear_slice w t e ty z (he ▸ ht) (fun w => by simp [zeroValue, typeInfo, hi, hv]) hz h1 g lo.toNat (n - lo.toNat) (c - lo.toNat) (by omega) (fun j hj => hget _ (by omega)) (fun j hj => h.frozenAt _)
    · have e2 : xs.take lo.toNat ++ List.replicate (n - lo.toNat) z ++ xs.drop (lo.toNat + (List.replicate (n - lo.toNat) z).length) = ys := by
        rw [List.length_replicate, List.drop_of_length_le (by omega), List.append_nil, hd]
      rw [← e2]
      exact h2.1
theorem apart_xio {n bb oo : Nat} {B : Option Addr} (h : 0 < n → Apart (some ⟨bb, oo, none⟩) B) (h0 : 0 < n) : Apart B (some ⟨bb, 0, none⟩) := by
  intro a a' ha ha' e
  injection ha' with ha'
  subst ha'
  exact h h0 ⟨bb, oo, none⟩ a rfl ha e.symm
/-- a row that came in, where another one was written -/
theorem cells_wr {w w' : World} {K n q c' : Nat} {A B : Option Addr} {xs : List Value} (h : Cells w K A n xs) (hg : w.grownBy w' (Value.slice B q c').ownBlock) (hX : 0 < n → Apart A B) : Cells w' K A n xs := by
  refine ⟨h.1, fun h0 => ?_⟩
  obtain ⟨a, e, hc⟩ := h.2 h0
  have hn : 0 < n := by
    rcases Nat.eq_zero_or_pos n with h1 | h1
    · have := h.1; rw [h1, Nat.zero_mul] at this; omega
    · exact h1
  refine ⟨a, e, fun j u hu => ?_⟩
  have hj := hc j u hu
  have hb : (a.add j).block = a.block := by unfold Addr.add; split <;> rfl
  rw [World.cell?_of_block (hg.block (a.add j).block (cell_lt hj) ?_)]
  · exact hj
  · cases hB : B with
    | none => simp [Value.ownBlock]
    | some y =>
      simp only [Value.ownBlock, ne_eq, Option.some.injEq]
      intro e2
      exact hX hn a y e hB (by rw [← hb]; exact e2)
/-- what came in lies apart from a row of one's own -/
theorem far_base {w w1 : World} {K n T K' m c n' : Nat} {A B : Option Addr} {cs xs : List Value} (hK : 0 < K) (h : Cells w K A n cs) (hO : w1.ownsRow w.heap.size T K' (.slice B m c) n' xs) : 0 < n → Apart A B := by
  intro hn a a' ha ha' e
  have h0 : 0 < cs.length := by rw [h.1]; exact Nat.mul_pos hn hK
  obtain ⟨a2, e2, hc⟩ := h.2 h0
  obtain rfl : a = a2 := by rw [ha] at e2; exact Option.some.inj e2
  have hl := cell_lt (hc 0 _ (List.getElem?_eq_getElem h0))
  have hb : (a.add 0).block = a.block := by unfold Addr.add; simp
  have := (own_lt hO a' ha').1
  rw [hb] at hl
  omega
end Go.Proofs.Ytgbcdmlcmnaimaa.GoK

namespace Go.Proofs.Ytgbcdmlcmnaimaa.GoD
open Go.RowKit
open Go.Proofs.Ytgbcdmlcmnaimaa.Rowed Go.Proofs.Ytgbcdmlcmnaimaa.Turn Go.Proofs.Ytgbcdmlcmnaimaa.GoM Go.Proofs.Ytgbcdmlcmnaimaa.GoK

theorem flatten_rep (zs : List Value) : ∀ (n i : Nat), (List.replicate n zs).flatten[i]? = if i < n * zs.length then some zs[i % zs.length]! else none
  | 0, i => by simp
  | n + 1, i => by
    rw [List.replicate_succ, List.flatten_cons]
    by_cases hi : i < zs.length
    · rw [List.getElem?_append_left hi, Nat.mod_eq_of_lt hi, if_pos (by rw [Nat.succ_mul]; omega), List.getElem?_eq_getElem hi]
      simp [getElem!_pos, hi]
    · have h1 : (i - zs.length < n * zs.length) ↔ (i < (n + 1) * zs.length) := by rw [Nat.succ_mul]; omega
      have h2 : (i - zs.length) % zs.length = i % zs.length := (Nat.mod_eq_sub_mod (by omega)).symm
      rw [List.getElem?_append_right (by omega), flatten_rep zs n (i - zs.length), h2]
      simp only [h1]
theorem rep_len (zs : List Value) (n : Nat) : (List.replicate n zs).flatten.length = n * zs.length := by simp
theorem zero_list (zs : List Value) (n : Nat) : (Builtin.zeroCells zs.toArray n).toList = (List.replicate n zs).flatten := by
  apply List.ext_getElem?
  intro i
  rw [flatten_rep]
  unfold Builtin.zeroCells
  by_cases hi : i < n * zs.length
  · rw [if_pos hi]; simp [hi]
  · rw [if_neg hi, List.getElem?_eq_none (by simp; omega)]
theorem run_clearK {P : Program} (w : World) (t e ty : TypeId) (z : Value) (zs : List Value) (ht : P.underlying t = some (.slice e)) (hv : ∀ w, (zeroValue e).run P w = .ok z w) (hz : z.cells = zs.toArray) (h1 : ∀ u ∈ zs, u.oneCell' = true) (b o n c : Nat) (hn : 0 < n)
    (hc : ∀ j, j < n * zs.length → (w.cell? ⟨b, o + j, none⟩).isSome = true) (hf : ∀ j, j < n * zs.length → w.frozen? ⟨b, o + j, none⟩ = false) :
    (Builtin.clear_ #[t] ty #[.slice (some ⟨b, o, none⟩) n c]).run P w = .ok (.tuple #[]) (w.setCells b o (List.replicate n zs).flatten) := by
  have hl := rep_len zs n
  have hst := run_storeCells_cells (P := P) b o (List.replicate n zs).flatten 0 w (by rw [hl]; simpa using hc) (by rw [hl]; simpa using hf)
    (by intro v hv'; obtain ⟨l, hl1, hl2⟩ := List.mem_flatten.1 hv'; rw [List.eq_of_mem_replicate hl1] at hl2; exact h1 v hl2)
  simp only [Nat.add_zero] at hst
  have hzl := zero_list zs n
  obtain ⟨m, rfl⟩ : ∃ m, n = m + 1 := ⟨n - 1, by omega⟩
  simp [Builtin.clear_, run_underlying ht, hv, hz, hzl, hst]
theorem flat_clear {α : Type} (f : α → List Value) (K : Nat) (hK : ∀ x, (f x).length = K) (l : List α) (q m : Nat) (z : α) : (l.flatMap f).take (q * K) ++ (List.replicate m (f z)).flatten = (l.take q ++ List.replicate m z).flatMap f := by
  rw [flat_take f K hK, List.flatMap_append]
  congr 1
  induction m with
  | zero => rfl
  | succ m ih => rw [List.replicate_succ, List.flatten_cons, List.replicate_succ, List.flatMap_cons, ih]
/-- clear(s[lo:]) of a row of its own, of records -/
theorem own_clearK {P : Program} {t e : TypeId} {i : TypeInfo} {k : IntKind} {K n c b : Nat} {A : Option Addr} {lo : Int} {w : World} {xs ys zs : List Value} {z : Value}
    (ht : P.underlying t = some (.slice (P.elem t))) (he : P.elem t = e) (hi : P.info? e = some i) (hs : i.size = K) (hv : i.zero = some z) (hz : z.cells = zs.toArray) (hzl : zs.length = K) (hK : 0 < K) (h1 : ∀ u ∈ zs, u.oneCell' = true)
    (h : w.ownsRow b e K (.slice A n c) n xs) (hl : 0 ≤ lo ∧ lo ≤ (n : Int)) (hd : xs.take (lo.toNat * K) ++ (List.replicate (n - lo.toNat) zs).flatten = ys) :
    ∃ A' m c' w', (∀ W, (Instr.slice t (.slice A n c) (some (.int k lo)) none none).run P W = .ok (.slice A' m c') W) ∧ (∀ ty, (Builtin.clear_ #[t] ty #[.slice A' m c']).run P w = .ok (.tuple #[]) w') ∧
      w'.ownsRow b e K (.slice A n c) n ys ∧ w.grownBy w' (Value.slice A n c).ownBlock := by
  have hR := own_room h
  have hxs : xs.length = n * K := h.1
  have hsz : ∀ W, (sizeOf (P.elem t)).run P W = .ok K W := by intro W; subst he; simp [sizeOf, typeInfo, hi, hs]
  have hrun : ∀ W, (Instr.slice t (.slice A n c) (some (.int k lo)) none none).run P W = .ok (.slice (if c = lo.toNat then A else A.map (·.add (lo.toNat * K))) (n - lo.toNat) (c - lo.toNat)) W := by
    intro W
    rw [run_slice_l (P := P) W t A n c ht k lo hl.1 hl.2, hsz W]
    rfl
  by_cases hm : n - lo.toNat = 0
  · refine ⟨_, _, _, w, hrun, ?_, ?_, Aid.grown_refl _ _⟩
    · intro ty
      rw [hm]
      generalize (if c = lo.toNat then A else A.map (·.add (lo.toNat * K))) = A'
      cases A' <;> simp [Builtin.clear_, run_underlying ht]
    · have hle : n * K ≤ lo.toNat * K := Nat.mul_le_mul_right K (by omega)
      rw [← hd, hm, List.replicate_zero, List.flatten_nil, List.append_nil, List.take_of_length_le (by omega)]
      exact h
  · obtain ⟨g, rfl⟩ := own_some h (by omega)
    have hne : ¬ c = lo.toNat := by have := hR.1; omega
    have hcl := own_cells h
    have hmul : lo.toNat * K + (n - lo.toNat) * K = n * K := by rw [← Nat.add_mul]; congr 1; omega
    have hget : ∀ j, j < n * K → (w.cell? ⟨g, j, none⟩).isSome = true := by
      intro j hj
      obtain ⟨ad, e0, hc⟩ := hcl.2 (by omega)
      obtain rfl := Option.some.inj e0
      have := hc j xs[j] (List.getElem?_eq_getElem (by omega))
      rw [add_flat, Nat.zero_add] at this
      rw [this]; rfl
    have hadd : (if c = lo.toNat then (some ⟨g, 0, none⟩ : Option Addr) else (some ⟨g, 0, none⟩ : Option Addr).map (·.add (lo.toNat * K))) = some ⟨g, lo.toNat * K, none⟩ := by
      rw [if_neg hne, Option.map_some, add_flat, Nat.zero_add]
    rw [hadd] at hrun
    have hrl : (List.replicate (n - lo.toNat) zs).flatten.length = (n - lo.toNat) * K := by rw [rep_len, hzl]
    have h2 := own_setCells (List.replicate (n - lo.toNat) zs).flatten (lo.toNat * K) h (by rw [hrl]; omega)
    refine ⟨_, _, _, _, hrun, fun ty => ?_, ?_, h2.2⟩
    · exact run_clearK w t e ty z zs (he ▸ ht) (fun w => by simp [zeroValue, typeInfo, hi, hv]) hz h1 g (lo.toNat * K) (n - lo.toNat) (c - lo.toNat) (by omega) (fun j hj => hget _ (by rw [hzl] at hj; omega)) (fun j hj => h.frozenAt _)
    · have e2 : xs.take (lo.toNat * K) ++ (List.replicate (n - lo.toNat) zs).flatten ++ xs.drop (lo.toNat * K + (List.replicate (n - lo.toNat) zs).flatten.length) = ys := by
        rw [hrl, List.drop_of_length_le (by omega), List.append_nil, hd]
      rw [← e2]
      exact h2.1
/-- s[lo:] of a row of its own, to be read -/
theorem slice_view {P : Program} {t e : TypeId} {i : TypeInfo} {k : IntKind} {K n c b : Nat} {A : Option Addr} {lo : Int} {w : World} {xs ys : List Value} {m : Nat}
    (ht : P.underlying t = some (.slice (P.elem t))) (he : P.elem t = e) (hi : P.info? e = some i) (hs : i.size = K) (h : w.ownsRow b e K (.slice A n c) n xs) (hl : 0 ≤ lo ∧ lo ≤ (n : Int)) (hm : n - lo.toNat = m) (hd : xs.drop (lo.toNat * K) = ys) :
    ∃ A' c', (∀ W, (Instr.slice t (.slice A n c) (some (.int k lo)) none none).run P W = .ok (.slice A' m c') W) ∧ (∀ W : World, W.ownsRow b e K (.slice A n c) n xs → Cells W K A' m ys) ∧ Room A' m c' := by
  have hR := own_room h
  subst hm
  have hsz : ∀ W, (sizeOf (P.elem t)).run P W = .ok K W := by intro W; subst he; simp [sizeOf, typeInfo, hi, hs]
  have hrun : ∀ W, (Instr.slice t (.slice A n c) (some (.int k lo)) none none).run P W = .ok (.slice (if c = lo.toNat then A else A.map (·.add (lo.toNat * K))) (n - lo.toNat) (c - lo.toNat)) W := by
    intro W
    rw [run_slice_l (P := P) W t A n c ht k lo hl.1 hl.2, hsz W]
    rfl
  have key : ∀ W : World, W.ownsRow b e K (.slice A n c) n xs → Cells W K (if c = lo.toNat then A else A.map (·.add (lo.toNat * K))) (n - lo.toNat) ys ∧ Room (if c = lo.toNat then A else A.map (·.add (lo.toNat * K))) (n - lo.toNat) (c - lo.toNat) := by
    intro W hW
    obtain ⟨A', c', hr, hC, hM⟩ := slice_tail (P := P) (t := t) (k := k) ht he hi hs (own_cells hW) (own_room hW) hl rfl hd
    have e1 := (hr W).symm.trans (hrun W)
    simp only [Result.ok.injEq, Value.slice.injEq, true_and, and_true] at e1
    obtain ⟨rfl, rfl⟩ := e1
    exact ⟨hC, hM⟩
  exact ⟨_, _, hrun, fun W hW => (key W hW).1, (key w h).2⟩
/-- s[:hi] of a row of its own, to be read -/
theorem slice_viewH {P : Program} {t e : TypeId} {i : TypeInfo} {k : IntKind} {K n c b : Nat} {A : Option Addr} {hi : Int} {w : World} {xs ys : List Value} {m : Nat}
    (ht : P.underlying t = some (.slice (P.elem t))) (he : P.elem t = e) (hi_ : P.info? e = some i) (hs : i.size = K) (h : w.ownsRow b e K (.slice A n c) n xs) (hl : 0 ≤ hi ∧ hi ≤ (n : Int)) (hm : hi.toNat = m) (hd : xs.take (hi.toNat * K) = ys) :
    ∃ A' c', (∀ W, (Instr.slice t (.slice A n c) none (some (.int k hi)) none).run P W = .ok (.slice A' m c') W) ∧ (∀ W : World, W.ownsRow b e K (.slice A n c) n xs → Cells W K A' m ys) ∧ Room A' m c' :=
  ⟨A, c, (slice_head ht he hi_ hs h hl hm hd).1, fun W hW => own_cells (slice_head (k := k) ht he hi_ hs hW hl hm hd).2, own_room (slice_head (k := k) ht he hi_ hs h hl hm hd).2⟩
/-- a part of a row of its own is taken out: append(s[:p], s[q:]...), then clear of what is left behind -/
theorem own_cut {P : Program} {t e : TypeId} {i : TypeInfo} {K n c b : Nat} {A : Option Addr} {w : World} {xs zs : List Value} {z : Value}
    (ht : P.underlying t = some (.slice (P.elem t))) (he : P.elem t = e) (hi : P.info? e = some i) (hs : i.size = K) (hv : i.zero = some z) (hz : z.cells = zs.toArray) (hzl : zs.length = K) (hK : 0 < K) (h1 : ∀ u ∈ zs, u.oneCell' = true) (hx1 : ∀ u ∈ xs, u.oneCell' = true)
    (h : w.ownsRow b e K (.slice A n c) n xs) {p q : Nat} (hpq : p < q) (hq : q ≤ n) :
    ∃ g A1 c1 w1 w2, A = some ⟨g, 0, none⟩ ∧ (∀ W, (Instr.slice t (.slice (some ⟨g, 0, none⟩) n c) none (some (.int .i64 (p : Int))) none).run P W = .ok (.slice (some ⟨g, 0, none⟩) p c) W) ∧
      (∀ W, (Instr.slice t (.slice (some ⟨g, 0, none⟩) n c) (some (.int .i64 (q : Int))) none none).run P W = .ok (.slice A1 (n - q) c1) W) ∧
      (∀ ty, (Builtin.append_ #[t, t] ty #[.slice (some ⟨g, 0, none⟩) p c, .slice A1 (n - q) c1]).run P w = .ok (.slice (some ⟨g, 0, none⟩) (p + (n - q)) c) w1) ∧
      (∀ ty, (Builtin.clear_ #[t] ty #[.slice (some ⟨g, (p + (n - q)) * K, none⟩) (n - (p + (n - q))) (c - (p + (n - q)))]).run P w1 = .ok (.tuple #[]) w2) ∧
      w2.ownsRow b e K (.slice (some ⟨g, 0, none⟩) (p + (n - q)) c) (p + (n - q)) (xs.take (p * K) ++ xs.drop (q * K)) ∧ w.grownBy w2 (some g) := by
  have hR := own_room h
  have hxs : xs.length = n * K := h.1
  obtain ⟨g, rfl⟩ := own_some h (by omega)
  have hsz : ∀ W, (sizeOf (P.elem t)).run P W = .ok K W := by intro W; subst he; simp [sizeOf, typeInfo, hi, hs]
  have hcl := own_cells h
  have hpK : p * K + (q - p) * K = q * K := by rw [← Nat.add_mul]; congr 1; omega
  have hqK : q * K + (n - q) * K = n * K := by rw [← Nat.add_mul]; congr 1; omega
  have hmK : (p + (n - q)) * K = p * K + (n - q) * K := Nat.add_mul _ _ _
  have hmm : (p + (n - q)) * K + (q - p) * K = n * K := by rw [← Nat.add_mul]; congr 1; omega
  have r1 := (slice_head (P := P) (t := t) (k := .i64) (hi := (p : Int)) (m := p) ht he hi hs h ⟨by omega, by omega⟩ (by omega) rfl).1
  have r2 : ∀ W, (Instr.slice t (.slice (some ⟨g, 0, none⟩) n c) (some (.int .i64 (q : Int))) none none).run P W = .ok (.slice (some (if c = q then ⟨g, 0, none⟩ else ⟨g, q * K, none⟩)) (n - q) (c - q)) W := by
    intro W
    rw [run_slice_l (P := P) W t _ n c ht .i64 (q : Int) (by omega) (by omega), hsz W]
    simp only [Result.andThen, sliced, Int.toNat_natCast, Option.map_some, add_flat, Nat.zero_add]
    by_cases hcq : c = q <;> simp [hcq]
  obtain ⟨_, hown⟩ := h
  rcases hown with ⟨h0, _⟩ | ⟨g', cap, cur, e0, hb, hg, hnc, hcm, hcs, htake⟩
  · simp at h0
  simp only [Value.slice.injEq, Option.some.injEq, Addr.mk.injEq, true_and, and_true] at e0
  obtain ⟨rfl, rfl⟩ := e0
  have h : w.ownsRow b e K (.slice (some ⟨g, 0, none⟩) n c) n xs := ⟨hxs, .inr ⟨g, c, cur, rfl, hb, hg, hnc, hcm, hcs, htake⟩⟩
  have hnews : (xs.drop (q * K)).length = (n - q) * i.size := by rw [List.length_drop, hs]; omega
  have hcK : n * K ≤ c * K := Nat.mul_le_mul_right K hnc
  have hcell : ∀ j u, (xs.drop (q * K))[j]? = some u → w.cell? ((if c = q then ⟨g, 0, none⟩ else ⟨g, q * K, none⟩ : Addr).add j) = some u := by
    intro j u hu
    rw [List.getElem?_drop] at hu
    have hlt := (List.getElem?_eq_some_iff.1 hu).1
    obtain ⟨ad, ea, hc⟩ := hcl.2 (by omega)
    obtain rfl := Option.some.inj ea
    have := hc (q * K + j) u hu
    rw [add_flat, Nat.zero_add] at this
    have hne : ¬ c = q := by
      intro ec
      have : n = q := by omega
      rw [this] at hxs
      omega
    rw [if_neg hne, add_flat]
    exact this
  have hfit : p * i.size + (xs.drop (q * K)).length ≤ cur.size := by rw [hnews, hs, hcs]; omega
  have ra := fun ty => run_append_room (P := P) w t ty e i (he ▸ ht) hi g p c cur hg _ (n - q) (c - q) _ hnews hcell (fun u hu => hx1 u (List.mem_of_mem_drop hu)) (by omega) hfit
  obtain ⟨w1, hw1⟩ : ∃ x, w.setRow g (cur.toList.take (p * i.size) ++ xs.drop (q * K) ++ cur.toList.drop (p * i.size + (xs.drop (q * K)).length)).toArray = x := ⟨_, rfl⟩
  rw [hw1] at ra
  have hn2 : (xs.drop (q * K)).length = (n - q) * K := by rw [hnews, hs]
  have hcl2 : cur.toList.length = c * K := by simpa using hcs
  have hpn : p * K ≤ n * K := Nat.mul_le_mul_right K (by omega)
  have hx : ∀ m, m ≤ n * K → cur.toList.take m = xs.take m := by
    intro m hm
    rw [← htake, List.take_take, Nat.min_eq_left hm]
  have ho1 : w1.ownsRow b e K (.slice (some ⟨g, 0, none⟩) n c) n (xs.take (p * K) ++ xs.drop (q * K) ++ (cur.toList.drop (p * K + (n - q) * K)).take ((q - p) * K)) := by
    refine ⟨?_, .inr ⟨g, c, (xs.take (p * K) ++ xs.drop (q * K) ++ cur.toList.drop (p * K + (n - q) * K)).toArray, rfl, hb, ?_, hnc, hcm, ?_, ?_⟩⟩
    · rw [List.length_append, List.length_append, hn2, List.length_take, List.length_take, List.length_drop, hcl2]; omega
    · rw [← hw1, hs, hn2, hx _ hpn]; exact setRow_heap w g cur _ e _ hg
    · rw [List.size_toArray, List.length_append, List.length_append, hn2, List.length_take, List.length_drop, hcl2]; omega
    · rw [List.take_append, List.take_of_length_le (l := xs.take (p * K) ++ xs.drop (q * K)) (by rw [List.length_append, hn2, List.length_take]; omega)]
      congr 2
      rw [List.length_append, hn2, List.length_take]; omega
  have hgr1 : w.grownBy w1 (some g) := by
    rw [← hw1]
    exact ⟨rfl, rfl, rfl, by simp [World.setRow], fun k _ hk => setRow_other w g k _ (fun e => hk (by rw [e]))⟩
  have hrl : (List.replicate (q - p) zs).flatten.length = (q - p) * K := by rw [rep_len, hzl]
  have hl1 : (xs.take (p * K) ++ xs.drop (q * K) ++ (cur.toList.drop (p * K + (n - q) * K)).take ((q - p) * K)).length = n * K := ho1.1
  have hset := own_setCells (List.replicate (q - p) zs).flatten ((p + (n - q)) * K) ho1 (by rw [hrl, hl1]; omega)
  have hcl1 := own_cells ho1
  have hget : ∀ j, j < n * K → (w1.cell? ⟨g, j, none⟩).isSome = true := by
    intro j hj
    obtain ⟨ad, ea, hc⟩ := hcl1.2 (by rw [hl1]; omega)
    obtain rfl := Option.some.inj ea
    have := hc j _ (List.getElem?_eq_getElem (by rw [hl1]; exact hj))
    rw [add_flat, Nat.zero_add] at this
    rw [this]; rfl
  have hcr := fun ty => run_clearK w1 t e ty z zs (he ▸ ht) (fun w => by simp [zeroValue, typeInfo, hi, hv]) hz h1 g ((p + (n - q)) * K) (q - p) (c - (p + (n - q))) (by omega) (fun j hj => hget _ (by rw [hzl] at hj; omega)) (fun j hj => ho1.frozenAt _)
  have hcr2 : ∀ ty, (Builtin.clear_ #[t] ty #[.slice (some ⟨g, (p + (n - q)) * K, none⟩) (n - (p + (n - q))) (c - (p + (n - q)))]).run P w1 = .ok (.tuple #[]) (w1.setCells g ((p + (n - q)) * K) (List.replicate (q - p) zs).flatten) := by rw [show n - (p + (n - q)) = q - p by omega]; exact hcr
  refine ⟨g, _, _, w1, _, rfl, r1, r2, ra, hcr2, ?_, Aid.grown_tr hgr1 hset.2⟩
  have hh := (slice_head (P := P) (t := t) (k := .i64) (hi := ((p + (n - q) : Nat) : Int)) (m := p + (n - q)) ht he hi hs hset.1 ⟨by omega, by omega⟩ (by omega) rfl).2
  rw [Int.toNat_natCast, List.append_assoc, List.take_append_of_le_length (by rw [List.length_take, hl1]; omega), List.take_take, Nat.min_self, List.take_append_of_le_length (by rw [List.length_append, hn2, List.length_take]; omega), List.take_of_length_le (by rw [List.length_append, hn2, List.length_take]; omega)] at hh
  exact hh
/-- an append that is known, as one step of a region that draws its order -/
theorem step_append_run {P : Program} {w : World} {ops : Array Oper} {o : Oper} {a : Act} {K : Act → World → Prop} {Q : Exit → Act → World → Prop} {E : Prop} (hgd : o.guard = none) (s x : Operand) (t : TypeId)
    (ho : o.op = .call { callee := .builtin .append, args := #[s, x], argTypes := #[t, t] }) {sv xv v' : Value} {w' : World} (hs : a.eval s = sv) (hx : a.eval x = xv)
    (hr : ∀ ty, (Builtin.append_ #[t, t] ty #[sv, xv]).run P w = .ok v' w') (h : K (a.put o.dst v') w') :
    if Region.wanted o (yielded ops a.tmps) = true then Oper.wp P o a w K Q else E := by
  have hw : Region.wanted o (yielded ops a.tmps) = true := by simp [Region.wanted, hgd]
  rw [if_pos hw]
  unfold Oper.wp execOp
  simp only [ho, resolve, invoke, builtin, Sem.run_bind, Sem.run_pure, Result.andThen_ok, List.map_toArray, List.map_cons, List.map_nil, hs, hx, hr]
  exact h
end Go.Proofs.Ytgbcdmlcmnaimaa.GoD

namespace Go.Proofs.Ytgbcdmlcmnaimaa.OMail
set_option maxRecDepth 100000
open Go.Joins Go.ChangeShapes Go.WideShapes Go.RowKit Go.Deep
open Go.Proofs.Ytgbcdmlcmnaimaa.Rowed Go.Proofs.Ytgbcdmlcmnaimaa.OpenAny Go.Proofs.Ytgbcdmlcmnaimaa.PMail

/-- the slice 'A, n' reads as the records l -/
abbrev Mails (w : World) (A : Option Addr) (n : Nat) (l : List Mail) : Prop := Cells w 4 A n (flat l)
theorem at_ {w : World} {A : Option Addr} {n k : Nat} {l : List Mail} (h : Mails w A n l) (hk : k < n) :
    ∃ (b o : Nat) (s : Mail), A = some ⟨b, o, none⟩ ∧ l[k]? = some s ∧ w.cell? ⟨b, o + k * 4, none⟩ = some (.int .i64 s.leave) ∧ w.cell? ⟨b, o + k * 4 + 1, none⟩ = some (.int .i64 s.from_) ∧ w.cell? ⟨b, o + k * 4 + 2, none⟩ = some (.int .i64 s.to_) ∧ w.cell? ⟨b, o + k * 4 + 3, none⟩ = some (.int .i64 s.arrive) := by
  have hl : k < l.length := by have := h.1; rw [flat_len] at this; omega
  obtain ⟨⟨b, o, sp⟩, e, hc⟩ := h.2 (by rw [flat_len]; omega)
  have h0 := hc 0 _ (flat_at l 0 l[0] (List.getElem?_eq_getElem (by omega)) 0 (by omega))
  obtain rfl : sp = none := cell_spot (b := b) (o := o) h0
  have hs := List.getElem?_eq_getElem hl
  have f := flat_at l k _ hs
  have g := fun j u hu => add_none b o j ▸ hc j u hu
  exact ⟨b, o, l[k], e, hs, g _ _ (f 0 (by omega)), g _ _ (f 1 (by omega)), g _ _ (f 2 (by omega)), g _ _ (f 3 (by omega))⟩
theorem len_of {w : World} {A : Option Addr} {n : Nat} {l : List Mail} (h : Mails w A n l) : l.length = n := by
  have := h.1
  rw [flat_len] at this; omega

/-- a slice of records that came in: the list that it reads as -/
structure Came (w : World) (A : Option Addr) (len cap : Nat) (l : List Mail) : Prop where
  cells : Mails w A len l
  small : len ≤ maxLen
  fits : ∀ s ∈ l, s.fits
theorem Came.len {w : World} {A : Option Addr} {len cap : Nat} {l : List Mail} (h : Came w A len cap l) : l.length = len := len_of h.cells

section
variable {H : Type} {enc : TypeId × Value → H} {w : World} {base : Nat} {spare : Nat → Bool} {held : Bool}
theorem read_one {n : Nat} {cs : List Value} {x : DataW H × List MemPlace} (h : DataW.trod enc Try.prog w base spare held n 77 cs = some x) : ∃ s : Mail, cs = s.cells ∧ s.fits := by
  have hc : Try.prog.cellsOf 77 = 4 := by kernel_rfl
  obtain ⟨hl, hf⟩ := read_fields Try.underlying77 (by kernel_rfl) hc h
  rw [hc] at hl
  match cs, hl with
  | [v0, v1, v2, v3], _ =>
    obtain ⟨u0, n0, y0, eu0, t0⟩ := hf 0 _ rfl
    obtain ⟨x0, e0, _, f0⟩ := DataW.trod_int Try.underlying3 t0
    obtain rfl : v0 = u0 := by simpa using eu0
    obtain rfl : v0 = .int .i64 x0 := by simpa using e0
    obtain ⟨u1, n1, y1, eu1, t1⟩ := hf 1 _ rfl
    obtain ⟨x1, e1, _, f1⟩ := DataW.trod_int Try.underlying3 t1
    obtain rfl : v1 = u1 := by simpa using eu1
    obtain rfl : v1 = .int .i64 x1 := by simpa using e1
    obtain ⟨u2, n2, y2, eu2, t2⟩ := hf 2 _ rfl
    obtain ⟨x2, e2, _, f2⟩ := DataW.trod_int Try.underlying3 t2
    obtain rfl : v2 = u2 := by simpa using eu2
    obtain rfl : v2 = .int .i64 x2 := by simpa using e2
    obtain ⟨u3, n3, y3, eu3, t3⟩ := hf 3 _ rfl
    obtain ⟨x3, e3, _, f3⟩ := DataW.trod_int Try.underlying3 t3
    obtain rfl : v3 = u3 := by simpa using eu3
    obtain rfl : v3 = .int .i64 x3 := by simpa using e3
    exact ⟨⟨x0, x1, x2, x3⟩, rfl, f0, f1, f2, f3⟩
theorem open_one {r : Reach} {b0 : Nat} {v : Value} {d : DataW H} {p : List MemPlace} (hv : Value.okWide Try.prog w r b0 77 v) (h : DataW.Trod enc Try.prog w base spare held 77 v d p) :
    ∃ s : Mail, v = s.val ∧ s.fits := by
  obtain ⟨cs, n, x, rfl, ht⟩ := agg_any Try.underlying77 hv h
  obtain ⟨s, e, hs⟩ := read_one ht
  refine ⟨s, ?_, hs⟩
  obtain ⟨l⟩ := cs
  obtain rfl : l = s.cells := by simpa using e
  rfl
end

/-- a record that was boxed -/
theorem box_ {w : World} {s : Mail} {g : Nat} (h : Cells w 4 (some ⟨g, 0, none⟩) 1 s.cells) : w.cell? ⟨g, 0, none⟩ = some (.int .i64 s.leave) ∧ w.cell? ⟨g, 1, none⟩ = some (.int .i64 s.from_) ∧ w.cell? ⟨g, 2, none⟩ = some (.int .i64 s.to_) ∧ w.cell? ⟨g, 3, none⟩ = some (.int .i64 s.arrive) := by
  obtain ⟨ad, e, hc⟩ := h.2 (by simp [Mail.cells])
  obtain rfl := Option.some.inj e
  have gg := fun j u hu => add_none g 0 j ▸ hc j u hu
  exact ⟨by simpa using gg 0 _ rfl, by simpa using gg 1 _ rfl, by simpa using gg 2 _ rfl, by simpa using gg 3 _ rfl⟩
theorem box_new (w : World) (s : Mail) (T : TypeId) : Cells (w.alloc (.cells #[.int .i64 s.leave, .int .i64 s.from_, .int .i64 s.to_, .int .i64 s.arrive] T)) 4 (some ⟨w.heap.size, 0, none⟩) 1 s.cells :=
  ⟨by simp [Mail.cells], fun _ => ⟨_, rfl, fun j u hu => by
    have hj : j < 4 := by have := (List.getElem?_eq_some_iff.1 hu).1; simpa [Mail.cells] using this
    rw [add_none, World.cell?_alloc_new]
    match j, hj with
    | 0, _ => simpa [Mail.cells] using hu
    | 1, _ => simpa [Mail.cells] using hu
    | 2, _ => simpa [Mail.cells] using hu
    | 3, _ => simpa [Mail.cells] using hu
⟩⟩
end Go.Proofs.Ytgbcdmlcmnaimaa.OMail

namespace Go.Proofs.Ytgbcdmlcmnaimaa.GsL1CurMail
open Go.RowKit
open Go.Proofs.Ytgbcdmlcmnaimaa.Rowed Go.Proofs.Ytgbcdmlcmnaimaa.Turn Go.Proofs.Ytgbcdmlcmnaimaa.Aid Go.Proofs.Ytgbcdmlcmnaimaa.GoP Go.Proofs.Ytgbcdmlcmnaimaa.GoM

def P (c : GoC.Tape) : Option (PMail.Mail × GoC.Tape) :=
 letK ([0, 5, 10, 10, 20, 30, 45, 60]) fun (t_2 : (List Int)) =>
 bind2 (GsL1CurAmong.P c t_2) fun (t_3 : Int) (t_3_tp : GoC.Tape) =>
 bind2 (GsL1CurPick.P t_3_tp 4) fun (t_7 : Int) (t_7_tp : GoC.Tape) =>
 bind2 (GsL1CurPick.P t_7_tp 4) fun (t_9 : Int) (t_9_tp : GoC.Tape) =>
 letK ([1, 5, 10, 10, 25]) fun (t_12 : (List Int)) =>
 bind2 (GsL1CurAmong.P t_9_tp t_12) fun (t_13 : Int) (t_13_tp : GoC.Tape) =>
 letK (IntKind.i64.wrap (t_3 + t_13)) fun (t_14 : Int) =>
 bind2 (GsL1CurPick.P t_13_tp 48) fun (t_19 : Int) (t_19_tp : GoC.Tape) =>
 letK (t_19 == 0) fun (t_20 : Bool) =>
 iteK t_20
 (letK ([(-1), 9, 10]) fun (t_23 : (List Int)) =>
 bind2 (GsL1CurAmong.P t_19_tp t_23) fun (t_24 : Int) (t_24_tp : GoC.Tape) =>
 some ((PMail.Mail.mk t_3 t_7 t_24 t_14), t_24_tp))
 (letK (t_19 == 1) fun (t_27 : Bool) =>
 iteK t_27
 (letK ([t_3, 9999, 10000]) fun (t_32 : (List Int)) =>
 bind2 (GsL1CurAmong.P t_19_tp t_32) fun (t_33 : Int) (t_33_tp : GoC.Tape) =>
 some ((PMail.Mail.mk t_3 t_7 t_9 t_33), t_33_tp))
 (some ((PMail.Mail.mk t_3 t_7 t_9 t_14), t_19_tp)))

set_option maxRecDepth 100000 in
set_option maxHeartbeats 2000000 in
theorem C (c : GoC.Tape)   (g0 : Nat) (Ac0 : Option Addr) (cc0 : Nat) (bc0 : Nat) (w : World)   (K0 : Hid (GoC.CurIs w bc0 g0 Ac0 cc0 c)) {r : PMail.Mail} {t_ : GoC.Tape} (H : Hid (P c = some (r, t_))) :
  Calls Try.prog 77 #[.pointer (some ⟨g0, 0, none⟩)] w (fun e w' => e = .returned ((PMail.Mail.val r)) ∧ GoC.CurIs w' bc0 g0 Ac0 cc0 t_ ∧ w.grownBy w' (Value.slice (some ⟨g0, 0, none⟩) 1 1).ownBlock) := by
 have HB := Lib.hid (Aid.grown_refl w (Value.slice (some ⟨g0, 0, none⟩) 1 1).ownBlock); unfold P at H; have L0 : bc0 ≤ w.heap.size := (by have := GoC.cur_lt K0.out; omega)
 go_enter Try.func77, Try.ntmps77
 obtain ⟨q10, w11⟩ : ∃ x, w.alloc (.cells #[.int .i64 0, .int .i64 0, .int .i64 0, .int .i64 0] 77) = x := ⟨_, rfl⟩; have e13 : Below w.heap.size w q10 := (by rw [← w11]; exact (Below.refl _ _).alloc (Nat.le_refl _) _); have a10 := Lib.hid (GoC.apart_cur K0.out); have x13 := Lib.hid (grown_below HB.out e13); replace K0 := Lib.hid (GoC.cur_below K0.out e13); clear e13; have k12 : q10.cell? ⟨w.heap.size, 0, none⟩ = some (.int .i64 0) := (by rw [← w11]; exact box_new _ _ _ 0 _ rfl); have q14 : q10.cell? ⟨w.heap.size, 1, none⟩ = some (.int .i64 0) := (by rw [← w11]; exact box_new _ _ _ 1 _ rfl); have b14 : q10.cell? ⟨w.heap.size, 2, none⟩ = some (.int .i64 0) := (by rw [← w11]; exact box_new _ _ _ 2 _ rfl); have k14 : q10.cell? ⟨w.heap.size, 3, none⟩ = some (.int .i64 0) := (by rw [← w11]; exact box_new _ _ _ 3 _ rfl); have Ot_0 : Hid (q10.ownsRow w.heap.size 77 4 (.slice (some ⟨w.heap.size, 0, none⟩) 1 1) 1 [.int .i64 0, .int .i64 0, .int .i64 0, .int .i64 0]) := Lib.hid (by rw [← w11]; exact own_laid (n := 1) HB.out.size rfl rfl (by unfold maxLen; omega)); replace H := let_hid H; obtain ⟨t_2, ht_2, H⟩ := H; obtain ⟨b13, y13⟩ : ∃ x, q10.alloc (.cells #[.int .i64 0, .int .i64 5, .int .i64 10, .int .i64 10, .int .i64 20, .int .i64 30, .int .i64 45, .int .i64 60] 3) = x := ⟨_, rfl⟩; have k11 : Below q10.heap.size q10 b13 := (by rw [← y13]; exact (Below.refl _ _).alloc (Nat.le_refl _) _); have t14 := x13.out.size; have nt_2 : t_2.length = 8 := (by rw [← ht_2]; rfl)
 have Ot_2 : Hid (b13.ownsRow w.heap.size 3 1 (.slice (some ⟨q10.heap.size, 0, none⟩) 8 8) 8 (HelpInt.iv t_2)) := by
  rw [← y13, ← ht_2]; have e_ : ([.int .i64 0, .int .i64 5, .int .i64 10, .int .i64 10, .int .i64 20, .int .i64 30, .int .i64 45, .int .i64 60] : List Value) = (HelpInt.iv ([0, 5, 10, 10, 20, 30, 45, 60] : List Int)) := rfl; exact Lib.hid (own_laid (n := 8) t14 e_ rfl (by unfold maxLen; omega))
 clear t14; have l17 := Lib.hid ht_2; clear ht_2; replace nt_2 := Lib.hid nt_2; have f11 := Lib.hid (GoC.apart_cur K0.out); have q12 := Lib.hid (apart_box k12); have q16 := Lib.hid (grown_below x13.out k11); have y10 := cell_below k11 k12; have c11 := cell_below k11 q14; have h11 := cell_below k11 b14; have i11 := cell_below k11 k14; replace K0 := Lib.hid (GoC.cur_below K0.out k11); replace Ot_0 := Lib.hid (own_below Ot_0.out k11); clear k11; replace H := bind2_hid H; obtain ⟨t_3, n15, qt_3, H⟩ := H; go_wp2_with fail; clear k12 q14 b14 k14; have hc_ := nt_2.out; have hv_ : (Value.slice (some ⟨q10.heap.size, 0, none⟩) 8 8 : Value) = Value.slice (some ⟨q10.heap.size, 0, none⟩) t_2.length 8 := (by rw [hc_])
 try rw [hv_]
 replace Ot_2 := Lib.hid (own_len hc_ Ot_2.out); clear hc_ hv_; go_wp2_with fail; go_at_call 56; refine (GsL1CurAmong.C (c) (t_2) (some ⟨q10.heap.size, 0, none⟩) 8 (g0) (Ac0) (cc0) (bc0) _   (Lib.hid (own_cells Ot_2.out)) (Lib.hid (own_max Ot_2.out)) K0 (Lib.hid (fun _ => f11.out)) qt_3).mono ?_; rintro x17 wt_3 ⟨rfl, kt_3, gt_3⟩; have Kt_3 := Lib.hid kt_3; have Gt_3 : Hid (b13.grownBy wt_3 (Value.slice (some ⟨g0, 0, none⟩) 1 1).ownBlock) := Lib.hid gt_3; clear kt_3 gt_3; have h15 := Lib.hid (Aid.grown_tr q16.out Gt_3.out); replace y10 := cell_other y10 Gt_3.out (Apart.symm a10.out); replace c11 := cell_other c11 Gt_3.out (Apart.symm a10.out); replace h11 := cell_other h11 Gt_3.out (Apart.symm a10.out); replace i11 := cell_other i11 Gt_3.out (Apart.symm a10.out); replace Ot_0 := Lib.hid (own_other Ot_0.out Gt_3.out (Apart.symm a10.out)); replace Ot_2 := Lib.hid (own_other Ot_2.out Gt_3.out (Apart.symm f11.out)); clear K0 Gt_3; replace H := bind2_hid H; obtain ⟨t_7, e16, qt_7, H⟩ := H; go_wp2_with fail; go_at_call 63; refine (GsL1CurPick.C (n15) (4) (g0) (Ac0) (cc0) (bc0) _   Kt_3 qt_7).mono ?_; rintro v17 wt_7 ⟨rfl, kt_7, gt_7⟩; have Kt_7 := Lib.hid kt_7; have Gt_7 : Hid (wt_3.grownBy wt_7 (Value.slice (some ⟨g0, 0, none⟩) 1 1).ownBlock) := Lib.hid gt_7; clear kt_7 gt_7; have y15 := Lib.hid (Aid.grown_tr h15.out Gt_7.out); replace y10 := cell_other y10 Gt_7.out (Apart.symm a10.out); replace c11 := cell_other c11 Gt_7.out (Apart.symm a10.out); replace h11 := cell_other h11 Gt_7.out (Apart.symm a10.out); replace i11 := cell_other i11 Gt_7.out (Apart.symm a10.out); replace Ot_0 := Lib.hid (own_other Ot_0.out Gt_7.out (Apart.symm a10.out)); replace Ot_2 := Lib.hid (own_other Ot_2.out Gt_7.out (Apart.symm f11.out)); clear Kt_3 Gt_7; replace H := bind2_hid H; obtain ⟨t_9, o16, qt_9, H⟩ := H; go_wp2_with fail; go_at_call 63; refine (GsL1CurPick.C (e16) (4) (g0) (Ac0) (cc0) (bc0) _   Kt_7 qt_9).mono ?_; rintro s17 wt_9 ⟨rfl, kt_9, gt_9⟩; have Kt_9 := Lib.hid kt_9; have Gt_9 : Hid (wt_7.grownBy wt_9 (Value.slice (some ⟨g0, 0, none⟩) 1 1).ownBlock) := Lib.hid gt_9; clear kt_9 gt_9; have n14 := Lib.hid (Aid.grown_tr y15.out Gt_9.out); replace y10 := cell_other y10 Gt_9.out (Apart.symm a10.out); replace c11 := cell_other c11 Gt_9.out (Apart.symm a10.out); replace h11 := cell_other h11 Gt_9.out (Apart.symm a10.out); replace i11 := cell_other i11 Gt_9.out (Apart.symm a10.out); replace Ot_0 := Lib.hid (own_other Ot_0.out Gt_9.out (Apart.symm a10.out)); replace Ot_2 := Lib.hid (own_other Ot_2.out Gt_9.out (Apart.symm f11.out)); clear Kt_7 Gt_9; replace H := let_hid H; obtain ⟨t_12, h12, H⟩ := H; obtain ⟨y12, n13⟩ : ∃ x, wt_9.alloc (.cells #[.int .i64 1, .int .i64 5, .int .i64 10, .int .i64 10, .int .i64 25] 3) = x := ⟨_, rfl⟩; have z10 : Below wt_9.heap.size wt_9 y12 := (by rw [← n13]; exact (Below.refl _ _).alloc (Nat.le_refl _) _); have m14 := n14.out.size; have z12 : t_12.length = 5 := (by rw [← h12]; rfl)
 have c10 : Hid (y12.ownsRow w.heap.size 3 1 (.slice (some ⟨wt_9.heap.size, 0, none⟩) 5 5) 5 (HelpInt.iv t_12)) := by
  rw [← n13, ← h12]; have e_ : ([.int .i64 1, .int .i64 5, .int .i64 10, .int .i64 10, .int .i64 25] : List Value) = (HelpInt.iv ([1, 5, 10, 10, 25] : List Int)) := rfl; exact Lib.hid (own_laid (n := 5) m14 e_ rfl (by unfold maxLen; omega))
 clear m14; have d18 := Lib.hid h12; clear h12; replace z12 := Lib.hid z12; have h18 := Lib.hid (apart_fresh Ot_2.out); have d12 := Lib.hid (GoC.apart_cur Kt_9.out); have o12 := Lib.hid (apart_box y10); have g16 := Lib.hid (grown_below n14.out z10); have y11 := cell_below z10 y10; have j12 := cell_below z10 c11; have g12 := cell_below z10 h11; have f12 := cell_below z10 i11; replace Ot_2 := Lib.hid (own_below Ot_2.out z10); replace Kt_9 := Lib.hid (GoC.cur_below Kt_9.out z10); replace Ot_0 := Lib.hid (own_below Ot_0.out z10); clear z10; replace H := bind2_hid H; obtain ⟨t_13, h16, z15, H⟩ := H; go_wp2_with fail; clear y10 c11 h11 i11; have hc_ := z12.out; have hv_ : (Value.slice (some ⟨wt_9.heap.size, 0, none⟩) 5 5 : Value) = Value.slice (some ⟨wt_9.heap.size, 0, none⟩) t_12.length 5 := (by rw [hc_])
 try rw [hv_]
 replace c10 := Lib.hid (own_len hc_ c10.out); clear hc_ hv_; go_wp2_with fail; go_at_call 56; refine (GsL1CurAmong.C (o16) (t_12) (some ⟨wt_9.heap.size, 0, none⟩) 5 (g0) (Ac0) (cc0) (bc0) _   (Lib.hid (own_cells c10.out)) (Lib.hid (own_max c10.out)) Kt_9 (Lib.hid (fun _ => d12.out)) z15).mono ?_; rintro j18 e10 ⟨rfl, o13, i13⟩; have x11 := Lib.hid o13; have a11 : Hid (y12.grownBy e10 (Value.slice (some ⟨g0, 0, none⟩) 1 1).ownBlock) := Lib.hid i13; clear o13 i13; have h14 := Lib.hid (Aid.grown_tr g16.out a11.out); replace y11 := cell_other y11 a11.out (Apart.symm a10.out); replace j12 := cell_other j12 a11.out (Apart.symm a10.out); replace g12 := cell_other g12 a11.out (Apart.symm a10.out); replace f12 := cell_other f12 a11.out (Apart.symm a10.out); replace Ot_0 := Lib.hid (own_other Ot_0.out a11.out (Apart.symm a10.out)); replace Ot_2 := Lib.hid (own_other Ot_2.out a11.out (Apart.symm f11.out)); replace c10 := Lib.hid (own_other c10.out a11.out (Apart.symm d12.out)); clear Kt_9 a11; replace H := let_hid H; obtain ⟨t_14, p17, H⟩ := H; obtain ⟨o11, r11⟩ : ∃ x, e10.alloc (.cells #[.int .i64 t_3, .int .i64 t_7, .int .i64 t_9, .int .i64 t_14] 77) = x := ⟨_, rfl⟩; have x10 : Below e10.heap.size e10 o11 := (by rw [← r11]; exact (Below.refl _ _).alloc (Nat.le_refl _) _); have c14 := Lib.hid (apart_fresh Ot_2.out); have k13 := Lib.hid (apart_fresh c10.out); have h10 := Lib.hid (GoC.apart_cur x11.out); have d10 := Lib.hid (apart_box y11); have o15 := Lib.hid (grown_below h14.out x10); have g11 := cell_below x10 y11; have v11 := cell_below x10 j12; have t11 := cell_below x10 g12; have q11 := cell_below x10 f12; replace Ot_2 := Lib.hid (own_below Ot_2.out x10); replace c10 := Lib.hid (own_below c10.out x10); replace x11 := Lib.hid (GoC.cur_below x11.out x10); replace Ot_0 := Lib.hid (own_below Ot_0.out x10); clear x10; have b11 : o11.cell? ⟨e10.heap.size, 0, none⟩ = some (.int .i64 t_3) := (by rw [← r11]; exact box_new _ _ _ 0 _ rfl); have m11 : o11.cell? ⟨e10.heap.size, 1, none⟩ = some (.int .i64 t_7) := (by rw [← r11]; exact box_new _ _ _ 1 _ rfl); have n11 : o11.cell? ⟨e10.heap.size, 2, none⟩ = some (.int .i64 t_9) := (by rw [← r11]; exact box_new _ _ _ 2 _ rfl); have l11 : o11.cell? ⟨e10.heap.size, 3, none⟩ = some (.int .i64 t_14) := (by rw [← r11]; exact box_new _ _ _ 3 _ rfl); have f10 : Hid (o11.ownsRow w.heap.size 77 4 (.slice (some ⟨e10.heap.size, 0, none⟩) 1 1) 1 [.int .i64 t_3, .int .i64 t_7, .int .i64 t_9, .int .i64 t_14]) := Lib.hid (by rw [← r11]; exact own_laid (n := 1) h14.out.size rfl rfl (by unfold maxLen; omega)); replace H := bind2_hid H; obtain ⟨t_19, s13, f15, H⟩ := H; go_wp2_with fail; clear y11 j12 g12 f12; go_at_call 63; refine (GsL1CurPick.C (h16) (48) (g0) (Ac0) (cc0) (bc0) _   x11 f15).mono ?_; rintro q17 i10 ⟨rfl, m13, j13⟩; have p10 := Lib.hid m13; have o10 : Hid (o11.grownBy i10 (Value.slice (some ⟨g0, 0, none⟩) 1 1).ownBlock) := Lib.hid j13; clear m13 j13; have b12 := Lib.hid (Aid.grown_tr o15.out o10.out); replace g11 := cell_other g11 o10.out (Apart.symm a10.out); replace v11 := cell_other v11 o10.out (Apart.symm a10.out); replace t11 := cell_other t11 o10.out (Apart.symm a10.out); replace q11 := cell_other q11 o10.out (Apart.symm a10.out); replace b11 := cell_other b11 o10.out (Apart.symm h10.out); replace m11 := cell_other m11 o10.out (Apart.symm h10.out); replace n11 := cell_other n11 o10.out (Apart.symm h10.out); replace l11 := cell_other l11 o10.out (Apart.symm h10.out); replace Ot_0 := Lib.hid (own_other Ot_0.out o10.out (Apart.symm a10.out)); replace f10 := Lib.hid (own_other f10.out o10.out (Apart.symm h10.out)); replace Ot_2 := Lib.hid (own_other Ot_2.out o10.out (Apart.symm f11.out)); replace c10 := Lib.hid (own_other c10.out o10.out (Apart.symm d12.out)); clear x11 o10; replace H := let_hid H; obtain ⟨t_20, w16, H⟩ := H
 cases t_20 with
 | false =>
  replace H := ite_f H; replace H := let_hid H; obtain ⟨t_27, t16, H⟩ := H
  cases t_27 with
  | false =>
   replace H := ite_f H; obtain ⟨g10, d11⟩ : ∃ x, ((((i10).setCell ⟨w.heap.size, 0, none⟩ (.int .i64 t_3)).setCell ⟨w.heap.size, 1, none⟩ (.int .i64 t_7)).setCell ⟨w.heap.size, 2, none⟩ (.int .i64 t_9)).setCell ⟨w.heap.size, 3, none⟩ (.int .i64 t_14) = x := ⟨_, rfl⟩; have v13 := Ot_0.out.frozenAt 0; have x14 := Ot_0.out.frozenAt 1; have y14 := Ot_0.out.frozenAt 2; have o14 := Ot_0.out.frozenAt 3; have t10 := Lib.hid (own_stores [(0, .int .i64 t_3), (1, .int .i64 t_7), (2, .int .i64 t_9), (3, .int .i64 t_14)] Ot_0.out); have n10 : Hid (g10.ownsRow w.heap.size 77 4 (.slice (some ⟨w.heap.size, 0, none⟩) 1 1) 1 [.int .i64 t_3, .int .i64 t_7, .int .i64 t_9, .int .i64 t_14]) := Lib.hid (by rw [← d11]; exact t10.out.1); have b10 : Hid (i10.grownBy g10 (Value.slice (some ⟨w.heap.size, 0, none⟩) 1 1).ownBlock) := Lib.hid (by rw [← d11]; exact t10.out.2); have z11 := Lib.hid (GoC.grown_new b12.out b10.out (GoC.own_ge Ot_0.out)); clear t10; have r16 := cell_other b11 b10.out (Apart.symm d10.out); have f18 := cell_other m11 b10.out (Apart.symm d10.out); have c18 := cell_other n11 b10.out (Apart.symm d10.out); have o17 := cell_other l11 b10.out (Apart.symm d10.out); replace f10 := Lib.hid (own_other f10.out b10.out (Apart.symm d10.out)); replace Ot_2 := Lib.hid (own_other Ot_2.out b10.out (Apart.symm q12.out)); replace c10 := Lib.hid (own_other c10.out b10.out (Apart.symm o12.out)); replace p10 := Lib.hid (GoC.cur_otherO p10.out b10.out a10.out L0 Ot_0.out); clear Ot_0 b10; have k15 : g10.cell? ⟨w.heap.size, 0, none⟩ = some (.int .i64 t_3) := n10.out.cells rfl 0 _ rfl; have n16 : g10.cell? ⟨w.heap.size, 1, none⟩ = some (.int .i64 t_7) := n10.out.cells rfl 1 _ rfl; have l16 : g10.cell? ⟨w.heap.size, 2, none⟩ = some (.int .i64 t_9) := n10.out.cells rfl 2 _ rfl; have c15 : g10.cell? ⟨w.heap.size, 3, none⟩ = some (.int .i64 t_14) := n10.out.cells rfl 3 _ rfl; cases ret_hid H; go_wp2_with fail
   (try simp only [Exit.inBlock, Exit.then])
   refine bodyPost_ret (v := .agg #[.int .i64 t_3, .int .i64 t_7, .int .i64 t_9, .int .i64 t_14]) ?hr_ ?hd_ ?_
   case hd_ => rfl
   case hr_ => simp [results, Try.results77, k15, n16, l16, c15, go_sem]
   exact ⟨rfl, p10.out, z11.out⟩
  | true =>
   replace H := ite_t H; replace H := let_hid H; obtain ⟨t_32, i12, H⟩ := H; obtain ⟨w12, w13⟩ : ∃ x, i10.alloc (.cells #[.int .i64 t_3, .int .i64 9999, .int .i64 10000] 3) = x := ⟨_, rfl⟩; have j10 : Below i10.heap.size i10 w12 := (by rw [← w13]; exact (Below.refl _ _).alloc (Nat.le_refl _) _); have w14 := b12.out.size; have l12 : t_32.length = 3 := (by rw [← i12]; rfl)
   have w10 : Hid (w12.ownsRow w.heap.size 3 1 (.slice (some ⟨i10.heap.size, 0, none⟩) 3 3) 3 (HelpInt.iv t_32)) := by
    rw [← w13, ← i12]; have e_ : ([.int .i64 t_3, .int .i64 9999, .int .i64 10000] : List Value) = (HelpInt.iv ([t_3, 9999, 10000] : List Int)) := rfl; exact Lib.hid (own_laid (n := 3) w14 e_ rfl (by unfold maxLen; omega))
   clear w14; have w17 := Lib.hid i12; clear i12; replace l12 := Lib.hid l12; have n17 := Lib.hid (apart_fresh Ot_2.out); have k17 := Lib.hid (apart_fresh c10.out); have a14 := Lib.hid (GoC.apart_cur p10.out); have q15 := Lib.hid (apart_box g11); have t15 := Lib.hid (apart_box b11); have d16 := Lib.hid (grown_below b12.out j10); have g13 := cell_below j10 g11; have r12 := cell_below j10 v11; have p12 := cell_below j10 t11; have m12 := cell_below j10 q11; have l13 := cell_below j10 b11; have z13 := cell_below j10 m11; have r14 := cell_below j10 n11; have r13 := cell_below j10 l11; replace Ot_2 := Lib.hid (own_below Ot_2.out j10); replace c10 := Lib.hid (own_below c10.out j10); replace p10 := Lib.hid (GoC.cur_below p10.out j10); replace Ot_0 := Lib.hid (own_below Ot_0.out j10); replace f10 := Lib.hid (own_below f10.out j10); clear j10; replace H := bind2_hid H; obtain ⟨t_33, g18, z14, H⟩ := H; go_wp2_with fail; clear g11 v11 t11 q11 b11 m11 n11 l11; have hc_ := l12.out; have hv_ : (Value.slice (some ⟨i10.heap.size, 0, none⟩) 3 3 : Value) = Value.slice (some ⟨i10.heap.size, 0, none⟩) t_32.length 3 := (by rw [hc_])
   try rw [hv_]
   replace w10 := Lib.hid (own_len hc_ w10.out); clear hc_ hv_; go_wp2_with fail; go_at_call 56; refine (GsL1CurAmong.C (s13) (t_32) (some ⟨i10.heap.size, 0, none⟩) 3 (g0) (Ac0) (cc0) (bc0) _   (Lib.hid (own_cells w10.out)) (Lib.hid (own_max w10.out)) p10 (Lib.hid (fun _ => a14.out)) z14).mono ?_; rintro y17 t12 ⟨rfl, p13, v14⟩; have c12 := Lib.hid p13; have m10 : Hid (w12.grownBy t12 (Value.slice (some ⟨g0, 0, none⟩) 1 1).ownBlock) := Lib.hid v14; clear p13 v14; have k16 := Lib.hid (Aid.grown_tr d16.out m10.out); replace g13 := cell_other g13 m10.out (Apart.symm a10.out); replace r12 := cell_other r12 m10.out (Apart.symm a10.out); replace p12 := cell_other p12 m10.out (Apart.symm a10.out); replace m12 := cell_other m12 m10.out (Apart.symm a10.out); replace l13 := cell_other l13 m10.out (Apart.symm h10.out); replace z13 := cell_other z13 m10.out (Apart.symm h10.out); replace r14 := cell_other r14 m10.out (Apart.symm h10.out); replace r13 := cell_other r13 m10.out (Apart.symm h10.out); replace Ot_0 := Lib.hid (own_other Ot_0.out m10.out (Apart.symm a10.out)); replace f10 := Lib.hid (own_other f10.out m10.out (Apart.symm h10.out)); replace Ot_2 := Lib.hid (own_other Ot_2.out m10.out (Apart.symm f11.out)); replace c10 := Lib.hid (own_other c10.out m10.out (Apart.symm d12.out)); replace w10 := Lib.hid (own_other w10.out m10.out (Apart.symm a14.out)); clear p10 m10; obtain ⟨e11, q13⟩ : ∃ x, (t12).setCell ⟨e10.heap.size, 3, none⟩ (.int .i64 t_33) = x := ⟨_, rfl⟩; have z17 := f10.out.frozenAt 3; have h13 := Lib.hid (own_stores [(3, .int .i64 t_33)] f10.out); have p11 : Hid (e11.ownsRow w.heap.size 77 4 (.slice (some ⟨e10.heap.size, 0, none⟩) 1 1) 1 [.int .i64 t_3, .int .i64 t_7, .int .i64 t_9, .int .i64 t_33]) := Lib.hid (by rw [← q13]; exact h13.out.1); have s10 : Hid (t12.grownBy e11 (Value.slice (some ⟨e10.heap.size, 0, none⟩) 1 1).ownBlock) := Lib.hid (by rw [← q13]; exact h13.out.2); have l15 := Lib.hid (GoC.grown_new k16.out s10.out (GoC.own_ge f10.out)); clear h13; have h17 := cell_other g13 s10.out d10.out; have i18 := cell_other r12 s10.out d10.out; have s16 := cell_other p12 s10.out d10.out; have j17 := cell_other m12 s10.out d10.out; replace Ot_0 := Lib.hid (own_other Ot_0.out s10.out d10.out); replace Ot_2 := Lib.hid (own_other Ot_2.out s10.out c14.out); replace c10 := Lib.hid (own_other c10.out s10.out k13.out); replace w10 := Lib.hid (own_other w10.out s10.out (Apart.symm t15.out)); replace c12 := Lib.hid (GoC.cur_otherO c12.out s10.out h10.out L0 f10.out); clear f10 s10; have b16 : e11.cell? ⟨e10.heap.size, 0, none⟩ = some (.int .i64 t_3) := p11.out.cells rfl 0 _ rfl; have j16 : e11.cell? ⟨e10.heap.size, 1, none⟩ = some (.int .i64 t_7) := p11.out.cells rfl 1 _ rfl; have v15 : e11.cell? ⟨e10.heap.size, 2, none⟩ = some (.int .i64 t_9) := p11.out.cells rfl 2 _ rfl; have j15 : e11.cell? ⟨e10.heap.size, 3, none⟩ = some (.int .i64 t_33) := p11.out.cells rfl 3 _ rfl; obtain ⟨g10, d11⟩ : ∃ x, ((((e11).setCell ⟨w.heap.size, 0, none⟩ (.int .i64 t_3)).setCell ⟨w.heap.size, 1, none⟩ (.int .i64 t_7)).setCell ⟨w.heap.size, 2, none⟩ (.int .i64 t_9)).setCell ⟨w.heap.size, 3, none⟩ (.int .i64 t_33) = x := ⟨_, rfl⟩; have v13 := Ot_0.out.frozenAt 0; have x14 := Ot_0.out.frozenAt 1; have y14 := Ot_0.out.frozenAt 2; have o14 := Ot_0.out.frozenAt 3; have t10 := Lib.hid (own_stores [(0, .int .i64 t_3), (1, .int .i64 t_7), (2, .int .i64 t_9), (3, .int .i64 t_33)] Ot_0.out); have n10 : Hid (g10.ownsRow w.heap.size 77 4 (.slice (some ⟨w.heap.size, 0, none⟩) 1 1) 1 [.int .i64 t_3, .int .i64 t_7, .int .i64 t_9, .int .i64 t_33]) := Lib.hid (by rw [← d11]; exact t10.out.1); have b10 : Hid (e11.grownBy g10 (Value.slice (some ⟨w.heap.size, 0, none⟩) 1 1).ownBlock) := Lib.hid (by rw [← d11]; exact t10.out.2); have z11 := Lib.hid (GoC.grown_new l15.out b10.out (GoC.own_ge Ot_0.out)); clear t10; have v16 := cell_other b16 b10.out (Apart.symm d10.out); have t17 := cell_other j16 b10.out (Apart.symm d10.out)
   have i17 := cell_other v15 b10.out (Apart.symm d10.out); have a18 := cell_other j15 b10.out (Apart.symm d10.out); replace p11 := Lib.hid (own_other p11.out b10.out (Apart.symm d10.out)); replace Ot_2 := Lib.hid (own_other Ot_2.out b10.out (Apart.symm q12.out)); replace c10 := Lib.hid (own_other c10.out b10.out (Apart.symm o12.out)); replace w10 := Lib.hid (own_other w10.out b10.out (Apart.symm q15.out)); replace c12 := Lib.hid (GoC.cur_otherO c12.out b10.out a10.out L0 Ot_0.out); clear Ot_0 b10; have b15 : g10.cell? ⟨w.heap.size, 0, none⟩ = some (.int .i64 t_3) := n10.out.cells rfl 0 _ rfl; have i15 : g10.cell? ⟨w.heap.size, 1, none⟩ = some (.int .i64 t_7) := n10.out.cells rfl 1 _ rfl; have g15 : g10.cell? ⟨w.heap.size, 2, none⟩ = some (.int .i64 t_9) := n10.out.cells rfl 2 _ rfl; have i16 : g10.cell? ⟨w.heap.size, 3, none⟩ = some (.int .i64 t_33) := n10.out.cells rfl 3 _ rfl; cases ret_hid H; go_wp2_with fail
   (try simp only [Exit.inBlock, Exit.then])
   refine bodyPost_ret (v := .agg #[.int .i64 t_3, .int .i64 t_7, .int .i64 t_9, .int .i64 t_33]) ?hr_ ?hd_ ?_
   case hd_ => rfl
   case hr_ => simp [results, Try.results77, b15, i15, g15, i16, go_sem]
   exact ⟨rfl, c12.out, z11.out⟩
 | true =>
  replace H := ite_t H; replace H := let_hid H; obtain ⟨t_23, e12, H⟩ := H; obtain ⟨d13, s14⟩ : ∃ x, i10.alloc (.cells #[.int .i64 (-1), .int .i64 9, .int .i64 10] 3) = x := ⟨_, rfl⟩; have k10 : Below i10.heap.size i10 d13 := (by rw [← s14]; exact (Below.refl _ _).alloc (Nat.le_refl _) _); have f14 := b12.out.size; have a13 : t_23.length = 3 := (by rw [← e12]; rfl)
  have v10 : Hid (d13.ownsRow w.heap.size 3 1 (.slice (some ⟨i10.heap.size, 0, none⟩) 3 3) 3 (HelpInt.iv t_23)) := by
   rw [← s14, ← e12]; have e_ : ([.int .i64 (-1), .int .i64 9, .int .i64 10] : List Value) = (HelpInt.iv ([(-1), 9, 10] : List Int)) := rfl; exact Lib.hid (own_laid (n := 3) f14 e_ rfl (by unfold maxLen; omega))
  clear f14; have c17 := Lib.hid e12; clear e12; replace a13 := Lib.hid a13; have d17 := Lib.hid (apart_fresh Ot_2.out); have x16 := Lib.hid (apart_fresh c10.out); have d14 := Lib.hid (GoC.apart_cur p10.out); have e15 := Lib.hid (apart_box g11); have a16 := Lib.hid (apart_box b11); have w15 := Lib.hid (grown_below b12.out k10); have x12 := cell_below k10 g11; have f13 := cell_below k10 v11; have s12 := cell_below k10 t11; have v12 := cell_below k10 q11; have g14 := cell_below k10 b11; have i14 := cell_below k10 m11; have p14 := cell_below k10 n11; have t13 := cell_below k10 l11; replace Ot_2 := Lib.hid (own_below Ot_2.out k10); replace c10 := Lib.hid (own_below c10.out k10); replace p10 := Lib.hid (GoC.cur_below p10.out k10); replace Ot_0 := Lib.hid (own_below Ot_0.out k10); replace f10 := Lib.hid (own_below f10.out k10); clear k10; replace H := bind2_hid H; obtain ⟨t_24, f17, m15, H⟩ := H; go_wp2_with fail; clear g11 v11 t11 q11 b11 m11 n11 l11; have hc_ := a13.out; have hv_ : (Value.slice (some ⟨i10.heap.size, 0, none⟩) 3 3 : Value) = Value.slice (some ⟨i10.heap.size, 0, none⟩) t_23.length 3 := (by rw [hc_])
  try rw [hv_]
  replace v10 := Lib.hid (own_len hc_ v10.out); clear hc_ hv_; go_wp2_with fail; go_at_call 56; refine (GsL1CurAmong.C (s13) (t_23) (some ⟨i10.heap.size, 0, none⟩) 3 (g0) (Ac0) (cc0) (bc0) _   (Lib.hid (own_cells v10.out)) (Lib.hid (own_max v10.out)) p10 (Lib.hid (fun _ => d14.out)) m15).mono ?_; rintro r17 n12 ⟨rfl, l14, e14⟩; have a12 := Lib.hid l14; have l10 : Hid (d13.grownBy n12 (Value.slice (some ⟨g0, 0, none⟩) 1 1).ownBlock) := Lib.hid e14; clear l14 e14; have x15 := Lib.hid (Aid.grown_tr w15.out l10.out); replace x12 := cell_other x12 l10.out (Apart.symm a10.out); replace f13 := cell_other f13 l10.out (Apart.symm a10.out); replace s12 := cell_other s12 l10.out (Apart.symm a10.out); replace v12 := cell_other v12 l10.out (Apart.symm a10.out); replace g14 := cell_other g14 l10.out (Apart.symm h10.out); replace i14 := cell_other i14 l10.out (Apart.symm h10.out); replace p14 := cell_other p14 l10.out (Apart.symm h10.out); replace t13 := cell_other t13 l10.out (Apart.symm h10.out); replace Ot_0 := Lib.hid (own_other Ot_0.out l10.out (Apart.symm a10.out)); replace f10 := Lib.hid (own_other f10.out l10.out (Apart.symm h10.out)); replace Ot_2 := Lib.hid (own_other Ot_2.out l10.out (Apart.symm f11.out)); replace c10 := Lib.hid (own_other c10.out l10.out (Apart.symm d12.out)); replace v10 := Lib.hid (own_other v10.out l10.out (Apart.symm d14.out)); clear p10 l10; obtain ⟨j11, j14⟩ : ∃ x, (n12).setCell ⟨e10.heap.size, 2, none⟩ (.int .i64 t_24) = x := ⟨_, rfl⟩; have z16 := f10.out.frozenAt 2; have c13 := Lib.hid (own_stores [(2, .int .i64 t_24)] f10.out); have s11 : Hid (j11.ownsRow w.heap.size 77 4 (.slice (some ⟨e10.heap.size, 0, none⟩) 1 1) 1 [.int .i64 t_3, .int .i64 t_7, .int .i64 t_24, .int .i64 t_14]) := Lib.hid (by rw [← j14]; exact c13.out.1); have r10 : Hid (n12.grownBy j11 (Value.slice (some ⟨e10.heap.size, 0, none⟩) 1 1).ownBlock) := Lib.hid (by rw [← j14]; exact c13.out.2); have m16 := Lib.hid (GoC.grown_new x15.out r10.out (GoC.own_ge f10.out)); clear c13; have e17 := cell_other x12 r10.out d10.out; have e18 := cell_other f13 r10.out d10.out; have b18 := cell_other s12 r10.out d10.out; have a17 := cell_other v12 r10.out d10.out; replace Ot_0 := Lib.hid (own_other Ot_0.out r10.out d10.out); replace Ot_2 := Lib.hid (own_other Ot_2.out r10.out c14.out); replace c10 := Lib.hid (own_other c10.out r10.out k13.out); replace v10 := Lib.hid (own_other v10.out r10.out (Apart.symm a16.out)); replace a12 := Lib.hid (GoC.cur_otherO a12.out r10.out h10.out L0 f10.out); clear f10 r10; have p15 : j11.cell? ⟨e10.heap.size, 0, none⟩ = some (.int .i64 t_3) := s11.out.cells rfl 0 _ rfl; have s15 : j11.cell? ⟨e10.heap.size, 1, none⟩ = some (.int .i64 t_7) := s11.out.cells rfl 1 _ rfl; have r15 : j11.cell? ⟨e10.heap.size, 2, none⟩ = some (.int .i64 t_24) := s11.out.cells rfl 2 _ rfl; have p16 : j11.cell? ⟨e10.heap.size, 3, none⟩ = some (.int .i64 t_14) := s11.out.cells rfl 3 _ rfl; obtain ⟨g10, d11⟩ : ∃ x, ((((j11).setCell ⟨w.heap.size, 0, none⟩ (.int .i64 t_3)).setCell ⟨w.heap.size, 1, none⟩ (.int .i64 t_7)).setCell ⟨w.heap.size, 2, none⟩ (.int .i64 t_24)).setCell ⟨w.heap.size, 3, none⟩ (.int .i64 t_14) = x := ⟨_, rfl⟩; have v13 := Ot_0.out.frozenAt 0; have x14 := Ot_0.out.frozenAt 1; have y14 := Ot_0.out.frozenAt 2; have o14 := Ot_0.out.frozenAt 3; have t10 := Lib.hid (own_stores [(0, .int .i64 t_3), (1, .int .i64 t_7), (2, .int .i64 t_24), (3, .int .i64 t_14)] Ot_0.out); have n10 : Hid (g10.ownsRow w.heap.size 77 4 (.slice (some ⟨w.heap.size, 0, none⟩) 1 1) 1 [.int .i64 t_3, .int .i64 t_7, .int .i64 t_24, .int .i64 t_14]) := Lib.hid (by rw [← d11]; exact t10.out.1); have b10 : Hid (j11.grownBy g10 (Value.slice (some ⟨w.heap.size, 0, none⟩) 1 1).ownBlock) := Lib.hid (by rw [← d11]; exact t10.out.2); have z11 := Lib.hid (GoC.grown_new m16.out b10.out (GoC.own_ge Ot_0.out)); clear t10; have g17 := cell_other p15 b10.out (Apart.symm d10.out); have y16 := cell_other s15 b10.out (Apart.symm d10.out)
  have m17 := cell_other r15 b10.out (Apart.symm d10.out); have b17 := cell_other p16 b10.out (Apart.symm d10.out); replace s11 := Lib.hid (own_other s11.out b10.out (Apart.symm d10.out)); replace Ot_2 := Lib.hid (own_other Ot_2.out b10.out (Apart.symm q12.out)); replace c10 := Lib.hid (own_other c10.out b10.out (Apart.symm o12.out)); replace v10 := Lib.hid (own_other v10.out b10.out (Apart.symm e15.out)); replace a12 := Lib.hid (GoC.cur_otherO a12.out b10.out a10.out L0 Ot_0.out); clear Ot_0 b10; have f16 : g10.cell? ⟨w.heap.size, 0, none⟩ = some (.int .i64 t_3) := n10.out.cells rfl 0 _ rfl; have d15 : g10.cell? ⟨w.heap.size, 1, none⟩ = some (.int .i64 t_7) := n10.out.cells rfl 1 _ rfl; have a15 : g10.cell? ⟨w.heap.size, 2, none⟩ = some (.int .i64 t_24) := n10.out.cells rfl 2 _ rfl; have c16 : g10.cell? ⟨w.heap.size, 3, none⟩ = some (.int .i64 t_14) := n10.out.cells rfl 3 _ rfl; cases ret_hid H; go_wp2_with fail
  (try simp only [Exit.inBlock, Exit.then])
  refine bodyPost_ret (v := .agg #[.int .i64 t_3, .int .i64 t_7, .int .i64 t_24, .int .i64 t_14]) ?hr_ ?hd_ ?_
  case hd_ => rfl
  case hr_ => simp [results, Try.results77, f16, d15, a15, c16, go_sem]
  exact ⟨rfl, a12.out, z11.out⟩
end Go.Proofs.Ytgbcdmlcmnaimaa.GsL1CurMail

namespace Go.Proofs.Ytgbcdmlcmnaimaa.GsL1In
open Go.RowKit
open Go.Proofs.Ytgbcdmlcmnaimaa.Rowed Go.Proofs.Ytgbcdmlcmnaimaa.Turn Go.Proofs.Ytgbcdmlcmnaimaa.Aid Go.Proofs.Ytgbcdmlcmnaimaa.GoP Go.Proofs.Ytgbcdmlcmnaimaa.GoM

def P (x : Int) (a : Int) (b : Int) : Option (Bool) :=
  letK (decide (a ≤ x)) fun (t_3 : Bool) =>
  joinK (fun (t_8 : Bool) =>
  some t_8) fun jt_8 => iteK t_3 (letK (decide (x ≤ b)) fun (t_7 : Bool) =>
  appK jt_8 t_7) (appK jt_8 false)

set_option maxRecDepth 100000 in
set_option maxHeartbeats 2000000 in
theorem C (x : Int) (a : Int) (b : Int)   (w : World)   {r : Bool} (H : Hid (P x a b = some r)) :
    Calls Try.prog 64 #[.int .i64 x, .int .i64 a, .int .i64 b] w (Gives (.bool r) w) := by
  have HB := Lib.hid (Below.refl w.heap.size w)
  unfold P at H
  go_enter Try.func64, Try.ntmps64
  replace H := let_hid H
  obtain ⟨t_3, ht_3, H⟩ := H
  replace H := join_hid H
  cases t_3 with
  | false =>
    replace H := ite_f H
    replace H := app_hid H
    obtain rfl := ret_hid H
    go_wp2_with fail
    go_ret
    exact ⟨rfl, HB.out⟩
  | true =>
    replace H := ite_t H
    replace H := let_hid H
    obtain ⟨t_7, ht_7, H⟩ := H
    replace H := app_hid H
    obtain rfl := ret_hid H
    go_wp2_with fail
    go_ret
    exact ⟨rfl, HB.out⟩

set_option maxRecDepth 100000 in
set_option maxHeartbeats 2000000 in
theorem C0 (x : Int) (a : Int) (b : Int)   (w : World)   {r : Bool} (H : Hid (P x a b = some r)) :
    Calls Try.prog 64 #[.int .i64 x, .int .i64 a, .int .i64 b] w (fun e w'' => e = .returned (.bool r) ∧ w'' = w) := by
  have HB := Lib.hid (Below.refl w.heap.size w)
  unfold P at H
  go_enter Try.func64, Try.ntmps64
  replace H := let_hid H
  obtain ⟨t_3, ht_3, H⟩ := H
  replace H := join_hid H
  cases t_3 with
  | false =>
    replace H := ite_f H
    replace H := app_hid H
    obtain rfl := ret_hid H
    go_wp2_with fail
    go_ret
    exact ⟨rfl, rfl⟩
  | true =>
    replace H := ite_t H
    replace H := let_hid H
    obtain ⟨t_7, ht_7, H⟩ := H
    replace H := app_hid H
    obtain rfl := ret_hid H
    go_wp2_with fail
    go_ret
    exact ⟨rfl, rfl⟩
end Go.Proofs.Ytgbcdmlcmnaimaa.GsL1In

namespace Go.Proofs.Ytgbcdmlcmnaimaa.GsL9Office
open Go.RowKit
open Go.Proofs.Ytgbcdmlcmnaimaa.Rowed Go.Proofs.Ytgbcdmlcmnaimaa.Turn Go.Proofs.Ytgbcdmlcmnaimaa.Aid Go.Proofs.Ytgbcdmlcmnaimaa.GoP Go.Proofs.Ytgbcdmlcmnaimaa.GoM

def P (n_0 : Int) : Option (Bool) :=
  Option.bind (Go.Proofs.Ytgbcdmlcmnaimaa.GsL1In.P n_0 0 9) fun (t_2 : Bool) =>
  some t_2

set_option maxRecDepth 100000 in
set_option maxHeartbeats 2000000 in
theorem C (n_0 : Int)   (w : World)   {r : Bool} (H : Hid (P n_0 = some r)) :
    Calls Try.prog 74 #[.int .i64 n_0] w (Gives (.bool r) w) := by
  have HB := Lib.hid (Below.refl w.heap.size w)
  unfold P at H
  go_enter Try.func74, Try.ntmps74
  replace H := bind_hid H
  obtain ⟨t_2, qt_2, H⟩ := H
  go_wp2_with fail
  go_at_call 64
  refine (Go.Proofs.Ytgbcdmlcmnaimaa.GsL1In.C (n_0) (0) (9)  _    qt_2).mono ?_
  rintro e_t_2 wt_2 ⟨rfl, bt_2⟩
  have HBwt_2 := Lib.hid (Below.step HB.out bt_2)
  clear bt_2
  obtain rfl := ret_hid H
  go_wp2_with fail
  go_ret
  exact ⟨rfl, HBwt_2.out⟩
end Go.Proofs.Ytgbcdmlcmnaimaa.GsL9Office

namespace Go.Proofs.Ytgbcdmlcmnaimaa.GsL9Minute
open Go.RowKit
open Go.Proofs.Ytgbcdmlcmnaimaa.Rowed Go.Proofs.Ytgbcdmlcmnaimaa.Turn Go.Proofs.Ytgbcdmlcmnaimaa.Aid Go.Proofs.Ytgbcdmlcmnaimaa.GoP Go.Proofs.Ytgbcdmlcmnaimaa.GoM

def P (n_0 : Int) : Option (Bool) :=
  Option.bind (Go.Proofs.Ytgbcdmlcmnaimaa.GsL1In.P n_0 0 9999) fun (t_2 : Bool) =>
  some t_2

set_option maxRecDepth 100000 in
set_option maxHeartbeats 2000000 in
theorem C (n_0 : Int)   (w : World)   {r : Bool} (H : Hid (P n_0 = some r)) :
    Calls Try.prog 86 #[.int .i64 n_0] w (Gives (.bool r) w) := by
  have HB := Lib.hid (Below.refl w.heap.size w)
  unfold P at H
  go_enter Try.func86, Try.ntmps86
  replace H := bind_hid H
  obtain ⟨t_2, qt_2, H⟩ := H
  go_wp2_with fail
  go_at_call 64
  refine (Go.Proofs.Ytgbcdmlcmnaimaa.GsL1In.C (n_0) (0) (9999)  _    qt_2).mono ?_
  rintro e_t_2 wt_2 ⟨rfl, bt_2⟩
  have HBwt_2 := Lib.hid (Below.step HB.out bt_2)
  clear bt_2
  obtain rfl := ret_hid H
  go_wp2_with fail
  go_ret
  exact ⟨rfl, HBwt_2.out⟩
end Go.Proofs.Ytgbcdmlcmnaimaa.GsL9Minute

namespace Go.Proofs.Ytgbcdmlcmnaimaa.GsL9One
open Go.RowKit
open Go.Proofs.Ytgbcdmlcmnaimaa.Rowed Go.Proofs.Ytgbcdmlcmnaimaa.Turn Go.Proofs.Ytgbcdmlcmnaimaa.Aid Go.Proofs.Ytgbcdmlcmnaimaa.GoP Go.Proofs.Ytgbcdmlcmnaimaa.GoM

def P (x : PMail.Mail) : Option (Bool) :=
 unMail x fun (x_leave : Int) (x_from_ : Int) (x_to_ : Int) (x_arrive : Int) =>
 Option.bind (GsL9Office.P x_from_) fun (t_4 : Bool) =>
 joinK (fun (t_9 : Bool) =>
 joinK (fun (t_16 : Bool) =>
 joinK (fun (t_21 : Bool) =>
 joinK (fun (t_29 : Bool) =>
 some t_29) fun jt_29 => iteK t_21 (letK (IntKind.i64.wrap (x_arrive - 1)) fun (t_27 : Int) =>
 Option.bind (GsL1In.P x_leave 0 t_27) fun (t_28 : Bool) =>
 appK jt_29 t_28) (appK jt_29 false)) fun jt_21 => iteK t_16 (Option.bind (GsL9Minute.P x_arrive) fun (t_20 : Bool) =>
 appK jt_21 t_20) (appK jt_21 false)) fun jt_16 => iteK t_9 (letK (x_from_ != x_to_) fun (t_15 : Bool) =>
 appK jt_16 t_15) (appK jt_16 false)) fun jt_9 => iteK t_4 (Option.bind (GsL9Office.P x_to_) fun (t_8 : Bool) =>
 appK jt_9 t_8) (appK jt_9 false)

set_option maxRecDepth 100000 in
set_option maxHeartbeats 2000000 in
theorem C (x : PMail.Mail)   (w : World)   {r : Bool} (H : Hid (P x = some r)) :
  Calls Try.prog 78 #[x.val] w (Gives (.bool r) w) := by
 have HB := Lib.hid (Below.refl w.heap.size w); unfold P at H; obtain ⟨x_leave, x_from_, x_to_, x_arrive⟩ := x; replace H := unMail_hid H; unfold PMail.Mail.val
 go_enter Try.func78, Try.ntmps78
 obtain ⟨g10, h10⟩ : ∃ x, w.alloc (.cells #[.int .i64 x_leave, .int .i64 x_from_, .int .i64 x_to_, .int .i64 x_arrive] 77) = x := ⟨_, rfl⟩; have j10 : Below w.heap.size w g10 := (by rw [← h10]; exact (Below.refl _ _).alloc (Nat.le_refl _) _); have o10 := Lib.hid (Below.step HB.out j10); clear j10; have b10 : g10.cell? ⟨w.heap.size, 0, none⟩ = some (.int .i64 x_leave) := (by rw [← h10]; exact box_new _ _ _ 0 _ rfl); have c10 : g10.cell? ⟨w.heap.size, 1, none⟩ = some (.int .i64 x_from_) := (by rw [← h10]; exact box_new _ _ _ 1 _ rfl); have a10 : g10.cell? ⟨w.heap.size, 2, none⟩ = some (.int .i64 x_to_) := (by rw [← h10]; exact box_new _ _ _ 2 _ rfl); have d10 : g10.cell? ⟨w.heap.size, 3, none⟩ = some (.int .i64 x_arrive) := (by rw [← h10]; exact box_new _ _ _ 3 _ rfl); replace H := bind_hid H; obtain ⟨t_4, qt_4, H⟩ := H; go_wp2_with fail; go_at_call 74; refine (GsL9Office.C (x_from_)  _    qt_4).mono ?_; rintro w10 wt_4 ⟨rfl, bt_4⟩; have k10 := Lib.hid (Below.step o10.out bt_4); replace b10 := cell_below bt_4 b10; replace c10 := cell_below bt_4 c10; replace a10 := cell_below bt_4 a10; replace d10 := cell_below bt_4 d10; clear bt_4; replace H := join_hid H
 cases t_4 with
 | false =>
  replace H := ite_f H; replace H := app_hid H; replace H := join_hid H; replace H := ite_f H; replace H := app_hid H; replace H := join_hid H; replace H := ite_f H; replace H := app_hid H; replace H := join_hid H; replace H := ite_f H; replace H := app_hid H; obtain rfl := ret_hid H; go_wp2_with fail; go_ret; exact ⟨rfl, k10.out⟩
 | true =>
  replace H := ite_t H; replace H := bind_hid H; obtain ⟨t_8, qt_8, H⟩ := H; go_wp2_with fail; go_at_call 74; refine (GsL9Office.C (x_to_)  _    qt_8).mono ?_; rintro v10 wt_8 ⟨rfl, bt_8⟩; have i10 := Lib.hid (Below.step k10.out bt_8); replace b10 := cell_below bt_8 b10; replace c10 := cell_below bt_8 c10; replace a10 := cell_below bt_8 a10; replace d10 := cell_below bt_8 d10; clear bt_8; replace H := app_hid H; replace H := join_hid H
  cases t_8 with
  | false =>
   replace H := ite_f H; replace H := app_hid H; replace H := join_hid H; replace H := ite_f H; replace H := app_hid H; replace H := join_hid H; replace H := ite_f H; replace H := app_hid H; obtain rfl := ret_hid H; go_wp2_with fail; go_ret; exact ⟨rfl, i10.out⟩
  | true =>
   replace H := ite_t H; replace H := let_hid H; obtain ⟨t_15, t10, H⟩ := H; replace H := app_hid H; replace H := join_hid H
   cases t_15 with
   | false =>
    replace H := ite_f H; replace H := app_hid H; replace H := join_hid H; replace H := ite_f H; replace H := app_hid H; obtain rfl := ret_hid H; go_wp2_with fail; go_ret; exact ⟨rfl, i10.out⟩
   | true =>
    replace H := ite_t H; replace H := bind_hid H; obtain ⟨t_20, p10, H⟩ := H; go_wp2_with fail; go_at_call 86; refine (GsL9Minute.C (x_arrive)  _    p10).mono ?_; rintro s10 x10 ⟨rfl, f10⟩; have l10 := Lib.hid (Below.step i10.out f10); replace b10 := cell_below f10 b10; replace c10 := cell_below f10 c10; replace a10 := cell_below f10 a10; replace d10 := cell_below f10 d10; clear f10; replace H := app_hid H; replace H := join_hid H
    cases t_20 with
    | false =>
     replace H := ite_f H; replace H := app_hid H; obtain rfl := ret_hid H; go_wp2_with fail; go_ret; exact ⟨rfl, l10.out⟩
    | true =>
     replace H := ite_t H; replace H := let_hid H; obtain ⟨t_27, y10, H⟩ := H; replace H := bind_hid H; obtain ⟨t_28, n10, H⟩ := H; go_wp2_with fail; go_at_call 64; refine (GsL1In.C (x_leave) (0) (t_27)  _    n10).mono ?_; rintro r10 q10 ⟨rfl, e10⟩; have m10 := Lib.hid (Below.step l10.out e10); replace b10 := cell_below e10 b10; replace c10 := cell_below e10 c10; replace a10 := cell_below e10 a10; replace d10 := cell_below e10 d10; clear e10; replace H := app_hid H; obtain rfl := ret_hid H; go_wp2_with fail; go_ret; exact ⟨rfl, m10.out⟩
end Go.Proofs.Ytgbcdmlcmnaimaa.GsL9One

namespace Go.Proofs.Ytgbcdmlcmnaimaa.GsL9Code
open Go.RowKit
open Go.Proofs.Ytgbcdmlcmnaimaa.Rowed Go.Proofs.Ytgbcdmlcmnaimaa.Turn Go.Proofs.Ytgbcdmlcmnaimaa.Aid Go.Proofs.Ytgbcdmlcmnaimaa.GoP Go.Proofs.Ytgbcdmlcmnaimaa.GoM

def P (x : PMail.Mail) : Option (Int) :=
 unMail x fun (x_leave : Int) (x_from_ : Int) (x_to_ : Int) (x_arrive : Int) =>
 letK (IntKind.i64.wrap (x_leave * 10)) fun (t_4 : Int) =>
 letK (IntKind.i64.wrap (t_4 + x_from_)) fun (t_7 : Int) =>
 letK (IntKind.i64.wrap (t_7 * 10)) fun (t_8 : Int) =>
 letK (IntKind.i64.wrap (t_8 + x_to_)) fun (t_11 : Int) =>
 letK (IntKind.i64.wrap (t_11 * 10000)) fun (t_12 : Int) =>
 letK (IntKind.i64.wrap (t_12 + x_arrive)) fun (t_15 : Int) =>
 some t_15

set_option maxRecDepth 100000 in
set_option maxHeartbeats 2000000 in
theorem C (x : PMail.Mail)   (w : World)   {r : Int} (H : Hid (P x = some r)) :
  Calls Try.prog 79 #[x.val] w (Gives (.int .i64 r) w) := by
 have HB := Lib.hid (Below.refl w.heap.size w); unfold P at H; obtain ⟨x_leave, x_from_, x_to_, x_arrive⟩ := x; replace H := unMail_hid H; unfold PMail.Mail.val
 go_enter Try.func79, Try.ntmps79
 obtain ⟨b10, a10⟩ : ∃ x, w.alloc (.cells #[.int .i64 x_leave, .int .i64 x_from_, .int .i64 x_to_, .int .i64 x_arrive] 77) = x := ⟨_, rfl⟩; have c10 : Below w.heap.size w b10 := (by rw [← a10]; exact (Below.refl _ _).alloc (Nat.le_refl _) _); have d10 := Lib.hid (Below.step HB.out c10); clear c10; have f10 : b10.cell? ⟨w.heap.size, 0, none⟩ = some (.int .i64 x_leave) := (by rw [← a10]; exact box_new _ _ _ 0 _ rfl); have k10 : b10.cell? ⟨w.heap.size, 1, none⟩ = some (.int .i64 x_from_) := (by rw [← a10]; exact box_new _ _ _ 1 _ rfl); have i10 : b10.cell? ⟨w.heap.size, 2, none⟩ = some (.int .i64 x_to_) := (by rw [← a10]; exact box_new _ _ _ 2 _ rfl); have j10 : b10.cell? ⟨w.heap.size, 3, none⟩ = some (.int .i64 x_arrive) := (by rw [← a10]; exact box_new _ _ _ 3 _ rfl); replace H := let_hid H; obtain ⟨t_4, ht_4, H⟩ := H; replace H := let_hid H; obtain ⟨t_7, ht_7, H⟩ := H; replace H := let_hid H; obtain ⟨t_8, ht_8, H⟩ := H; replace H := let_hid H; obtain ⟨t_11, g10, H⟩ := H; replace H := let_hid H; obtain ⟨t_12, h10, H⟩ := H; replace H := let_hid H; obtain ⟨t_15, e10, H⟩ := H; obtain rfl := ret_hid H; go_wp2_with fail; go_ret; exact ⟨rfl, d10.out⟩
end Go.Proofs.Ytgbcdmlcmnaimaa.GsL9Code

