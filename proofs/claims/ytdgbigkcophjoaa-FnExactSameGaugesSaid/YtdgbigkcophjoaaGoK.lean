/- More words for the contracts of plain functions: a test against nil, a row that is handed over, a row whose end is cleared. No condition. -/
import Derived.Lib.SliceRun
import Derived.Test.YtdgbigkcophjoaaGoM
namespace Go.Proofs.Ytdgbigkcophjoaa.GoK
set_option linter.unusedVariables false
open Go.RowKit
open Go.Proofs.Ytdgbigkcophjoaa.Rowed Go.Proofs.Ytdgbigkcophjoaa.Turn Go.Proofs.Ytdgbigkcophjoaa.GoM

/-- a test of a row against nil: only an empty row can be nil, and then both ways have one answer -/
def nilK {α ρ : Type} (l : List α) (f : Bool → Option ρ) : Option ρ := f false
theorem nilK_hid {α ρ : Type} {l : List α} {f : Bool → Option ρ} {r : ρ} (H : Hid (nilK l f = some r)) (b : Bool) (hb : b = true → l = []) (he : l = [] → f true = f false) : Hid (f b = some r) := by
  have h : f false = some r := H
  cases b with
  | false => exact h
  | true => exact (he (hb rfl)).trans h
theorem nil_cells {w : World} {K n : Nat} {A : Option Addr} {α : Type} {l : List α} {cs : List Value} (h : Cells w K A n cs) (hl : cs = [] → l = []) : A.isNone = true → l = [] := by
  intro hA
  refine hl ?_
  cases hc : cs with
  | nil => rfl
  | cons y ys => obtain ⟨a, e, _⟩ := h.2 (by rw [hc]; simp); rw [e] at hA; simp at hA
/-- where a row lies that a function hands on: where another one lay, or behind all that was there -/
def From (w : World) (A A' : Option Addr) : Prop := ∀ a', A' = some a' → (∃ a, A = some a ∧ a.block = a'.block) ∨ w.heap.size ≤ a'.block
theorem from_self {w : World} {A : Option Addr} : From w A A := fun a h => .inl ⟨a, h, rfl⟩
theorem from_new {w : World} {A : Option Addr} {g : Nat} (h : w.heap.size ≤ g) : From w A (some ⟨g, 0, none⟩) := by
  intro a' e
  injection e with e
  subst e
  exact .inr h
theorem apart_from {w : World} {A A' B : Option Addr} (hD : Apart A B) (hB : ∀ a, B = some a → a.block < w.heap.size) (h : From w A A') : Apart A' B := by
  intro a a' ha ha' e
  have hl := hB a' ha'
  rcases h a ha with ⟨a2, h2, e2⟩ | h2
  · exact hD a2 a' h2 ha' (e2.trans e)
  · omega
theorem own_emptyB {b : Nat} {wc : World} {T K : Nat} (h : b ≤ wc.heap.size) : (wc.alloc (.cells #[] T)).ownsRow b T K (.slice (some ⟨wc.heap.size, 0, none⟩) 0 0) 0 [] :=
  ⟨by simp, .inr ⟨wc.heap.size, 0, #[], rfl, h, heap_alloc_new wc _, Nat.le_refl _, by unfold maxLen; omega, by simp, by simp⟩⟩
theorem own_setCells {b T K n c g : Nat} : ∀ (vs : List Value) (o : Nat) {w : World} {xs : List Value}, w.ownsRow b T K (.slice (some ⟨g, 0, none⟩) n c) n xs → o + vs.length ≤ xs.length →
    (w.setCells g o vs).ownsRow b T K (.slice (some ⟨g, 0, none⟩) n c) n (xs.take o ++ vs ++ xs.drop (o + vs.length)) ∧ w.grownBy (w.setCells g o vs) (some g) := by
  intro vs
  induction vs with
  | nil => intro o w xs h _; exact ⟨by simpa [World.setCells] using h, Aid.grown_refl _ _⟩
  | cons v vs ih =>
    intro o w xs h hl
    simp only [List.length_cons] at hl
    have h1 := h.stored o v
    have h2 := ih (o + 1) h1.1 (by rw [List.length_set]; omega)
    refine ⟨?_, Aid.grown_tr h1.2 h2.2⟩
    have e : (xs.set o v).take (o + 1) ++ vs ++ (xs.set o v).drop (o + 1 + vs.length) = xs.take o ++ (v :: vs) ++ xs.drop (o + (v :: vs).length) := by
      have ho : o < xs.length := by omega
      rw [List.drop_set_of_lt (by omega), List.take_add_one, List.getElem?_set_self ho, List.take_set_of_le (Nat.le_refl _)]
      simp [Nat.add_comm, Nat.add_left_comm]
    rw [← e]
    exact h2.1
/-- clear(s[lo:]) of a row of its own -/
theorem own_clear {P : Program} {t e : TypeId} {i : TypeInfo} {k : IntKind} {n c b : Nat} {A : Option Addr} {lo : Int} {w : World} {xs ys : List Value} {z : Value}
    (ht : P.underlying t = some (.slice (P.elem t))) (he : P.elem t = e) (hi : P.info? e = some i) (hs : i.size = 1) (hv : i.zero = some z) (hz : z.cells = #[z]) (h1 : z.oneCell' = true)
    (h : w.ownsRow b e 1 (.slice A n c) n xs) (hl : 0 ≤ lo ∧ lo ≤ (n : Int)) (hd : xs.take lo.toNat ++ List.replicate (n - lo.toNat) z = ys) :
    ∃ A' m c' w', (∀ W, (Instr.slice t (.slice A n c) (some (.int k lo)) none none).run P W = .ok (.slice A' m c') W) ∧ (∀ ty, (Builtin.clear_ #[t] ty #[.slice A' m c']).run P w = .ok (.tuple #[]) w') ∧
      w'.ownsRow b e 1 (.slice A n c) n ys ∧ w.grownBy w' (Value.slice A n c).ownBlock := by
  have hR := own_room h
  have hxs : xs.length = n := by have := h.1; omega
  have hsz : ∀ W, (sizeOf (P.elem t)).run P W = .ok 1 W := by intro W; subst he; simp [sizeOf, typeInfo, hi, hs]
  have hrun : ∀ W, (Instr.slice t (.slice A n c) (some (.int k lo)) none none).run P W = .ok (.slice (if c = lo.toNat then A else A.map (·.add (lo.toNat * 1))) (n - lo.toNat) (c - lo.toNat)) W := by
    intro W
    rw [run_slice_l (P := P) W t A n c ht k lo hl.1 hl.2, hsz W]
    rfl
  by_cases hm : n - lo.toNat = 0
  · refine ⟨_, _, _, w, hrun, ?_, ?_, Aid.grown_refl _ _⟩
    · intro ty
      rw [hm]
      generalize (if c = lo.toNat then A else A.map (·.add (lo.toNat * 1))) = A'
      cases A' <;> simp [Builtin.clear_, run_underlying ht]
    · rw [← hd, hm, List.replicate_zero, List.append_nil, List.take_of_length_le (by omega)]
      exact h
  · obtain ⟨g, rfl⟩ := own_some h (by omega)
    have hne : ¬ c = lo.toNat := by have := hR.1; omega
    have hcl := own_cells h
    have hget : ∀ j, j < n → (w.cell? ⟨g, j, none⟩).isSome = true := by
      intro j hj
      obtain ⟨ad, e0, hc⟩ := hcl.2 (by omega)
      obtain rfl := Option.some.inj e0
      have := hc j xs[j] (List.getElem?_eq_getElem (by omega))
      rw [add_flat, Nat.zero_add] at this
      rw [this]; rfl
    have hadd : (if c = lo.toNat then (some ⟨g, 0, none⟩ : Option Addr) else (some ⟨g, 0, none⟩ : Option Addr).map (·.add (lo.toNat * 1))) = some ⟨g, lo.toNat, none⟩ := by
      rw [if_neg hne, Option.map_some, add_flat, Nat.zero_add, Nat.mul_one]
    rw [hadd] at hrun
    have h2 := own_setCells (List.replicate (n - lo.toNat) z) lo.toNat h (by rw [List.length_replicate]; omega)
    refine ⟨_, _, _, _, hrun, fun ty => ?_, ?_, h2.2⟩
    · refine Lib.run_clear_slice w t e ty z (he ▸ ht) (fun w => by simp [zeroValue, typeInfo, hi, hv]) hz h1 g lo.toNat (n - lo.toNat) (c - lo.toNat) (by omega) (fun j hj => hget _ (by omega)) (fun j hj => h.frozenAt _)
    · have e2 : xs.take lo.toNat ++ List.replicate (n - lo.toNat) z ++ xs.drop (lo.toNat + (List.replicate (n - lo.toNat) z).length) = ys := by
        rw [List.length_replicate, List.drop_of_length_le (by omega), List.append_nil, hd]
      rw [← e2]
      exact h2.1
theorem apart_xio {n bb oo : Nat} {B : Option Addr} (h : 0 < n → Apart (some ⟨bb, oo, none⟩) B) (h0 : 0 < n) : Apart B (some ⟨bb, 0, none⟩) := by
  intro a a' ha ha' e
  injection ha' with ha'
  subst ha'
  exact h h0 ⟨bb, oo, none⟩ a rfl ha e.symm
/-- a row that came in, where another one was written -/
theorem cells_wr {w w' : World} {K n q c' : Nat} {A B : Option Addr} {xs : List Value} (h : Cells w K A n xs) (hg : w.grownBy w' (Value.slice B q c').ownBlock) (hX : 0 < n → Apart A B) : Cells w' K A n xs := by
  refine ⟨h.1, fun h0 => ?_⟩
  obtain ⟨a, e, hc⟩ := h.2 h0
  have hn : 0 < n := by
    rcases Nat.eq_zero_or_pos n with h1 | h1
    · have := h.1; rw [h1, Nat.zero_mul] at this; omega
    · exact h1
  refine ⟨a, e, fun j u hu => ?_⟩
  have hj := hc j u hu
  have hb : (a.add j).block = a.block := by unfold Addr.add; split <;> rfl
  rw [World.cell?_of_block (hg.block (a.add j).block (cell_lt hj) ?_)]
  · exact hj
  · cases hB : B with
    | none => simp [Value.ownBlock]
    | some y =>
      simp only [Value.ownBlock, ne_eq, Option.some.injEq]
      intro e2
      exact hX hn a y e hB (by rw [← hb]; exact e2)
/-- what came in lies apart from a row of one's own -/
theorem far_base {w w1 : World} {K n T K' m c n' : Nat} {A B : Option Addr} {cs xs : List Value} (hK : 0 < K) (h : Cells w K A n cs) (hO : w1.ownsRow w.heap.size T K' (.slice B m c) n' xs) : 0 < n → Apart A B := by
  intro hn a a' ha ha' e
  have h0 : 0 < cs.length := by rw [h.1]; exact Nat.mul_pos hn hK
  obtain ⟨a2, e2, hc⟩ := h.2 h0
  obtain rfl : a = a2 := by rw [ha] at e2; exact Option.some.inj e2
  have hl := cell_lt (hc 0 _ (List.getElem?_eq_getElem h0))
  have hb : (a.add 0).block = a.block := by unfold Addr.add; simp
  have := (own_lt hO a' ha').1
  rw [hb] at hl
  omega
end Go.Proofs.Ytdgbigkcophjoaa.GoK
