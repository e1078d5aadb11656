/- Texts on which the proofs of several laws stand, one behind the other (1 of 5). No condition of their own. -/
import Derived.Lib.Hide
import Derived.Below
import Derived.Laws.OwnMore
import Derived.Laws.World
import Derived.Deep.Draws
import Derived.Lib.QuietBelow
import Derived.Lib.Strings
import Derived.OwnWalk
import Derived.Laws.Strings3
import Derived.Laws.AppendOwnNone
import Derived.Laws.DeepStrings4
import Derived.Laws.Slices
import Derived.Deep.Slices
import Derived.Laws.MakeOwn
import Derived.Maps.AppendAt
import Derived.Lib.LaidU8
import Derived.WalkKit
import Derived.WalkSpells
import Derived.Test.YthdmmoameoafmaaChecked
import Derived.WalkLawsBesides
import Derived.BigQuiet
import Derived.Deep.LoopGhost
import Derived.Deep.QuietTactic
import Derived.IntWalk
/- Words in which a Go function is written as a plain function that either has an answer or has none (a panic, or a loop that does not end in time); and how such a sentence is taken apart. No condition. -/
namespace Go.Proofs.Ythdmmoameoafmaa.GoP
set_option linter.unusedVariables false
open Go.RowKit

def idx {α : Type} (l : List α) (i : Int) : Option α := if 0 ≤ i then l[i.toNat]? else none
def letK {α ρ : Type} (x : α) (f : α → Option ρ) : Option ρ := f x
def iteK {ρ : Type} (c : Bool) (a b : Option ρ) : Option ρ := match c with | true => a | false => b
def joinK {γ : Type} {ρ : Type} (rest : γ) (f : γ → Option ρ) : Option ρ := f rest
def appK {α ρ : Type} (j : α → Option ρ) (x : α) : Option ρ := j x
def guardK {ρ : Type} (p : Prop) [Decidable p] (a : Option ρ) : Option ρ := if p then a else none
def bind2 {α β ρ : Type} (x : Option (α × β)) (f : α → β → Option ρ) : Option ρ := match x with | none => none | some (a, b) => f a b
def bind3 {α β γ ρ : Type} (x : Option (α × β × γ)) (f : α → β → γ → Option ρ) : Option ρ := match x with | none => none | some (a, b, c) => f a b c
def bind4 {α β γ δ ρ : Type} (x : Option (α × β × γ × δ)) (f : α → β → γ → δ → Option ρ) : Option ρ := match x with | none => none | some (a, b, c, d) => f a b c d
def unp2 {α β ρ : Type} (s : α × β) (f : α → β → Option ρ) : Option ρ := f s.1 s.2
def unp3 {α β γ ρ : Type} (s : α × β × γ) (f : α → β → γ → Option ρ) : Option ρ := f s.1 s.2.1 s.2.2
def unp4 {α β γ δ ρ : Type} (s : α × β × γ × δ) (f : α → β → γ → δ → Option ρ) : Option ρ := f s.1 s.2.1 s.2.2.1 s.2.2.2
/-- m rounds, counted from k on -/
def cntK {σ ρ : Type} (f : Nat → σ → (σ → Option ρ) → (σ → Option ρ) → Option ρ) : Nat → Nat → σ → (σ → Option ρ) → Option ρ
  | 0, _, s, fin => fin s
  | m + 1, k, s, fin => f k s (fun s' => cntK f m (k + 1) s' fin) fin
/-- rounds until one ends the loop, n at most -/
def loopK {σ ρ : Type} (f : σ → (σ → Option ρ) → (σ → Option ρ) → Option ρ) : Nat → σ → (σ → Option ρ) → Option ρ
  | 0, _, _ => none
  | n + 1, s, fin => f s (fun s' => loopK f n s' fin) fin

theorem let_hid {α ρ : Type} {x : α} {f : α → Option ρ} {r : ρ} (H : Hid (letK x f = some r)) : ∃ y, x = y ∧ Hid (f y = some r) := ⟨x, rfl, H⟩
theorem bind_hid {α ρ : Type} {x : Option α} {f : α → Option ρ} {r : ρ} (H : Hid (x.bind f = some r)) : ∃ y, Hid (x = some y) ∧ Hid (f y = some r) := by
  have h : x.bind f = some r := H
  cases x with
  | none => simp at h
  | some y => exact ⟨y, rfl, h⟩
theorem bind2_hid {α β ρ : Type} {x : Option (α × β)} {f : α → β → Option ρ} {r : ρ} (H : Hid (bind2 x f = some r)) : ∃ a b, Hid (x = some (a, b)) ∧ Hid (f a b = some r) := by
  have h : bind2 x f = some r := H
  cases x with
  | none => simp [bind2] at h
  | some y => exact ⟨y.1, y.2, rfl, h⟩
theorem ite_t {ρ : Type} {a b : Option ρ} {r : ρ} (H : Hid (iteK true a b = some r)) : Hid (a = some r) := H
theorem ite_f {ρ : Type} {a b : Option ρ} {r : ρ} (H : Hid (iteK false a b = some r)) : Hid (b = some r) := H
theorem join_hid {γ ρ : Type} {j : γ} {f : γ → Option ρ} {r : ρ} (H : Hid (joinK j f = some r)) : Hid (f j = some r) := H
theorem app_hid {α ρ : Type} {j : α → Option ρ} {x : α} {r : ρ} (H : Hid (appK j x = some r)) : Hid (j x = some r) := H
theorem guard_hid {ρ : Type} {p : Prop} [Decidable p] {a : Option ρ} {r : ρ} (H : Hid (guardK p a = some r)) : p ∧ Hid (a = some r) := by
  have h : guardK p a = some r := H
  unfold guardK at h
  by_cases hp : p
  · rw [if_pos hp] at h; exact ⟨hp, h⟩
  · rw [if_neg hp] at h; simp at h
theorem unp2_hid {α β ρ : Type} {a : α} {b : β} {f : α → β → Option ρ} {r : ρ} (H : Hid (unp2 (a, b) f = some r)) : Hid (f a b = some r) := H
theorem cnt_zero {σ ρ : Type} {f : Nat → σ → (σ → Option ρ) → (σ → Option ρ) → Option ρ} {k : Nat} {s : σ} {fin : σ → Option ρ} {r : ρ} (H : Hid (cntK f 0 k s fin = some r)) : Hid (fin s = some r) := H
theorem cnt_succ {σ ρ : Type} {f : Nat → σ → (σ → Option ρ) → (σ → Option ρ) → Option ρ} {m k : Nat} {s : σ} {fin : σ → Option ρ} {r : ρ} (H : Hid (cntK f (m + 1) k s fin = some r)) :
    Hid (f k s (fun s' => cntK f m (k + 1) s' fin) fin = some r) := H
theorem loop_zero {σ ρ : Type} {f : σ → (σ → Option ρ) → (σ → Option ρ) → Option ρ} {s : σ} {fin : σ → Option ρ} {r : ρ} (H : Hid (loopK f 0 s fin = some r)) : False := by
  have h : loopK f 0 s fin = some r := H
  simp [loopK] at h
theorem loop_succ {σ ρ : Type} {f : σ → (σ → Option ρ) → (σ → Option ρ) → Option ρ} {n : Nat} {s : σ} {fin : σ → Option ρ} {r : ρ} (H : Hid (loopK f (n + 1) s fin = some r)) :
    Hid (f s (fun s' => loopK f n s' fin) fin = some r) := H
theorem ret_hid {ρ : Type} {v r : ρ} (H : Hid (some v = some r)) : v = r := Option.some.inj H
theorem idx_hid {α ρ : Type} {l : List α} {i : Int} {f : α → Option ρ} {r : ρ} (H : Hid ((idx l i).bind f = some r)) :
    ∃ (k : Nat) (x : α), i = (k : Int) ∧ k < l.length ∧ Hid (l[k]? = some x) ∧ Hid (f x = some r) := by
  have h : (idx l i).bind f = some r := H
  unfold idx at h
  by_cases hi : 0 ≤ i
  · rw [if_pos hi] at h
    cases hx : l[i.toNat]? with
    | none => rw [hx] at h; simp at h
    | some x =>
      rw [hx] at h
      exact ⟨i.toNat, x, (Int.toNat_of_nonneg hi).symm, (List.getElem?_eq_some_iff.1 hx).1, hx, h⟩
  · rw [if_neg hi] at h; simp at h
theorem idx_nat {α : Type} (l : List α) (k : Nat) : idx l (k : Int) = l[k]? := by unfold idx; rw [if_pos (by omega)]; simp
end Go.Proofs.Ythdmmoameoafmaa.GoP

/- Words for a slice that reads as a list of values, nil and empty let in; for slices of strings; and what becomes of them in later worlds. No condition. -/
namespace Go.Proofs.Ythdmmoameoafmaa.Rowed
set_option linter.unusedVariables false
open Go.RowKit

theorem add_block (a : Addr) (n : Nat) : (a.add n).block = a.block := by unfold Addr.add; split <;> rfl
theorem cell_lt {w : World} {a : Addr} {v : Value} (h : w.cell? a = some v) : a.block < w.heap.size := World.block_lt_of_cell? w a h
theorem cell_below {w w' : World} (hb : Below w.heap.size w w') {a : Addr} {v : Value} (hc : w.cell? a = some v) : w'.cell? a = some v := (hb.cell (cell_lt hc)).trans hc
theorem below_drewN (w : World) (m : Nat) : Below w.heap.size w (w.drewN m) := ⟨rfl, rfl, rfl, Nat.le_refl _, fun _ _ => rfl⟩
theorem Below.step {a b c : World} (h : Below a.heap.size a b) (k : Below b.heap.size b c) : Below a.heap.size a c := h.trans (k.mono h.size)

/-- the world has drawn, and nothing else has turned -/
def DrawnTo (w w' : World) : Prop := ∃ m, w' = w.drewN m
theorem DrawnTo.refl (w : World) : DrawnTo w w := ⟨0, rfl⟩
theorem DrawnTo.more {w w' : World} (h : DrawnTo w w') (n : Nat) : DrawnTo w (w'.drewN n) := let ⟨m, e⟩ := h; ⟨m + n, by rw [e, World.drewN_drewN]⟩
theorem DrawnTo.trans {a b c : World} (h : DrawnTo a b) (k : DrawnTo b c) : DrawnTo a c := by
  obtain ⟨m, rfl⟩ := h
  obtain ⟨n, rfl⟩ := k
  exact ⟨m + n, World.drewN_drewN ..⟩
theorem DrawnTo.cell {w w' : World} (h : DrawnTo w w') {a : Addr} {v : Value} (hc : w.cell? a = some v) : w'.cell? a = some v := by
  obtain ⟨m, rfl⟩ := h; exact hc
theorem DrawnTo.below {w w' : World} (h : DrawnTo w w') : Below w.heap.size w w' := by
  obtain ⟨m, rfl⟩ := h; exact below_drewN w m

/-- the slice 'A, n' reads as the cells xs (size cells each element) -/
def Cells (w : World) (size : Nat) (A : Option Addr) (n : Nat) (xs : List Value) : Prop :=
  xs.length = n * size ∧ (0 < xs.length → ∃ ad : Addr, A = some ad ∧ ∀ j u, xs[j]? = some u → w.cell? (ad.add j) = some u)

theorem Cells.below {w w' : World} {size n : Nat} {A : Option Addr} {xs : List Value} (h : Cells w size A n xs) (hb : Below w.heap.size w w') : Cells w' size A n xs :=
  ⟨h.1, fun hn => let ⟨ad, e, hc⟩ := h.2 hn; ⟨ad, e, fun j u hu => cell_below hb (hc j u hu)⟩⟩
theorem Cells.drewN {w : World} {size n : Nat} {A : Option Addr} {xs : List Value} (h : Cells w size A n xs) (m : Nat) : Cells (w.drewN m) size A n xs := h
theorem Cells.nil_ (w : World) (size : Nat) (A : Option Addr) : Cells w size A 0 [] := ⟨by simp, fun h => by simp at h⟩
theorem Cells.at_ {w : World} {n k : Nat} {A : Option Addr} {xs : List Value} (h : Cells w 1 A n xs) (hk : k < n) : ∃ ad u, A = some ad ∧ xs[k]? = some u ∧ w.cell? (ad.add k) = some u := by
  have hl : k < xs.length := by have := h.1; omega
  obtain ⟨ad, e, hc⟩ := h.2 (by omega)
  exact ⟨ad, xs[k], e, List.getElem?_eq_getElem hl, hc k _ (List.getElem?_eq_getElem hl)⟩
theorem Cells.of_own {w : World} {base size n c g : Nat} {e : TypeId} {xs : List Value} (h : w.ownsRow base e size (.slice (some ⟨g, 0, none⟩) n c) n xs) : Cells w size (some ⟨g, 0, none⟩) n xs :=
  ⟨h.1, fun _ => ⟨_, rfl, fun j u hu => h.cells (g := g) rfl j u hu⟩⟩

/-- a row that is filled from the left -/
def fill (a ys : List Value) (k : Nat) : List Value := a.take k ++ ys.drop k
/-- the slice 'A, n' reads as the strings l -/
def Strs (w : World) (A : Option Addr) (n : Nat) (l : List ByteArray) : Prop := Cells w 1 A n (l.map Value.string)
theorem Strs.len {w : World} {A : Option Addr} {n : Nat} {l : List ByteArray} (h : Strs w A n l) : l.length = n := by have := h.1; simpa using this
theorem Strs.below {w w' : World} {A : Option Addr} {n : Nat} {l : List ByteArray} (h : Strs w A n l) (hb : Below w.heap.size w w') : Strs w' A n l := Cells.below h hb
theorem Strs.at_ {w : World} {A : Option Addr} {n k : Nat} {l : List ByteArray} (h : Strs w A n l) (hk : k < n) : ∃ ad x, A = some ad ∧ l[k]? = some x ∧ w.cell? (ad.add k) = some (.string x) := by
  obtain ⟨ad, u, e, hx, hc⟩ := Cells.at_ h hk
  rw [List.getElem?_map] at hx
  cases hl : l[k]? with
  | none => rw [hl] at hx; simp at hx
  | some x => rw [hl] at hx; obtain rfl : Value.string x = u := by simpa using hx
              exact ⟨ad, x, e, rfl, hc⟩

end Go.Proofs.Ythdmmoameoafmaa.Rowed

/- Words on what may turn between two worlds: only the blocks of one span; and on rows that lie in a span of blocks, read or owned. No condition. -/
namespace Go.Proofs.Ythdmmoameoafmaa.Turn
set_option linter.unusedVariables false
open Go.RowKit
open Go.Proofs.Ythdmmoameoafmaa.Rowed

/-- of what was there, only blocks from lo on and below hi may have turned -/
structure Turned (lo hi : Nat) (w w' : World) : Prop where
  os : w'.os = w.os
  tape : w'.tape = w.tape
  output : w'.output = w.output
  size : w.heap.size ≤ w'.heap.size
  block : ∀ k, k < w.heap.size → ¬ (lo ≤ k ∧ k < hi) → w'.heap[k]? = w.heap[k]?
/-- the slice 'A, n' reads as the cells xs, and they lie in blocks from lo on and below hi -/
structure Rd (w : World) (size lo hi : Nat) (A : Option Addr) (n : Nat) (xs : List Value) : Prop where
  cells : Cells w size A n xs
  span : ∀ ad, A = some ad → 0 < xs.length → lo ≤ ad.block ∧ ad.block < hi
  top : hi ≤ w.heap.size
theorem Rd.below {w w' : World} {size lo hi n : Nat} {A : Option Addr} {xs : List Value} (h : Rd w size lo hi A n xs) (hb : Below w.heap.size w w') : Rd w' size lo hi A n xs :=
  ⟨h.cells.below hb, h.span, Nat.le_trans h.top hb.size⟩
theorem Rd.turned {w w' : World} {size lo hi a b n : Nat} {A : Option Addr} {xs : List Value} (h : Rd w size lo hi A n xs) (t : Turned a b w w') (hd : hi ≤ a ∨ b ≤ lo) : Rd w' size lo hi A n xs :=
  ⟨⟨h.cells.1, fun hn => by
    obtain ⟨ad, e, hc⟩ := h.cells.2 hn
    have hs := h.span ad e hn
    have ht := h.top
    exact ⟨ad, e, fun j u hu => (World.cell?_of_block (by rw [add_block]; exact t.block _ (by omega) (by omega))).trans (hc j u hu)⟩⟩, h.span, Nat.le_trans h.top t.size⟩
/-- cells that came in -/
theorem Rd.came {w : World} {size n : Nat} {A : Option Addr} {xs : List Value} (h : Cells w size A n xs) : Rd w size 0 w.heap.size A n xs :=
  ⟨h, fun ad e hn => by
    obtain ⟨ad', e', hc⟩ := h.2 hn
    obtain rfl : ad = ad' := by rw [e] at e'; exact Option.some.inj e'
    have h0 := cell_lt (hc 0 _ (List.getElem?_eq_getElem hn))
    rw [add_block] at h0
    exact ⟨Nat.zero_le _, h0⟩, Nat.le_refl _⟩

/-- the slice 'A, n, c' is a row of the call's own with the cells xs, in a block from lo on and below hi -/
structure Ow (w : World) (T : TypeId) (size lo hi : Nat) (A : Option Addr) (n c : Nat) (xs : List Value) : Prop where
  own : w.ownsRow lo T size (.slice A n c) n xs
  span : ∀ q, (Value.slice A n c).ownBlock = some q → q < hi
  top : hi ≤ w.heap.size
theorem Ow.of {w : World} {T : TypeId} {size lo n c : Nat} {A : Option Addr} {xs : List Value} (h : w.ownsRow lo T size (.slice A n c) n xs) : Ow w T size lo w.heap.size A n c xs :=
  ⟨h, fun q hq => (h.lt q hq).2, Nat.le_refl _⟩
theorem Ow.kept {w w' : World} {T : TypeId} {size lo hi a b n c : Nat} {A : Option Addr} {xs : List Value} (h : Ow w T size lo hi A n c xs) (t : Turned a b w w') (hd : hi ≤ a ∨ b ≤ lo) : w'.ownsRow lo T size (.slice A n c) n xs := by
  refine ⟨h.own.1, ?_⟩
  rcases h.own.2 with h0 | ⟨g, cap, cur, hv, hb, hh, rest⟩
  · exact .inl h0
  · have hg : g < hi := h.span g (by rw [hv]; rfl)
    have ht := h.top
    exact .inr ⟨g, cap, cur, hv, hb, (t.block g (by omega) (by omega)).trans hh, rest⟩
theorem Ow.turned {w w' : World} {T : TypeId} {size lo hi a b n c : Nat} {A : Option Addr} {xs : List Value} (h : Ow w T size lo hi A n c xs) (t : Turned a b w w') (hd : hi ≤ a ∨ b ≤ lo) : Ow w' T size lo hi A n c xs :=
  ⟨h.kept t hd, h.span, Nat.le_trans h.top t.size⟩
theorem Turned.of_below {w w' : World} (h : Below w.heap.size w w') : Turned 0 0 w w' := ⟨h.os, h.tape, h.output, h.size, fun k hk _ => h.block k hk⟩
theorem Ow.below {w w' : World} {T : TypeId} {size lo hi n c : Nat} {A : Option Addr} {xs : List Value} (h : Ow w T size lo hi A n c xs) (hb : Below w.heap.size w w') : Ow w' T size lo hi A n c xs :=
  h.turned (Turned.of_below hb) (.inr (Nat.zero_le _))
theorem own_cells {w : World} {base n c size : Nat} {A : Option Addr} {e : TypeId} {xs : List Value} (h : w.ownsRow base e size (.slice A n c) n xs) : Cells w size A n xs := by
  rcases h.2 with ⟨hv, h0⟩ | ⟨g, cap, cur, hv, _⟩
  · subst h0
    have := h.1
    exact ⟨this, fun hn => by rw [Nat.zero_mul] at this; omega⟩
  · injection hv with e1 e2 e3
    subst e1
    exact Cells.of_own h
theorem Ow.cells {w : World} {T : TypeId} {size lo hi n c : Nat} {A : Option Addr} {xs : List Value} (h : Ow w T size lo hi A n c xs) : Cells w size A n xs := own_cells h.own
theorem Ow.written {w w' : World} {T : TypeId} {size lo hi n c : Nat} {A : Option Addr} {xs ys : List Value} (h : Ow w T size lo hi A n c xs) (hs : w.heap.size ≤ w'.heap.size) (ho : w'.ownsRow lo T size (.slice A n c) n ys) : Ow w' T size lo hi A n c ys :=
  ⟨ho, h.span, Nat.le_trans h.top hs⟩

/-- the answer has no memory, and nothing has turned -/
def Gives (v : Value) (w : World) (e : Ending) (w' : World) : Prop := e = .returned v ∧ Below w.heap.size w w'
end Go.Proofs.Ythdmmoameoafmaa.Turn

/- Small words on types' facts, on classes of worlds, and on rows that are written. No condition. -/
namespace Go.Proofs.Ythdmmoameoafmaa.Aid
set_option linter.unusedVariables false
open Go.RowKit
open Go.Proofs.Ythdmmoameoafmaa.Rowed Go.Proofs.Ythdmmoameoafmaa.Turn

theorem info_parts {P : Program} {T : TypeId} {z : Value} {s b : Nat} (h : (P.info? T).map (fun i => (i.zero, i.size, i.bytes)) = some (some z, s, b)) : ∃ i, P.info? T = some i ∧ i.zero = some z ∧ i.size = s ∧ i.bytes = b := by
  cases hi : P.info? T with
  | none => rw [hi] at h; simp at h
  | some i => rw [hi] at h; simp at h; exact ⟨i, rfl, h.1, h.2.1, h.2.2⟩
theorem below_class {X Y : World} (h : ∃ p : Regrown, Y = Go.Sort.grow (redrawn X p.d) p.os) : Below X.heap.size X Y := by
  obtain ⟨⟨d, os⟩, rfl⟩ := h; exact below_regrown _ _ _
theorem grown_of {W W' : World} (h : Below W.heap.size W W') : W.grownBy W' none := ⟨h.os, h.tape, h.output, h.size, fun k hk _ => h.block k hk⟩
theorem grown_weak {W W' : World} (h : W.grownBy W' none) (g : Nat) : W.grownBy W' (some g) := ⟨h.os, h.tape, h.output, h.size, fun k hk _ => h.block k hk (by simp)⟩
theorem grown_tr {a b c : World} {r : Option Nat} (h : a.grownBy b r) (k : b.grownBy c r) : a.grownBy c r :=
  ⟨k.os.trans h.os, k.tape.trans h.tape, k.output.trans h.output, Nat.le_trans h.size k.size, fun i hi hr => (k.block i (Nat.lt_of_lt_of_le hi h.size) hr).trans (h.block i hi hr)⟩
theorem grown_refl (w : World) (r : Option Nat) : w.grownBy w r := ⟨rfl, rfl, rfl, Nat.le_refl _, fun _ _ _ => rfl⟩
end Go.Proofs.Ythdmmoameoafmaa.Aid

/- Words on memory for the contracts of plain functions. No condition. -/
namespace Go.Proofs.Ythdmmoameoafmaa.GoM
set_option linter.unusedVariables false
open Go.RowKit
open Go.Proofs.Ythdmmoameoafmaa.Rowed Go.Proofs.Ythdmmoameoafmaa.Turn

theorem box_new (w : World) (cs : List Value) (T : TypeId) (j : Nat) (u : Value) (h : cs[j]? = some u) : (w.alloc (.cells ⟨cs⟩ T)).cell? ⟨w.heap.size, j, none⟩ = some u := by
  have hb : (w.alloc (.cells ⟨cs⟩ T)).heap[w.heap.size]? = some (.cells ⟨cs⟩ T) := heap_alloc_new w _
  unfold World.cell?
  rw [hb]
  simpa using h
theorem size_list (s : ByteArray) : s.toList.length = s.size := by rw [Lib.toList_data]; rfl
theorem byte_rule {s : ByteArray} {n : Nat} {y : UInt8} (l : n < s.toList.length) (g : s.toList[n]? = some y) : ∀ h : n < s.size, s[n]'h = y := by
  intro h
  have e := List.getElem?_eq_getElem l
  rw [g] at e
  have := Option.some.inj e
  rw [this]
  simp [Lib.toList_data]
  rfl
theorem own_empty {w wc : World} {T K : Nat} (h : w.heap.size ≤ wc.heap.size) : (wc.alloc (.cells #[] T)).ownsRow w.heap.size T K (.slice (some ⟨wc.heap.size, 0, none⟩) 0 0) 0 [] :=
  ⟨by simp, .inr ⟨wc.heap.size, 0, #[], rfl, h, heap_alloc_new wc _, Nat.le_refl _, by unfold maxLen; omega, by simp, by simp⟩⟩
theorem own_laid {w wc : World} {T K n : Nat} {cs : List Value} {xs : List Value} (h : w.heap.size ≤ wc.heap.size) (hx : cs = xs) (hl : cs.length = n * K) (hn : n ≤ maxLen) : (wc.alloc (.cells ⟨cs⟩ T)).ownsRow w.heap.size T K (.slice (some ⟨wc.heap.size, 0, none⟩) n n) n xs := by
  subst hx
  exact ⟨hl, .inr ⟨wc.heap.size, n, ⟨cs⟩, rfl, h, heap_alloc_new wc _, Nat.le_refl _, hn, by simpa using hl, by rw [← hl]; simp⟩⟩
theorem add_flat (b o n : Nat) : (⟨b, o, none⟩ : Addr).add n = ⟨b, o + n, none⟩ := by
  unfold Addr.add; split
  · rename_i h; subst h; rfl
  · rfl
theorem strs_at {w : World} {A : Option Addr} {n k : Nat} {l : List ByteArray} (h : Cells w 1 A n (l.map Value.string)) (hk : k < n) : ∃ (b o : Nat) (x : ByteArray), A = some ⟨b, o, none⟩ ∧ l[k]? = some x ∧ w.cell? ⟨b, o + k, none⟩ = some (.string x) := by
  have hl : k < l.length := by have := h.1; rw [List.length_map] at this; omega
  obtain ⟨⟨b, o, sp⟩, e, hc⟩ := h.2 (by rw [List.length_map]; omega)
  have h0 := hc 0 (.string l[0]) (by rw [List.getElem?_map, List.getElem?_eq_getElem (show 0 < l.length by omega)]; rfl)
  obtain rfl : sp = none := cell_spot (b := b) (o := o) h0
  have hs := List.getElem?_eq_getElem hl
  have := hc k (.string l[k]) (by rw [List.getElem?_map, hs]; rfl)
  rw [add_flat] at this
  exact ⟨b, o, l[k], e, hs, this⟩
theorem own_nil {w : World} {b T K : Nat} : w.ownsRow b T K (.slice none 0 0) 0 [] := ⟨by simp, .inl ⟨rfl, rfl⟩⟩
theorem own_lower {w : World} {b base n size : Nat} {v : Value} {e : TypeId} {xs : List Value} (h : w.ownsRow base e size v n xs) (hb : b ≤ base) : w.ownsRow b e size v n xs :=
  ⟨h.1, by
    rcases h.2 with h0 | ⟨g, cap, cur, hv, hb', rest⟩
    · exact .inl h0
    · exact .inr ⟨g, cap, cur, hv, Nat.le_trans hb hb', rest⟩⟩
theorem own_below {w w' : World} {base n size : Nat} {v : Value} {e : TypeId} {xs : List Value} (h : w.ownsRow base e size v n xs) (hb : Below w.heap.size w w') : w'.ownsRow base e size v n xs :=
  h.kept (Aid.grown_of hb) (by cases v.ownBlock <;> simp)
theorem own_push {α : Type} {f : List α → List Value} {cx : List Value} {l t : List α} {x : α} {w' : World} {b T K : Nat} {v' : Value} {n : Nat} (ht : l ++ [x] = t) (hf : f (l ++ [x]) = f l ++ cx) (hn : l.length = n) (h : w'.ownsRow b T K v' (n + 1) (f l ++ cx)) :
    ∃ g cap, v' = .slice (some ⟨g, 0, none⟩) t.length cap ∧ w'.ownsRow b T K (.slice (some ⟨g, 0, none⟩) t.length cap) t.length (f t) := by
  subst ht
  subst hn
  have el : (l ++ [x]).length = l.length + 1 := by simp
  obtain ⟨g, cap, rfl⟩ : ∃ g cap, v' = .slice (some ⟨g, 0, none⟩) (l.length + 1) cap := by
    rcases h.2 with ⟨_, h⟩ | ⟨g3, cap3, _, h, _⟩
    · omega
    · exact ⟨g3, cap3, h⟩
  exact ⟨g, cap, by rw [el], by rw [el, hf]; exact h⟩
theorem news_new {w w2 : World} {cs : List Value} {T : TypeId} (h : w.alloc (.cells ⟨cs⟩ T) = w2) : ∀ j u, cs[j]? = some u → w2.cell? ((⟨w.heap.size, 0, none⟩ : Addr).add j) = some u := by
  intro j u hu
  subst h
  have : (⟨w.heap.size, 0, none⟩ : Addr).add j = ⟨w.heap.size, j, none⟩ := by
    unfold Addr.add; split
    · rename_i hj; subst hj; rfl
    · simp
  rw [this]
  exact box_new w cs T j u hu
theorem one_cells {l : List Value} (h : l.all (fun u => u.oneCell') = true) : ∀ u ∈ l, u.oneCell' = true := fun u hu => List.all_eq_true.1 h u hu
theorem cat_rule {P : Program} {a b c : ByteArray} (h : a ++ b = c) (hl : a.size + b.size ≤ maxLen) : ∀ W, (Op.stringOp .add a b).run P W = .ok (.string c) W := by
  intro W
  rw [run_string_add_sum]
  · subst h; rfl
  · unfold maxLen at hl; omega
theorem slice_both {P : Program} {t : TypeId} {s c : ByteArray} {k k' : IntKind} {i j : Int} (hu : P.underlying t = some .string) (h : s.extract i.toNat j.toNat = c) (hl : 0 ≤ i ∧ i ≤ j ∧ j ≤ (s.size : Int)) :
    ∀ W, (Instr.slice t (.string s) (some (.int k i)) (some (.int k' j)) none).run P W = .ok (.string c) W := by
  intro W
  rw [run_slice_string_if _ _ _ _ _ _ _ hu, if_pos ⟨by omega, hl.2.2⟩, if_pos ⟨hl.1, hl.2.1⟩, h]
/-- the walk stands here -/
def Stop (p : Prop) : Prop := p
theorem stop_in {p : Prop} (h : Stop p) : p := h
theorem stop_out {p : Prop} (h : p) : Stop p := h
/-- two rows lie in different blocks -/
def Apart (A B : Option Addr) : Prop := ∀ a b, A = some a → B = some b → a.block ≠ b.block
theorem Apart.symm {A B : Option Addr} (h : Apart A B) : Apart B A := fun a b ha hb e => h b a hb ha e.symm
theorem own_lt {w : World} {b T K n m c : Nat} {A : Option Addr} {xs : List Value} (h : w.ownsRow b T K (.slice A m c) n xs) (a : Addr) (ha : A = some a) : b ≤ a.block ∧ a.block < w.heap.size := by
  subst ha
  exact h.lt a.block rfl
theorem apart_fresh {w : World} {b T K n m c : Nat} {A : Option Addr} {xs : List Value} (h : w.ownsRow b T K (.slice A m c) n xs) : Apart (some ⟨w.heap.size, 0, none⟩) A := by
  intro a a' ha ha' e
  have := (own_lt h a' ha').2
  injection ha with ha
  subst ha
  simp at e
  omega
theorem apart_call {w w1 : World} {b T K n m c T' K' n' m' c' : Nat} {A B : Option Addr} {xs ys : List Value} (h1 : w1.ownsRow w.heap.size T K (.slice A m c) n xs) (h : w.ownsRow b T' K' (.slice B m' c') n' ys) : Apart A B := by
  intro a a' ha ha' e
  have := (own_lt h a' ha').2
  have := (own_lt h1 a ha).1
  omega
theorem apart_box {w : World} {g j : Nat} {v : Value} (h : w.cell? ⟨g, j, none⟩ = some v) : Apart (some ⟨w.heap.size, 0, none⟩) (some ⟨g, 0, none⟩) := by
  intro a a' ha ha' e
  have hl : g < w.heap.size := cell_lt h
  injection ha with ha
  injection ha' with ha'
  subst ha
  subst ha'
  simp at e
  omega
theorem apart_callbox {w w1 : World} {T K n m c g j : Nat} {A : Option Addr} {xs : List Value} {v : Value} (h1 : w1.ownsRow w.heap.size T K (.slice A m c) n xs) (h : w.cell? ⟨g, j, none⟩ = some v) : Apart A (some ⟨g, 0, none⟩) := by
  intro a a' ha ha' e
  have hl : g < w.heap.size := cell_lt h
  have := (own_lt h1 a ha).1
  injection ha' with ha'
  subst ha'
  simp at e
  omega
theorem apart_app {w : World} {n c n' c' : Nat} {A A' B : Option Addr} (hD : Apart A B) (hB : ∀ a, B = some a → a.block < w.heap.size) (h : (Value.slice A' n' c').ownBlock = (Value.slice A n c).ownBlock ∨ (Value.slice A' n' c').ownBlock = some w.heap.size) : Apart A' B := by
  intro a a' ha ha' e
  have hl := hB a' ha'
  subst ha
  rcases h with h | h
  · cases A with
    | none => simp [Value.ownBlock] at h
    | some x => simp only [Value.ownBlock, Option.some.injEq] at h; exact hD x a' rfl ha' (h ▸ e)
  · simp only [Value.ownBlock, Option.some.injEq] at h; omega
theorem own_other {w w' : World} {b T K n m c n' c' : Nat} {A B : Option Addr} {ys : List Value} (h : w.ownsRow b T K (.slice B m c) n ys) (hg : w.grownBy w' (Value.slice A n' c').ownBlock) (hD : Apart A B) : w'.ownsRow b T K (.slice B m c) n ys := by
  refine h.kept hg ?_
  cases B with
  | none => exact .inl rfl
  | some y =>
    refine .inr ?_
    cases A with
    | none => simp [Value.ownBlock]
    | some x => simp only [Value.ownBlock, ne_eq, Option.some.injEq]; exact fun e => hD x y rfl rfl e.symm
theorem cell_other {w w' : World} {n' c' : Nat} {A : Option Addr} {a : Addr} {v : Value} (h : w.cell? a = some v) (hg : w.grownBy w' (Value.slice A n' c').ownBlock) (hD : Apart A (some ⟨a.block, 0, none⟩)) : w'.cell? a = some v := by
  rw [World.cell?_of_block (hg.block a.block (cell_lt h) ?_)]
  · exact h
  · cases A with
    | none => simp [Value.ownBlock]
    | some x => simp only [Value.ownBlock, ne_eq, Option.some.injEq]; exact fun e => hD x _ rfl rfl e.symm
theorem apart_old {wr : World} {b T K n m c g : Nat} {A : Option Addr} {xs : List Value} (h : wr.ownsRow b T K (.slice A m c) n xs) (hg : g < b) : Apart A (some ⟨g, 0, none⟩) := by
  intro a a' ha ha' e
  have := (own_lt h a ha).1
  injection ha' with ha'
  subst ha'
  simp at e
  omega
theorem own_len {w : World} {b T K n m c : Nat} {A : Option Addr} {xs : List Value} (h : m = n) (hO : w.ownsRow b T K (.slice A n c) n xs) : w.ownsRow b T K (.slice A m c) m xs := by subst h; exact hO
theorem own_max {w : World} {b T K n c : Nat} {A : Option Addr} {xs : List Value} (h : w.ownsRow b T K (.slice A n c) n xs) : n ≤ 9223372036854775807 := by
  rcases h.2 with ⟨_, h0⟩ | ⟨g, cap, cur, hv, _, _, h1, h2, _⟩
  · omega
  · unfold maxLen at h2; omega
theorem grown_below {w wr w2 : World} {q : Option Nat} (h : w.grownBy wr q) (hb : Below wr.heap.size wr w2) : w.grownBy w2 q :=
  Aid.grown_tr h ⟨hb.os, hb.tape, hb.output, hb.size, fun k hk _ => hb.block k hk⟩
theorem own_some {w : World} {b T K n c : Nat} {A : Option Addr} {xs : List Value} (h : w.ownsRow b T K (.slice A n c) n xs) (hn : 0 < n) : ∃ g, A = some ⟨g, 0, none⟩ := by
  rcases h.2 with ⟨_, h0⟩ | ⟨g, cap, cur, hv, _⟩
  · omega
  · injection hv with e1; exact ⟨g, e1⟩
theorem own_stores {b T K n c g : Nat} (ps : List (Nat × Value)) : ∀ {w : World} {xs : List Value}, w.ownsRow b T K (.slice (some ⟨g, 0, none⟩) n c) n xs →
    (ps.foldl (fun w p => w.setCell ⟨g, p.1, none⟩ p.2) w).ownsRow b T K (.slice (some ⟨g, 0, none⟩) n c) n (ps.foldl (fun xs p => xs.set p.1 p.2) xs) ∧ w.grownBy (ps.foldl (fun w p => w.setCell ⟨g, p.1, none⟩ p.2) w) (some g) := by
  induction ps with
  | nil => intro w xs h; exact ⟨h, Aid.grown_refl _ _⟩
  | cons p ps ih =>
    intro w xs h
    have h1 := h.stored p.1 p.2
    have h2 := ih h1.1
    exact ⟨h2.1, Aid.grown_tr h1.2 h2.2⟩
theorem map_flat {α : Type} (g : α → Value) (l : List α) : l.map g = l.flatMap (fun x => [g x]) := by
  induction l with
  | nil => rfl
  | cons x l ih => simp [List.flatMap_cons, ih]
theorem made_flat {α : Type} (f : α → List Value) (x0 : α) (z : Value) (K n : Nat) (hz : z.cells.toList = f x0) (hK : z.cells.size = K) (hp : 0 < K) : (madeCells z.cells (n * K)).toList = (List.replicate n x0).flatMap f := by
  have hl : (f x0).length = K := by rw [← hz, ← hK]; simp
  have hr : ∀ n, (List.range (n * K)).map (fun i => z.cells[i % z.cells.size]!) = (List.replicate n x0).flatMap f := by
    intro n
    induction n with
    | zero => simp
    | succ n ih =>
      rw [List.replicate_succ', List.flatMap_append, ← ih, Nat.add_mul, Nat.one_mul, List.range_add, List.map_append]
      congr 1
      simp only [List.map_map, List.flatMap_cons, List.flatMap_nil, List.append_nil]
      apply List.ext_getElem
      · simp [hl]
      · intro i h1 h2
        have hi : i < K := by simpa using h1
        simp only [List.getElem_map, List.getElem_range, Function.comp]
        rw [hK, Nat.add_comm, Nat.add_mul_mod_self_right, Nat.mod_eq_of_lt hi]
        have h3 : i < z.cells.size := by omega
        rw [getElem!_pos z.cells i h3]
        have : z.cells.toList[i]'(by simpa using h3) = z.cells[i] := by simp
        rw [← this]
        congr 1
  unfold madeCells
  rw [← hr n]
  simp
/-- a row is no longer than its room; nil has none -/
def Room (A : Option Addr) (n c : Nat) : Prop := n ≤ c ∧ (A = none → c = 0)
theorem own_room {w : World} {b T K n c : Nat} {A : Option Addr} {xs : List Value} (h : w.ownsRow b T K (.slice A n c) n xs) : Room A n c := by
  rcases h.2 with ⟨h1, h2⟩ | ⟨g, cap, cur, h1, _, _, hr, _⟩
  · simp only [Value.slice.injEq] at h1
    exact ⟨by omega, fun _ => by omega⟩
  · simp only [Value.slice.injEq] at h1
    exact ⟨by omega, fun e => by rw [h1.1] at e; simp at e⟩
/-- append(a, b...) onto a row of its own -/
theorem append_spread {P : Program} {w : World} {ops : Array Oper} {rest : List Oper} {o : Oper} {a : Act} {Q : Exit → Act → World → Prop} (hgd : o.guard = none) (s x : Operand) (t : TypeId)
    (ho : o.op = .call { callee := .builtin .append, args := #[s, x], argTypes := #[t, t] })
    (base : Nat) (e : TypeId) (i : TypeInfo) (z : Value) (size bytes : Nat) (ht : P.underlying t = some (.slice e)) (hi : P.info? e = some i) (hz : i.zero = some z)
    (hsize : i.size = size) (hby : i.bytes = bytes) (hzs : z.cells.size = size) (hsz : 0 < size)
    (A1 : Option Addr) (c1 n : Nat) (xs : List Value) (hs : a.eval s = .slice A1 n c1) (hown : w.ownsRow base e size (.slice A1 n c1) n xs)
    (A : Option Addr) (m c : Nat) (news : List Value) (hx : a.eval x = .slice A m c) (hN : Room A m c) (hc : Cells w size A m news) (h1 : ∀ u ∈ news, u.oneCell' = true)
    (h63 : n + m ≤ maxLen) (hbytes : (n + m) * bytes ≤ 140737488355328) (hbase : base ≤ w.heap.size)
    (h : ∀ v' w', w'.ownsRow base e size v' (n + m) (xs ++ news) → w.grownBy w' (Value.slice A1 n c1).ownBlock → (v'.ownBlock = (Value.slice A1 n c1).ownBlock ∨ v'.ownBlock = some w.heap.size) → wpList P ops Q rest (a.put o.dst v') w') :
    wpList P ops Q (o :: rest) a w := by
  cases A with
  | some ad =>
    refine wpList_append_own_at w hgd s x t ho base e i z size bytes ht hi hz hsize hby hzs hsz _ n xs hs hown ad m c news hx hc.1 (fun j u hu => ?_) h1 h63 hbytes hbase (fun v' w' o1 g1 _ y1 => h v' w' o1 g1 y1)
    obtain ⟨ad', e', hcell⟩ := hc.2 (by have := (List.getElem?_eq_some_iff.1 hu).1; omega)
    obtain rfl : ad = ad' := Option.some.inj e'
    exact hcell j u hu
  | none =>
    have hm : m = 0 := by
      cases news with
      | nil =>
        have h0 : ([] : List Value).length = m * size := hc.1
        rw [List.length_nil] at h0
        rcases Nat.mul_eq_zero.1 h0.symm with h1 | h1 <;> omega
      | cons y l => obtain ⟨ad, e', _⟩ := hc.2 (by simp); simp at e'
    obtain rfl : c = 0 := hN.2 rfl
    subst hm
    have hn : news = [] := List.eq_nil_of_length_eq_zero (by have := hc.1; simpa using this)
    subst hn
    refine Go.wpList_append_own_none hgd s x t ho base e i size ht hi _ n xs hs hown hx ?_
    exact h _ w (by simpa using hown) (World.grownBy.refl w _) (.inl rfl)
theorem own_pushS {α : Type} {f : List α → List Value} {l b t : List α} {w' : World} {bs T K : Nat} {v' : Value} {n : Nat} (ht : l ++ b = t) (hf : f (l ++ b) = f l ++ f b) (hn : l.length = n) (h : w'.ownsRow bs T K v' (n + b.length) (f l ++ f b)) :
    ∃ A cap, v' = .slice A t.length cap ∧ w'.ownsRow bs T K (.slice A t.length cap) t.length (f t) := by
  subst ht
  subst hn
  rw [← List.length_append, ← hf] at h
  rcases h.2 with ⟨h1, h2⟩ | ⟨g3, cap3, _, h2, _⟩
  · have hv : v' = .slice none (l ++ b).length 0 := by rw [h1, h2]
    exact ⟨none, 0, hv, hv ▸ h⟩
  · exact ⟨_, _, h2, h2 ▸ h⟩
/-- w' is w but for two rows and for new blocks -/
structure Grown2 (w w' : World) (A1 A2 : Option Addr) : Prop where
  os : w'.os = w.os
  tape : w'.tape = w.tape
  output : w'.output = w.output
  size : w.heap.size ≤ w'.heap.size
  block : ∀ k, k < w.heap.size → (∀ a, A1 = some a → a.block ≠ k) → (∀ a, A2 = some a → a.block ≠ k) → w'.heap[k]? = w.heap[k]?
end Go.Proofs.Ythdmmoameoafmaa.GoM

/- A record Block, whose fields are lists too. No condition. -/
namespace Go.Proofs.Ythdmmoameoafmaa.PBlock
structure Block where
  rows : (List ByteArray)
end Go.Proofs.Ythdmmoameoafmaa.PBlock

/- A record Block opened into its fields. No condition. -/
namespace Go.Proofs.Ythdmmoameoafmaa.GoP
set_option linter.unusedVariables false
open Go.RowKit
def unBlock {ρ : Type} (s : Go.Proofs.Ythdmmoameoafmaa.PBlock.Block) (f : (List ByteArray) → Option ρ) : Option ρ := f s.rows
theorem unBlock_hid {ρ : Type} {x0 : (List ByteArray)} {f : (List ByteArray) → Option ρ} {r : ρ} (H : Hid (unBlock ⟨x0⟩ f = some r)) : Hid (f x0 = some r) := H
end Go.Proofs.Ythdmmoameoafmaa.GoP

/- loop.example/g01062/laws.szStringS as a plain function, and the contract of the program's: where the plain one has an answer, the program has it. Conditions: slices read as lists. -/
namespace Go.Proofs.Ythdmmoameoafmaa.GlSzStringS
set_option linter.unusedVariables false
set_option linter.unusedSimpArgs false
open Go.RowKit
open Go.Proofs.Ythdmmoameoafmaa.Rowed Go.Proofs.Ythdmmoameoafmaa.Turn Go.Proofs.Ythdmmoameoafmaa.Aid Go.Proofs.Ythdmmoameoafmaa.GoP Go.Proofs.Ythdmmoameoafmaa.GoM

def l0 (a : (List ByteArray)) (k0 : Nat) (s : Int) (nx0 bk0 : Int → Option (Int)) : Option (Int) :=
  letK s fun left_1l0 =>
  Option.bind (idx a (k0 : Int)) fun (yt_17 : ByteArray) =>
  letK (IntKind.i64.wrap (left_1l0 - (yt_17.size : Int))) fun (t_20 : Int) =>
  letK (decide (t_20 < 0)) fun (t_23 : Bool) =>
  iteK t_23
  (some (-1))
  (appK nx0 (t_20))

def e0  (s : Int) : Option (Int) :=
  letK s fun left_1l0 =>
  some left_1l0

def P (a : (List ByteArray)) (left : Int) : Option (Int) :=
  letK (IntKind.i64.wrap (left - (a.length : Int))) fun (t_4 : Int) =>
  letK (decide (t_4 < 0)) fun (t_7 : Bool) =>
  iteK t_7
  (some (-1))
  (cntK (l0 a) (a.length) 0 (t_4) (e0 ))

set_option maxRecDepth 100000 in
set_option maxHeartbeats 2000000 in
theorem C (a : (List ByteArray)) (left : Int) (A0 : Option Addr) (c0 : Nat)  (w : World) (M0 : Hid (Cells w 1 A0 a.length (a.map Value.string))) (N0 : Hid (a.length ≤ 9223372036854775807))  {r : Int} (H : Hid (P a left = some r)) :
    Calls Try.prog 4 #[.slice A0 a.length c0, .int .i64 left] w (Gives (.int .i64 r) w) := by
  have HB := Lib.hid (Below.refl w.heap.size w)
  unfold P at H
  have N0o := N0.out
  go_enter Try.func4, Try.ntmps4
  replace H := let_hid H
  obtain ⟨t_4, ht_4, H⟩ := H
  replace H := let_hid H
  obtain ⟨t_7, ht_7, H⟩ := H
  cases t_7 with
  | false =>
    replace H := ite_f H
    go_wp2_with fail
    go_loopg [5, 1] (a.length) (fun m_ v5_ v1_ wr => ∃ (k0 : Nat) (left_1l0 : Int), k0 + m_ = a.length ∧ v5_ = .int .i64 (k0 : Int) ∧ v1_ = .int .i64 left_1l0 ∧ Hid (cntK (l0 a) m_ k0 (left_1l0) (e0 ) = some r) ∧ Hid (Below w.heap.size w wr))
    case atStart => exact ⟨0, _, by omega, rfl, rfl, H, HB⟩
    case round =>
      obtain ⟨k0, left_1l0, hkm0, rfl, rfl, H, HBwr0⟩ := hrel
      rename World => wr0
      cases gk with
      | zero =>
        obtain rfl : k0 = a.length := by omega
        have hc0 : decide (((a.length : Nat) : Int) < ((a.length : Nat) : Int)) = false := by simp
        replace H := cnt_zero H
        unfold e0 at H
        replace H := let_hid H
        obtain ⟨_, rfl, H⟩ := H
        obtain rfl := ret_hid H
        go_wp2_with fail
        go_ret
        exact ⟨rfl, HBwr0.out⟩
      | succ m0 =>
        have hlt0 : k0 < a.length := by omega
        have hc0 : decide ((k0 : Int) < ((a.length : Nat) : Int)) = true := by simp; omega
        replace H := cnt_succ H
        unfold l0 at H
        replace H := let_hid H
        obtain ⟨_, rfl, H⟩ := H
        replace H := idx_hid H
        obtain ⟨nt_17, yt_17, et_17, lt_17, gt_17, H⟩ := H
        obtain rfl : k0 = nt_17 := by omega
        clear et_17
        obtain ⟨ab_t_17, ao_t_17, zt_17, At_17, z_t_17, ct_17_0⟩ := strs_at M0.out lt_17
        obtain rfl := Option.some.inj (gt_17.out.symm.trans z_t_17)
        subst At_17
        have ltt_17 := cell_lt ct_17_0
        replace ct_17_0 := cell_below HBwr0.out ct_17_0
        clear z_t_17
        have b0t_17 : (0 : Int) ≤ (k0 : Int) := by omega
        have b1t_17 : (k0 : Int) < ((a.length : Nat) : Int) := by omega
        have b2t_17 : ((k0 : Int)).toNat = k0 := by omega
        replace H := let_hid H
        obtain ⟨t_20, ht_20, H⟩ := H
        replace H := let_hid H
        obtain ⟨t_23, ht_23, H⟩ := H
        cases t_23 with
        | false =>
          replace H := ite_f H
          replace H := app_hid H
          go_wp2_with fail
          go_roundg m0
          case measure => omega
          case rel => exact ⟨k0 + 1, _, by omega, by go_num, rfl, H, HBwr0⟩
        | true =>
          replace H := ite_t H
          obtain rfl := ret_hid H
          go_wp2_with fail
          go_ret
          exact ⟨rfl, HBwr0.out⟩
  | true =>
    replace H := ite_t H
    obtain rfl := ret_hid H
    go_wp2_with fail
    go_ret
    exact ⟨rfl, HB.out⟩
end Go.Proofs.Ythdmmoameoafmaa.GlSzStringS

/- loop.example/g01062/laws.szBlock as a plain function, and the contract of the program's: where the plain one has an answer, the program has it. Conditions: slices read as lists. -/
namespace Go.Proofs.Ythdmmoameoafmaa.GlSzBlock
set_option linter.unusedVariables false
set_option linter.unusedSimpArgs false
open Go.RowKit
open Go.Proofs.Ythdmmoameoafmaa.Rowed Go.Proofs.Ythdmmoameoafmaa.Turn Go.Proofs.Ythdmmoameoafmaa.Aid Go.Proofs.Ythdmmoameoafmaa.GoP Go.Proofs.Ythdmmoameoafmaa.GoM

def P (a_rows : (List ByteArray)) (left : Int) : Option (Int) :=
  Option.bind (Go.Proofs.Ythdmmoameoafmaa.GlSzStringS.P a_rows left) fun (t_5 : Int) =>
  letK (decide (t_5 < 0)) fun (t_8 : Bool) =>
  iteK t_8
  (some (-1))
  (some t_5)

set_option maxRecDepth 100000 in
set_option maxHeartbeats 2000000 in
theorem C (a_rows : (List ByteArray)) (left : Int) (A0_0 : Option Addr) (c0_0 : Nat)  (w : World) (M0_0 : Hid (Cells w 1 A0_0 a_rows.length (a_rows.map Value.string))) (N0_0 : Hid (a_rows.length ≤ 9223372036854775807))  {r : Int} (H : Hid (P a_rows left = some r)) :
    Calls Try.prog 5 #[.agg #[.slice A0_0 a_rows.length c0_0], .int .i64 left] w (Gives (.int .i64 r) w) := by
  have HB := Lib.hid (Below.refl w.heap.size w)
  unfold P at H
  have N0_0o := N0_0.out
  go_enter Try.func5, Try.ntmps5
  obtain ⟨w_a_0, hw_a_0⟩ : ∃ x, w.alloc (.cells #[.slice A0_0 a_rows.length c0_0] 24) = x := ⟨_, rfl⟩
  have bw_a_0 : Below w.heap.size w w_a_0 := by rw [← hw_a_0]; exact (Below.refl _ _).alloc (Nat.le_refl _) _
  have HBw_a_0 := Lib.hid (Below.step HB.out bw_a_0)
  clear bw_a_0
  have ka_0_0 : w_a_0.cell? ⟨w.heap.size, 0, none⟩ = some (.slice A0_0 a_rows.length c0_0) := by rw [← hw_a_0]; exact box_new _ _ _ 0 _ rfl
  replace H := bind_hid H
  obtain ⟨t_5, qt_5, H⟩ := H
  go_wp2_with fail
  go_at_call 4
  refine (Go.Proofs.Ythdmmoameoafmaa.GlSzStringS.C (a_rows) (left) A0_0 c0_0 _   (Lib.hid (Cells.below M0_0.out HBw_a_0.out)) N0_0 qt_5).mono ?_
  rintro e_t_5 wt_5 ⟨rfl, bt_5⟩
  have HBwt_5 := Lib.hid (Below.step HBw_a_0.out bt_5)
  replace ka_0_0 := cell_below bt_5 ka_0_0
  clear bt_5
  replace H := let_hid H
  obtain ⟨t_8, ht_8, H⟩ := H
  cases t_8 with
  | false =>
    replace H := ite_f H
    obtain rfl := ret_hid H
    go_wp2_with fail
    go_ret
    exact ⟨rfl, HBwt_5.out⟩
  | true =>
    replace H := ite_t H
    obtain rfl := ret_hid H
    go_wp2_with fail
    go_ret
    exact ⟨rfl, HBwt_5.out⟩
end Go.Proofs.Ythdmmoameoafmaa.GlSzBlock

/- loop.example/g01062/laws.toStringS as a plain function, and the contract of the program's: where the plain one has an answer, the program has it. Conditions: slices read as lists. -/
namespace Go.Proofs.Ythdmmoameoafmaa.GlToStringS
set_option linter.unusedVariables false
set_option linter.unusedSimpArgs false
open Go.RowKit
open Go.Proofs.Ythdmmoameoafmaa.Rowed Go.Proofs.Ythdmmoameoafmaa.Turn Go.Proofs.Ythdmmoameoafmaa.Aid Go.Proofs.Ythdmmoameoafmaa.GoP Go.Proofs.Ythdmmoameoafmaa.GoM

def l0 (a : (List ByteArray)) (k0 : Nat) (s : (List ByteArray)) (nx0 bk0 : (List ByteArray) → Option ((List ByteArray))) : Option ((List ByteArray)) :=
  letK s fun out_3l0 =>
  Option.bind (idx a (k0 : Int)) fun (yt_14 : ByteArray) =>
  Option.bind (idx out_3l0 (k0 : Int)) fun (yt_16 : ByteArray) =>
  letK (out_3l0.set k0 yt_14) fun (l17_17 : (List ByteArray)) =>
  appK nx0 (l17_17)

def e0  (s : (List ByteArray)) : Option ((List ByteArray)) :=
  letK s fun out_3l0 =>
  some out_3l0

def P (a : (List ByteArray)) : Option ((List ByteArray)) :=
  guardK (0 ≤ (a.length : Int) ∧ (a.length : Int) ≤ 1099511627776) <|
  letK (List.replicate a.length ByteArray.empty) fun (t_3 : (List ByteArray)) =>
  cntK (l0 a) (a.length) 0 (t_3) (e0 )

set_option maxRecDepth 100000 in
set_option maxHeartbeats 2000000 in
theorem C (a : (List ByteArray)) (A0 : Option Addr) (c0 : Nat)  (w : World) (M0 : Hid (Cells w 1 A0 a.length (a.map Value.string))) (N0 : Hid (a.length ≤ 9223372036854775807))  {r : (List ByteArray)} (H : Hid (P a = some r)) :
    Calls Try.prog 7 #[.slice A0 a.length c0] w (fun e w' => ∃ A_r c_r, e = .returned (.slice A_r r.length c_r) ∧ w'.ownsRow w.heap.size 9 1 (.slice A_r r.length c_r) r.length (r.map Value.string) ∧ Below w.heap.size w w') := by
  have HB := Lib.hid (Below.refl w.heap.size w)
  unfold P at H
  have N0o := N0.out
  obtain ⟨i0_9, hi_9, hz0_9, hz1_9, hz2_9⟩ := Aid.info_parts (P := Try.prog) (T := 9) (z := .string ByteArray.empty) (s := 1) (b := 16) (by kernel_rfl)
  go_enter Try.func7, Try.ntmps7
  replace H := guard_hid H
  obtain ⟨hnt_3, H⟩ := H
  replace H := let_hid H
  obtain ⟨t_3, ht_3, H⟩ := H
  have hst_3 := HB.out.size
  have hlt_3 : t_3.length = a.length := by rw [← ht_3]; simp
  have hht_3 := Lib.hid ht_3
  clear ht_3
  go_wp2_with (at_make; refine wpList_make_full _ rfl _ _ 22 rfl w.heap.size 9 i0_9 (.string ByteArray.empty) 1 Try.underlying22 hi_9 hz0_9 hz1_9 .i64 .i64 _ _ a.length rfl rfl (by omega) (by omega) (by rw [hz2_9]; omega) (by unfold maxLen; omega) hst_3 ?_; intro wt_3 ot_3 gt_3; have Qt_3 := Lib.hid ot_3; have Gt_3 := Lib.hid gt_3; clear ot_3 gt_3; refine stop_in ?_)
  refine stop_out ?_
  have hv_ : (Value.slice (some ⟨w.heap.size, 0, none⟩) a.length a.length : Value) = Value.slice (some ⟨w.heap.size, 0, none⟩) t_3.length a.length := by rw [hlt_3]
  rw [hv_]
  clear hv_
  have Et_3 : (t_3.map Value.string) = (madeCells (.string ByteArray.empty : Value).cells (a.length * 1)).toList := by
    rw [made_flat (fun x => [.string x]) ByteArray.empty _ 1 _ rfl rfl (by decide), ← hht_3.out]
    exact map_flat _ _
  have Pt_3 : Hid (wt_3.ownsRow w.heap.size 9 1 (.slice (some ⟨w.heap.size, 0, none⟩) a.length a.length) a.length (t_3.map Value.string)) := Lib.hid (by rw [Et_3]; exact Qt_3.out)
  clear Et_3
  replace hlt_3 := Lib.hid hlt_3
  clear Qt_3 hst_3
  have bt_3 : Below w.heap.size w wt_3 := (Below.refl _ _).grown Gt_3.out (Nat.le_refl _) (by simp)
  clear Gt_3
  have HBwt_3 := Lib.hid (Below.step HB.out bt_3)
  clear bt_3
  replace Pt_3 := Lib.hid (own_len hlt_3.out Pt_3.out)
  go_wp2_with fail
  go_wp2_with fail
  go_loopg [4] (a.length) (fun m_ v4_ wr => ∃ (k0 : Nat) (out_3l0 : (List ByteArray)), k0 + m_ = a.length ∧ v4_ = .int .i64 (k0 : Int) ∧ Hid (cntK (l0 a) m_ k0 (out_3l0) (e0 ) = some r) ∧ Hid (Below w.heap.size w wr) ∧ Hid (wr.ownsRow w.heap.size 9 1 (.slice (some ⟨w.heap.size, 0, none⟩) t_3.length a.length) t_3.length (out_3l0.map Value.string)) ∧ Hid (out_3l0.length = t_3.length))
  case atStart => exact ⟨0, _, by omega, rfl, H, HBwt_3, Pt_3, Lib.hid (rfl)⟩
  case round =>
    obtain ⟨k0, out_3l0, hkm0, rfl, H, HBwr0, Oout_3l0, hnout_3l0⟩ := hrel
    rename World => wr0
    cases gk with
    | zero =>
      obtain rfl : k0 = a.length := by omega
      have hc0 : decide (((a.length : Nat) : Int) < ((a.length : Nat) : Int)) = false := by simp
      replace H := cnt_zero H
      unfold e0 at H
      replace H := let_hid H
      obtain ⟨_, rfl, H⟩ := H
      obtain rfl := ret_hid H
      go_wp2_with fail
      go_ret
      have hr_0 := hnout_3l0.out
      replace Oout_3l0 := Lib.hid (own_len hr_0 Oout_3l0.out)
      exact ⟨(some ⟨w.heap.size, 0, none⟩), a.length, (by first | (rw [hr_0]; done) | (rw [hr_0]; rfl)), Oout_3l0.out, HBwr0.out⟩
    | succ m0 =>
      have hlt0 : k0 < a.length := by omega
      have hc0 : decide ((k0 : Int) < ((a.length : Nat) : Int)) = true := by simp; omega
      replace H := cnt_succ H
      unfold l0 at H
      replace H := let_hid H
      obtain ⟨_, rfl, H⟩ := H
      replace H := idx_hid H
      obtain ⟨nt_14, yt_14, et_14, lt_14, gt_14, H⟩ := H
      obtain rfl : k0 = nt_14 := by omega
      clear et_14
      obtain ⟨ab_t_14, ao_t_14, zt_14, At_14, z_t_14, ct_14_0⟩ := strs_at M0.out lt_14
      obtain rfl := Option.some.inj (gt_14.out.symm.trans z_t_14)
      subst At_14
      have ltt_14 := cell_lt ct_14_0
      replace ct_14_0 := cell_below HBwr0.out ct_14_0
      clear z_t_14
      have b0t_14 : (0 : Int) ≤ (k0 : Int) := by omega
      have b1t_14 : (k0 : Int) < ((a.length : Nat) : Int) := by omega
      have b2t_14 : ((k0 : Int)).toNat = k0 := by omega
      replace H := idx_hid H
      obtain ⟨nt_16, yt_16, et_16, lt_16, gt_16, H⟩ := H
      obtain rfl : k0 = nt_16 := by omega
      clear et_16
      have hqt_16 := hnout_3l0.out
      obtain ⟨ab_t_16, ao_t_16, zt_16, At_16, z_t_16, ct_16_0⟩ := strs_at (own_cells Oout_3l0.out) (k := k0) (by omega)
      obtain rfl := Option.some.inj (gt_16.out.symm.trans z_t_16)
      simp only [Option.some.injEq, Addr.mk.injEq] at At_16
      obtain ⟨rfl, rfl, _⟩ := At_16
      clear z_t_16
      simp only [Nat.zero_add] at ct_16_0
      have b0t_16 : (0 : Int) ≤ (k0 : Int) := by omega
      have b1t_16 : (k0 : Int) < ((t_3.length : Nat) : Int) := by omega
      have b2t_16 : ((k0 : Int)).toNat = k0 := by omega
      clear hqt_16
      replace H := let_hid H
      obtain ⟨l17_17, hl17_17, H⟩ := H
      try simp only [Int.toNat_natCast] at hl17_17
      obtain ⟨wl17_17, hwl17_17⟩ : ∃ x, (wr0).setCell ⟨w.heap.size, k0, none⟩ (.string yt_14) = x := ⟨_, rfl⟩
      have z0l17_17 := Oout_3l0.out.frozenAt (k0)
      have Sl17_17 := Lib.hid (own_stores [(k0, .string yt_14)] Oout_3l0.out)
      have nl17_17 : Hid (l17_17.length = t_3.length) := Lib.hid (by rw [← hl17_17, List.length_set]; exact hnout_3l0.out)
      have Pl17_17 : Hid (wl17_17.ownsRow w.heap.size 9 1 (.slice (some ⟨w.heap.size, 0, none⟩) t_3.length a.length) t_3.length (l17_17.map Value.string)) := Lib.hid (by have e_ : ([(k0, .string yt_14)] : List (Nat × Value)).foldl (fun xs p => xs.set p.1 p.2) (out_3l0.map Value.string) = (l17_17.map Value.string) := (by rw [← hl17_17]; first | done | simp [List.map_set]); rw [← hwl17_17, ← e_]; exact Sl17_17.out.1)
      have Gl17_17 : Hid (wr0.grownBy wl17_17 (Value.slice (some ⟨w.heap.size, 0, none⟩) t_3.length a.length).ownBlock) := Lib.hid (by rw [← hwl17_17]; exact Sl17_17.out.2)
      have HBwl17_17 := Lib.hid (HBwr0.out.grown Gl17_17.out HBwr0.out.size (fun q hq => (Oout_3l0.out.lt q hq).1))
      have hhl17_17 := Lib.hid hl17_17
      clear hl17_17 Sl17_17
      have ct_14_0__1 := cell_other ct_14_0 Gl17_17.out (apart_old Oout_3l0.out ltt_14)
      clear Oout_3l0 Gl17_17
      replace H := app_hid H
      go_wp2_with fail
      clear z0l17_17 ct_14_0 ct_16_0
      go_roundg m0
      case measure => omega
      case rel => exact ⟨k0 + 1, _, by omega, by go_num, H, HBwl17_17, Pl17_17, Lib.hid (nl17_17.out)⟩
end Go.Proofs.Ythdmmoameoafmaa.GlToStringS

/- loop.example/g01062/laws.toBlock as a plain function, and the contract of the program's: where the plain one has an answer, the program has it. Conditions: slices read as lists. -/
namespace Go.Proofs.Ythdmmoameoafmaa.GlToBlock
set_option linter.unusedVariables false
set_option linter.unusedSimpArgs false
open Go.RowKit
open Go.Proofs.Ythdmmoameoafmaa.Rowed Go.Proofs.Ythdmmoameoafmaa.Turn Go.Proofs.Ythdmmoameoafmaa.Aid Go.Proofs.Ythdmmoameoafmaa.GoP Go.Proofs.Ythdmmoameoafmaa.GoM

def P (a_rows : (List ByteArray)) : Option (Go.Proofs.Ythdmmoameoafmaa.PBlock.Block) :=
  Option.bind (Go.Proofs.Ythdmmoameoafmaa.GlToStringS.P a_rows) fun (t_5 : (List ByteArray)) =>
  some (Go.Proofs.Ythdmmoameoafmaa.PBlock.Block.mk t_5)

set_option maxRecDepth 100000 in
set_option maxHeartbeats 2000000 in
theorem C (a_rows : (List ByteArray)) (A0_0 : Option Addr) (c0_0 : Nat)  (w : World) (M0_0 : Hid (Cells w 1 A0_0 a_rows.length (a_rows.map Value.string))) (N0_0 : Hid (a_rows.length ≤ 9223372036854775807))  {r_rows : (List ByteArray)} (H : Hid (P a_rows = some (Go.Proofs.Ythdmmoameoafmaa.PBlock.Block.mk r_rows))) :
    Calls Try.prog 8 #[.agg #[.slice A0_0 a_rows.length c0_0]] w (fun e w' => ∃ A_r_rows c_r_rows, e = .returned (.agg #[.slice A_r_rows r_rows.length c_r_rows]) ∧ w'.ownsRow w.heap.size 9 1 (.slice A_r_rows r_rows.length c_r_rows) r_rows.length (r_rows.map Value.string) ∧ Below w.heap.size w w') := by
  have HB := Lib.hid (Below.refl w.heap.size w)
  unfold P at H
  have N0_0o := N0_0.out
  go_enter Try.func8, Try.ntmps8
  obtain ⟨w_a_0, hw_a_0⟩ : ∃ x, w.alloc (.cells #[.slice A0_0 a_rows.length c0_0] 24) = x := ⟨_, rfl⟩
  have bw_a_0 : Below w.heap.size w w_a_0 := by rw [← hw_a_0]; exact (Below.refl _ _).alloc (Nat.le_refl _) _
  have HBw_a_0 := Lib.hid (Below.step HB.out bw_a_0)
  clear bw_a_0
  have ka_0_0 : w_a_0.cell? ⟨w.heap.size, 0, none⟩ = some (.slice A0_0 a_rows.length c0_0) := by rw [← hw_a_0]; exact box_new _ _ _ 0 _ rfl
  obtain ⟨w_t_1, hw_t_1⟩ : ∃ x, w_a_0.alloc (.cells #[.slice none 0 0] 30) = x := ⟨_, rfl⟩
  have bw_t_1 : Below w_a_0.heap.size w_a_0 w_t_1 := by rw [← hw_t_1]; exact (Below.refl _ _).alloc (Nat.le_refl _) _
  have Dt_1_a_0 := Lib.hid (apart_box ka_0_0)
  have HBw_t_1 := Lib.hid (Below.step HBw_a_0.out bw_t_1)
  have ka_0_0__2 := cell_below bw_t_1 ka_0_0
  clear bw_t_1
  have kt_1_0 : w_t_1.cell? ⟨w_a_0.heap.size, 0, none⟩ = some (.slice none 0 0) := by rw [← hw_t_1]; exact box_new _ _ _ 0 _ rfl
  have Ot_1 : Hid (w_t_1.ownsRow w.heap.size 30 1 (.slice (some ⟨w_a_0.heap.size, 0, none⟩) 1 1) 1 [.slice none 0 0]) := Lib.hid (by rw [← hw_t_1]; exact own_laid (n := 1) HBw_a_0.out.size rfl rfl (by unfold maxLen; omega))
  obtain ⟨w_out_2, hw_out_2⟩ : ∃ x, w_t_1.alloc (.cells #[.slice none 0 0] 30) = x := ⟨_, rfl⟩
  have bw_out_2 : Below w_t_1.heap.size w_t_1 w_out_2 := by rw [← hw_out_2]; exact (Below.refl _ _).alloc (Nat.le_refl _) _
  have Dout_2_a_0 := Lib.hid (apart_box ka_0_0__2)
  have Dout_2_t_1 := Lib.hid (apart_box kt_1_0)
  have HBw_out_2 := Lib.hid (Below.step HBw_t_1.out bw_out_2)
  have ka_0_0__3 := cell_below bw_out_2 ka_0_0__2
  have kt_1_0__4 := cell_below bw_out_2 kt_1_0
  replace Ot_1 := Lib.hid (own_below Ot_1.out bw_out_2)
  clear bw_out_2
  have kout_2_0 : w_out_2.cell? ⟨w_t_1.heap.size, 0, none⟩ = some (.slice none 0 0) := by rw [← hw_out_2]; exact box_new _ _ _ 0 _ rfl
  have Oout_2 : Hid (w_out_2.ownsRow w.heap.size 30 1 (.slice (some ⟨w_t_1.heap.size, 0, none⟩) 1 1) 1 [.slice none 0 0]) := Lib.hid (by rw [← hw_out_2]; exact own_laid (n := 1) HBw_t_1.out.size rfl rfl (by unfold maxLen; omega))
  replace H := bind_hid H
  obtain ⟨t_5, qt_5, H⟩ := H
  go_wp2_with fail
  clear ka_0_0 ka_0_0__2 kt_1_0
  go_at_call 7
  refine (Go.Proofs.Ythdmmoameoafmaa.GlToStringS.C (a_rows) A0_0 c0_0 _   (Lib.hid (Cells.below M0_0.out HBw_out_2.out)) N0_0 qt_5).mono ?_
  rintro e_t_5 wt_5 ⟨At_5, ct_5, rfl, ot_5, bt_5⟩
  have Dt_5_a_0 := Lib.hid (apart_callbox ot_5 ka_0_0__3)
  have Dt_5_t_1 := Lib.hid (apart_callbox ot_5 kt_1_0__4)
  have Dt_5_out_2 := Lib.hid (apart_callbox ot_5 kout_2_0)
  have Ot_5 := Lib.hid (own_lower ot_5 HBw_out_2.out.size)
  clear ot_5
  have HBwt_5 := Lib.hid (Below.step HBw_out_2.out bt_5)
  replace ka_0_0__3 := cell_below bt_5 ka_0_0__3
  replace kt_1_0__4 := cell_below bt_5 kt_1_0__4
  replace kout_2_0 := cell_below bt_5 kout_2_0
  replace Ot_1 := Lib.hid (own_below Ot_1.out bt_5)
  replace Oout_2 := Lib.hid (own_below Oout_2.out bt_5)
  clear bt_5
  obtain ⟨wb7_7, hwb7_7⟩ : ∃ x, (wt_5).setCell ⟨w_t_1.heap.size, 0, none⟩ (.slice At_5 t_5.length ct_5) = x := ⟨_, rfl⟩
  have z0b7_7 := Oout_2.out.frozenAt 0
  have Sb7_7 := Lib.hid (own_stores [(0, .slice At_5 t_5.length ct_5)] Oout_2.out)
  have Pb7_7 : Hid (wb7_7.ownsRow w.heap.size 30 1 (.slice (some ⟨w_t_1.heap.size, 0, none⟩) 1 1) 1 [.slice At_5 t_5.length ct_5]) := Lib.hid (by rw [← hwb7_7]; exact Sb7_7.out.1)
  have Gb7_7 : Hid (wt_5.grownBy wb7_7 (Value.slice (some ⟨w_t_1.heap.size, 0, none⟩) 1 1).ownBlock) := Lib.hid (by rw [← hwb7_7]; exact Sb7_7.out.2)
  have HBwb7_7 := Lib.hid (HBwt_5.out.grown Gb7_7.out HBwt_5.out.size (fun q hq => (Oout_2.out.lt q hq).1))
  clear Sb7_7
  have ka_0_0__5 := cell_other ka_0_0__3 Gb7_7.out Dout_2_a_0.out
  have kt_1_0__6 := cell_other kt_1_0__4 Gb7_7.out Dout_2_t_1.out
  replace Ot_1 := Lib.hid (own_other Ot_1.out Gb7_7.out Dout_2_t_1.out)
  replace Ot_5 := Lib.hid (own_other Ot_5.out Gb7_7.out (Apart.symm Dt_5_out_2.out))
  clear Oout_2 Gb7_7
  have kout_2_0__7 : wb7_7.cell? ⟨w_t_1.heap.size, 0, none⟩ = some (.slice At_5 t_5.length ct_5) := Pb7_7.out.cells rfl 0 _ rfl
  obtain ⟨wb9_9, hwb9_9⟩ : ∃ x, (wb7_7).setCell ⟨w_a_0.heap.size, 0, none⟩ (.slice At_5 t_5.length ct_5) = x := ⟨_, rfl⟩
  have z0b9_9 := Ot_1.out.frozenAt 0
  have Sb9_9 := Lib.hid (own_stores [(0, .slice At_5 t_5.length ct_5)] Ot_1.out)
  have Pb9_9 : Hid (wb9_9.ownsRow w.heap.size 30 1 (.slice (some ⟨w_a_0.heap.size, 0, none⟩) 1 1) 1 [.slice At_5 t_5.length ct_5]) := Lib.hid (by rw [← hwb9_9]; exact Sb9_9.out.1)
  have Gb9_9 : Hid (wb7_7.grownBy wb9_9 (Value.slice (some ⟨w_a_0.heap.size, 0, none⟩) 1 1).ownBlock) := Lib.hid (by rw [← hwb9_9]; exact Sb9_9.out.2)
  have HBwb9_9 := Lib.hid (HBwb7_7.out.grown Gb9_9.out HBwb7_7.out.size (fun q hq => (Ot_1.out.lt q hq).1))
  clear Sb9_9
  have ka_0_0__8 := cell_other ka_0_0__5 Gb9_9.out Dt_1_a_0.out
  have kout_2_0__9 := cell_other kout_2_0__7 Gb9_9.out (Apart.symm Dout_2_t_1.out)
  replace Pb7_7 := Lib.hid (own_other Pb7_7.out Gb9_9.out (Apart.symm Dout_2_t_1.out))
  replace Ot_5 := Lib.hid (own_other Ot_5.out Gb9_9.out (Apart.symm Dt_5_t_1.out))
  clear Ot_1 Gb9_9
  have kt_1_0__10 : wb9_9.cell? ⟨w_a_0.heap.size, 0, none⟩ = some (.slice At_5 t_5.length ct_5) := Pb9_9.out.cells rfl 0 _ rfl
  have hR_ := ret_hid H
  simp only [Go.Proofs.Ythdmmoameoafmaa.PBlock.Block.mk.injEq] at hR_
  obtain rfl := hR_
  go_wp2_with fail
  (try simp only [Exit.inBlock, Exit.then])
  refine bodyPost_ret (v := .agg #[.slice At_5 t_5.length ct_5]) ?hr_ ?hd_ ?_
  case hd_ => rfl
  case hr_ => simp [results, Try.results8, kt_1_0__10, go_sem]
  exact ⟨At_5, ct_5, rfl, Ot_5.out, HBwb9_9.out⟩
end Go.Proofs.Ythdmmoameoafmaa.GlToBlock

/- loop.example/g01062/spec.l1In as a plain function, and the contract of the program's: where the plain one has an answer, the program has it. Conditions: slices read as lists. -/
namespace Go.Proofs.Ythdmmoameoafmaa.GsL1In
set_option linter.unusedVariables false
set_option linter.unusedSimpArgs false
open Go.RowKit
open Go.Proofs.Ythdmmoameoafmaa.Rowed Go.Proofs.Ythdmmoameoafmaa.Turn Go.Proofs.Ythdmmoameoafmaa.Aid Go.Proofs.Ythdmmoameoafmaa.GoP Go.Proofs.Ythdmmoameoafmaa.GoM

def P (x : Int) (a : Int) (b : Int) : Option (Bool) :=
  letK (decide (a ≤ x)) fun (t_3 : Bool) =>
  joinK (fun (t_8 : Bool) =>
  some t_8) fun jt_8 => iteK t_3 (letK (decide (x ≤ b)) fun (t_7 : Bool) =>
  appK jt_8 t_7) (appK jt_8 false)

set_option maxRecDepth 100000 in
set_option maxHeartbeats 2000000 in
theorem C (x : Int) (a : Int) (b : Int)   (w : World)   {r : Bool} (H : Hid (P x a b = some r)) :
    Calls Try.prog 25 #[.int .i64 x, .int .i64 a, .int .i64 b] w (Gives (.bool r) w) := by
  have HB := Lib.hid (Below.refl w.heap.size w)
  unfold P at H
  go_enter Try.func25, Try.ntmps25
  replace H := let_hid H
  obtain ⟨t_3, ht_3, H⟩ := H
  replace H := join_hid H
  cases t_3 with
  | false =>
    replace H := ite_f H
    replace H := app_hid H
    obtain rfl := ret_hid H
    go_wp2_with fail
    go_ret
    exact ⟨rfl, HB.out⟩
  | true =>
    replace H := ite_t H
    replace H := let_hid H
    obtain ⟨t_7, ht_7, H⟩ := H
    replace H := app_hid H
    obtain rfl := ret_hid H
    go_wp2_with fail
    go_ret
    exact ⟨rfl, HB.out⟩

set_option maxRecDepth 100000 in
set_option maxHeartbeats 2000000 in
theorem C0 (x : Int) (a : Int) (b : Int)   (w : World)   {r : Bool} (H : Hid (P x a b = some r)) :
    Calls Try.prog 25 #[.int .i64 x, .int .i64 a, .int .i64 b] w (fun e w'' => e = .returned (.bool r) ∧ w'' = w) := by
  have HB := Lib.hid (Below.refl w.heap.size w)
  unfold P at H
  go_enter Try.func25, Try.ntmps25
  replace H := let_hid H
  obtain ⟨t_3, ht_3, H⟩ := H
  replace H := join_hid H
  cases t_3 with
  | false =>
    replace H := ite_f H
    replace H := app_hid H
    obtain rfl := ret_hid H
    go_wp2_with fail
    go_ret
    exact ⟨rfl, rfl⟩
  | true =>
    replace H := ite_t H
    replace H := let_hid H
    obtain ⟨t_7, ht_7, H⟩ := H
    replace H := app_hid H
    obtain rfl := ret_hid H
    go_wp2_with fail
    go_ret
    exact ⟨rfl, rfl⟩
end Go.Proofs.Ythdmmoameoafmaa.GsL1In

/- loop.example/g01062/spec.l4Rows as a plain function, and the contract of the program's: where the plain one has an answer, the program has it. Conditions: slices read as lists. -/
namespace Go.Proofs.Ythdmmoameoafmaa.GsL4Rows
set_option linter.unusedVariables false
set_option linter.unusedSimpArgs false
open Go.RowKit
open Go.Proofs.Ythdmmoameoafmaa.Rowed Go.Proofs.Ythdmmoameoafmaa.Turn Go.Proofs.Ythdmmoameoafmaa.Aid Go.Proofs.Ythdmmoameoafmaa.GoP Go.Proofs.Ythdmmoameoafmaa.GoM

def l1 (rows : (List ByteArray)) (k0 : Nat) (s : Int) (nx1 bk1 : Int → Option (Bool)) : Option (Bool) :=
  letK s fun k_6l1 =>
  Option.bind (idx rows (k0 : Int)) fun (yt_37 : ByteArray) =>
  letK (decide (k_6l1 < (yt_37.size : Int))) fun (t_40 : Bool) =>
  iteK t_40
  (Option.bind (idx rows (k0 : Int)) fun (yt_43 : ByteArray) =>
  Option.bind (idx yt_43.toList k_6l1) fun (yt_46 : UInt8) =>
  letK ((yt_46.toNat : Int)) fun (t_46 : Int) =>
  letK (t_46 != 46) fun (t_49 : Bool) =>
  joinK (fun (t_57 : Bool) =>
  iteK t_57
  (some false)
  (letK (IntKind.i64.wrap (k_6l1 + 1)) fun (t_60 : Int) =>
  appK nx1 (t_60))) fun jt_57 => iteK t_49 (letK (decide (t_46 < 97)) fun (t_52 : Bool) =>
  joinK (fun (t_56 : Bool) =>
  appK jt_57 t_56) fun jt_56 => iteK t_52 (appK jt_56 true) (letK (decide (122 < t_46)) fun (t_55 : Bool) =>
  appK jt_56 t_55)) (appK jt_57 false))
  (appK bk1 (k_6l1))

def e1 (nx0 : (Unit) → Option (Bool)) (s : Int) : Option (Bool) :=
  letK s fun k_6l1 =>
  appK nx0 ()

def l0 (rows : (List ByteArray)) (most : Int) (fuel : Nat) (k0 : Nat) (s : Unit) (nx0 bk0 : Unit → Option (Bool)) : Option (Bool) :=
  
  Option.bind (idx rows (k0 : Int)) fun (yt_14 : ByteArray) =>
  Option.bind (idx rows 0) fun (yt_18 : ByteArray) =>
  letK ((yt_14.size : Int) != (yt_18.size : Int)) fun (t_21 : Bool) =>
  joinK (fun (t_31 : Bool) =>
  iteK t_31
  (some false)
  (loopK (l1 rows k0) fuel (0) (e1 nx0))) fun jt_31 => iteK t_21 (appK jt_31 true) (Option.bind (idx rows (k0 : Int)) fun (yt_25 : ByteArray) =>
  Option.bind (Go.Proofs.Ythdmmoameoafmaa.GsL1In.P (yt_25.size : Int) 1 most) fun (t_29 : Bool) =>
  letK (!t_29) fun (t_30 : Bool) =>
  appK jt_31 t_30)

def e0  (s : Unit) : Option (Bool) :=
  
  some true

def P (fuel : Nat) (rows : (List ByteArray)) (most : Int) : Option (Bool) :=
  Option.bind (Go.Proofs.Ythdmmoameoafmaa.GsL1In.P (rows.length : Int) 1 most) fun (t_4 : Bool) =>
  letK (!t_4) fun (t_5 : Bool) =>
  iteK t_5
  (some false)
  (cntK (l0 rows most fuel) (rows.length) 0 () (e0 ))

set_option maxRecDepth 100000 in
set_option maxHeartbeats 2000000 in
theorem C (fuel : Nat) (rows : (List ByteArray)) (most : Int) (A0 : Option Addr) (c0 : Nat)  (w : World) (M0 : Hid (Cells w 1 A0 rows.length (rows.map Value.string))) (N0 : Hid (rows.length ≤ 9223372036854775807))  {r : Bool} (H : Hid (P fuel rows most = some r)) :
    Calls Try.prog 24 #[.slice A0 rows.length c0, .int .i64 most] w (Gives (.bool r) w) := by
  have HB := Lib.hid (Below.refl w.heap.size w)
  unfold P at H
  have N0o := N0.out
  go_enter Try.func24, Try.ntmps24
  replace H := bind_hid H
  obtain ⟨t_4, qt_4, H⟩ := H
  go_wp2_with fail
  go_at_call 25
  refine (Go.Proofs.Ythdmmoameoafmaa.GsL1In.C ((rows.length : Int)) (1) (most)  _    qt_4).mono ?_
  rintro e_t_4 wt_4 ⟨rfl, bt_4⟩
  have HBwt_4 := Lib.hid (Below.step HB.out bt_4)
  clear bt_4
  cases t_4 with
  | false =>
    replace H := let_hid H
    obtain ⟨t_5, ht_5, H⟩ := H
    obtain rfl : t_5 = true := ht_5.symm
    replace H := ite_t H
    obtain rfl := ret_hid H
    go_wp2_with fail
    go_ret
    exact ⟨rfl, HBwt_4.out⟩
  | true =>
    replace H := let_hid H
    obtain ⟨t_5, ht_5, H⟩ := H
    obtain rfl : t_5 = false := ht_5.symm
    replace H := ite_f H
    go_wp2_with fail
    go_loopg [5] (rows.length) (fun m_ v5_ wr => ∃ (k0 : Nat) , k0 + m_ = rows.length ∧ v5_ = .int .i64 (k0 : Int) ∧ Hid (cntK (l0 rows most fuel) m_ k0 () (e0 ) = some r) ∧ Hid (Below w.heap.size w wr))
    case atStart => exact ⟨0, by omega, rfl, H, HBwt_4⟩
    case round =>
      obtain ⟨k0, hkm0, rfl, H, HBwr0⟩ := hrel
      rename World => wr0
      cases gk with
      | zero =>
        obtain rfl : k0 = rows.length := by omega
        have hc0 : decide (((rows.length : Nat) : Int) < ((rows.length : Nat) : Int)) = false := by simp
        replace H := cnt_zero H
        unfold e0 at H
        obtain rfl := ret_hid H
        go_wp2_with fail
        go_ret
        exact ⟨rfl, HBwr0.out⟩
      | succ m0 =>
        have hlt0 : k0 < rows.length := by omega
        have hc0 : decide ((k0 : Int) < ((rows.length : Nat) : Int)) = true := by simp; omega
        replace H := cnt_succ H
        unfold l0 at H
        go_wp2_with fail
        replace H := idx_hid H
        obtain ⟨nt_14, yt_14, et_14, lt_14, gt_14, H⟩ := H
        obtain rfl : k0 = nt_14 := by omega
        clear et_14
        obtain ⟨ab_t_14, ao_t_14, zt_14, At_14, z_t_14, ct_14_0⟩ := strs_at M0.out lt_14
        obtain rfl := Option.some.inj (gt_14.out.symm.trans z_t_14)
        subst At_14
        have ltt_14 := cell_lt ct_14_0
        replace ct_14_0 := cell_below HBwr0.out ct_14_0
        clear z_t_14
        have b0t_14 : (0 : Int) ≤ (k0 : Int) := by omega
        have b1t_14 : (k0 : Int) < ((rows.length : Nat) : Int) := by omega
        have b2t_14 : ((k0 : Int)).toNat = k0 := by omega
        have Hct_14_0 := Lib.hid ct_14_0
        replace ct_14_0 := cell_regrown ct_14_0
        replace H := idx_hid H
        obtain ⟨nt_18, yt_18, et_18, lt_18, gt_18, H⟩ := H
        obtain rfl : 0 = nt_18 := by omega
        clear et_18
        obtain ⟨ab_t_18, ao_t_18, zt_18, At_18, z_t_18, ct_18_0⟩ := strs_at M0.out lt_18
        obtain rfl := Option.some.inj (gt_18.out.symm.trans z_t_18)
        simp only [Option.some.injEq, Addr.mk.injEq] at At_18
        obtain ⟨rfl, rfl, _⟩ := At_18
        have ltt_18 := cell_lt ct_18_0
        replace ct_18_0 := cell_below HBwr0.out ct_18_0
        clear z_t_18
        have b1t_18 : (0 : Int) < ((rows.length : Nat) : Int) := by omega
        have b3t_18 : 0 < rows.length := by omega
        try simp only [Nat.zero_mul, Nat.add_zero, Nat.zero_add, Nat.reduceMul] at ct_18_0
        have Hct_18_0 := Lib.hid ct_18_0
        replace ct_18_0 := cell_regrown ct_18_0
        replace H := let_hid H
        obtain ⟨t_21, ht_21, H⟩ := H
        replace H := join_hid H
        cases t_21 with
        | false =>
          have Hht_21 : Hid (yt_14.size = yt_18.size) := Lib.hid (by have := bne_eq_false_iff_eq.1 ht_21; omega)
          have nht_21 : (yt_14.size == yt_18.size) = true := beq_iff_eq.2 Hht_21.out
          replace H := ite_f H
          replace H := idx_hid H
          obtain ⟨nt_25, yt_25, et_25, lt_25, gt_25, H⟩ := H
          obtain rfl : k0 = nt_25 := by omega
          clear et_25
          obtain rfl := Option.some.inj (gt_14.out.symm.trans gt_25.out)
          clear gt_25 lt_25
          replace H := bind_hid H
          obtain ⟨t_29, qt_29, H⟩ := H
          have nt_29 : ∀ d os, Calls Try.prog 25 #[.int .i64 (yt_14.size : Int), .int .i64 1, .int .i64 most] (Go.Sort.grow (redrawn wr0 d) os) fun e w'' => e = .returned (.bool t_29) ∧ ∃ p : Regrown, w'' = Go.Sort.grow (redrawn wr0 p.d) p.os := fun d os => Calls.regrown_of (Go.Proofs.Ythdmmoameoafmaa.GsL1In.C ((yt_14.size : Int)) (1) (most)  _    qt_29)
          cases t_29 with
          | false =>
            replace H := let_hid H
            obtain ⟨t_30, ht_30, H⟩ := H
            obtain rfl : t_30 = true := ht_30.symm
            replace H := app_hid H
            refine wp_region_quiet_below (by kernel_rfl) (by kernel_rfl) ?_
            repeat (go_big_quiet_step (first | (go_at_call 25; exact nt_29 _ _)))
            refine wpQuiet_nil ?_
            intro Y6 hY6
            replace hY6 := below_class hY6
            clear nt_29
            replace ct_14_0 := Hct_14_0.out
            clear Hct_14_0
            replace ct_18_0 := Hct_18_0.out
            clear Hct_18_0
            have HBY6 := Lib.hid (Below.step HBwr0.out hY6)
            replace ct_14_0 := cell_below hY6 ct_14_0
            replace ct_18_0 := cell_below hY6 ct_18_0
            clear hY6
            replace H := ite_t H
            obtain rfl := ret_hid H
            go_wp2_with fail
            go_ret
            exact ⟨rfl, HBY6.out⟩
          | true =>
            replace H := let_hid H
            obtain ⟨t_30, ht_30, H⟩ := H
            obtain rfl : t_30 = false := ht_30.symm
            replace H := app_hid H
            refine wp_region_quiet_below (by kernel_rfl) (by kernel_rfl) ?_
            repeat (go_big_quiet_step (first | (go_at_call 25; exact nt_29 _ _)))
            refine wpQuiet_nil ?_
            intro Y6 hY6
            replace hY6 := below_class hY6
            clear nt_29
            replace ct_14_0 := Hct_14_0.out
            clear Hct_14_0
            replace ct_18_0 := Hct_18_0.out
            clear Hct_18_0
            have HBY6 := Lib.hid (Below.step HBwr0.out hY6)
            replace ct_14_0 := cell_below hY6 ct_14_0
            replace ct_18_0 := cell_below hY6 ct_18_0
            clear hY6
            replace H := ite_f H
            go_wp2_with fail
            go_loopg [6] (fuel) (fun m_ v6_ wr => ∃ (k_6l1 : Int), v6_ = .int .i64 k_6l1 ∧ Hid (loopK (l1 rows k0) m_ (k_6l1) (e1 (fun s' => cntK (l0 rows most fuel) m0 (k0 + 1) s' (e0 ))) = some r) ∧ Hid (Below w.heap.size w wr))
            case atStart => exact ⟨_, rfl, H, HBY6⟩
            case round =>
              obtain ⟨k_6l1, rfl, H, HBwr1⟩ := hrel
              rename World => wr1
              cases gk with
              | zero => exact (loop_zero H).elim
              | succ m1 =>
                replace H := loop_succ H
                unfold l1 at H
                replace H := let_hid H
                obtain ⟨_, rfl, H⟩ := H
                replace H := idx_hid H
                obtain ⟨nt_37, yt_37, et_37, lt_37, gt_37, H⟩ := H
                obtain rfl : k0 = nt_37 := by omega
                clear et_37
                obtain ⟨ab_t_37, ao_t_37, zt_37, At_37, z_t_37, ct_37_0⟩ := strs_at M0.out lt_37
                obtain rfl := Option.some.inj (gt_37.out.symm.trans z_t_37)
                simp only [Option.some.injEq, Addr.mk.injEq] at At_37
                obtain ⟨rfl, rfl, _⟩ := At_37
                have ltt_37 := cell_lt ct_37_0
                replace ct_37_0 := cell_below HBwr1.out ct_37_0
                clear z_t_37
                have b0t_37 : (0 : Int) ≤ (k0 : Int) := by omega
                have b1t_37 : (k0 : Int) < ((rows.length : Nat) : Int) := by omega
                have b2t_37 : ((k0 : Int)).toNat = k0 := by omega
                replace H := let_hid H
                obtain ⟨t_40, ht_40, H⟩ := H
                cases t_40 with
                | false =>
                  replace H := ite_f H
                  replace H := app_hid H
                  unfold e1 at H
                  replace H := let_hid H
                  obtain ⟨_, rfl, H⟩ := H
                  replace H := app_hid H
                  go_wp2_with fail
                  go_roundg m0
                  case measure => omega
                  case rel => exact ⟨k0 + 1, by omega, by go_num, H, HBwr1⟩
                | true =>
                  replace H := ite_t H
                  replace H := idx_hid H
                  obtain ⟨nt_43, yt_43, et_43, lt_43, gt_43, H⟩ := H
                  obtain rfl : k0 = nt_43 := by omega
                  clear et_43
                  obtain rfl := Option.some.inj (gt_37.out.symm.trans gt_43.out)
                  clear gt_43 lt_43
                  replace H := idx_hid H
                  obtain ⟨nt_46, yt_46, et_46, lt_46, gt_46, H⟩ := H
                  subst et_46
                  have nc_11 : nt_46 < yt_37.size := by have := of_decide_eq_true ht_40; omega
                  have rt_46 := byte_rule lt_46 gt_46.out
                  have b0t_46 : (0 : Int) ≤ (nt_46 : Int) := by omega
                  have b1t_46 : (nt_46 : Int) < (yt_37.size : Int) := by have := size_list yt_37; omega
                  have b2t_46 : ((nt_46 : Int)).toNat = nt_46 := by omega
                  have b3t_46 : nt_46 < yt_37.size := by have := size_list yt_37; omega
                  replace H := let_hid H
                  obtain ⟨t_46, ht_46, H⟩ := H
                  replace H := let_hid H
                  obtain ⟨t_49, ht_49, H⟩ := H
                  replace H := join_hid H
                  cases t_49 with
                  | false =>
                    replace H := ite_f H
                    replace H := app_hid H
                    replace H := ite_f H
                    replace H := let_hid H
                    obtain ⟨t_60, ht_60, H⟩ := H
                    replace H := app_hid H
                    go_wp2_with fail
                    go_roundg m1
                    case measure => omega
                    case rel => exact ⟨_, rfl, H, HBwr1⟩
                  | true =>
                    replace H := ite_t H
                    replace H := let_hid H
                    obtain ⟨t_52, ht_52, H⟩ := H
                    replace H := join_hid H
                    cases t_52 with
                    | false =>
                      replace H := ite_f H
                      replace H := let_hid H
                      obtain ⟨t_55, ht_55, H⟩ := H
                      replace H := app_hid H
                      replace H := app_hid H
                      cases t_55 with
                      | false =>
                        replace H := ite_f H
                        replace H := let_hid H
                        obtain ⟨t_60, ht_60, H⟩ := H
                        replace H := app_hid H
                        go_wp2_with fail
                        go_roundg m1
                        case measure => omega
                        case rel => exact ⟨_, rfl, H, HBwr1⟩
                      | true =>
                        replace H := ite_t H
                        obtain rfl := ret_hid H
                        go_wp2_with fail
                        go_ret
                        exact ⟨rfl, HBwr1.out⟩
                    | true =>
                      replace H := ite_t H
                      replace H := app_hid H
                      replace H := app_hid H
                      replace H := ite_t H
                      obtain rfl := ret_hid H
                      go_wp2_with fail
                      go_ret
                      exact ⟨rfl, HBwr1.out⟩
        | true =>
          have nht_21 : ¬ (yt_14.size = yt_18.size) := by have := bne_iff_ne.1 ht_21; omega
          replace H := ite_t H
          replace H := app_hid H
          refine wp_region_quiet_below (by kernel_rfl) (by kernel_rfl) ?_
          repeat (go_big_quiet_step (fail))
          refine wpQuiet_nil ?_
          intro Y6 hY6
          replace hY6 := below_class hY6
          replace ct_14_0 := Hct_14_0.out
          clear Hct_14_0
          replace ct_18_0 := Hct_18_0.out
          clear Hct_18_0
          have HBY6 := Lib.hid (Below.step HBwr0.out hY6)
          replace ct_14_0 := cell_below hY6 ct_14_0
          replace ct_18_0 := cell_below hY6 ct_18_0
          clear hY6
          replace H := ite_t H
          obtain rfl := ret_hid H
          go_wp2_with fail
          go_ret
          exact ⟨rfl, HBY6.out⟩
end Go.Proofs.Ythdmmoameoafmaa.GsL4Rows

/- loop.example/g01062/spec.IsSheet as a plain function, and the contract of the program's: where the plain one has an answer, the program has it. Conditions: slices read as lists. -/
namespace Go.Proofs.Ythdmmoameoafmaa.GsIsSheet
set_option linter.unusedVariables false
set_option linter.unusedSimpArgs false
open Go.RowKit
open Go.Proofs.Ythdmmoameoafmaa.Rowed Go.Proofs.Ythdmmoameoafmaa.Turn Go.Proofs.Ythdmmoameoafmaa.Aid Go.Proofs.Ythdmmoameoafmaa.GoP Go.Proofs.Ythdmmoameoafmaa.GoM

def P (fuel : Nat) (sheet : (List ByteArray)) : Option (Bool) :=
  Option.bind (Go.Proofs.Ythdmmoameoafmaa.GsL4Rows.P fuel sheet 5) fun (t_2 : Bool) =>
  some t_2

set_option maxRecDepth 100000 in
set_option maxHeartbeats 2000000 in
theorem C (fuel : Nat) (sheet : (List ByteArray)) (A0 : Option Addr) (c0 : Nat)  (w : World) (M0 : Hid (Cells w 1 A0 sheet.length (sheet.map Value.string))) (N0 : Hid (sheet.length ≤ 9223372036854775807))  {r : Bool} (H : Hid (P fuel sheet = some r)) :
    Calls Try.prog 15 #[.slice A0 sheet.length c0] w (Gives (.bool r) w) := by
  have HB := Lib.hid (Below.refl w.heap.size w)
  unfold P at H
  have N0o := N0.out
  go_enter Try.func15, Try.ntmps15
  replace H := bind_hid H
  obtain ⟨t_2, qt_2, H⟩ := H
  go_wp2_with fail
  go_at_call 24
  refine (Go.Proofs.Ythdmmoameoafmaa.GsL4Rows.C fuel (sheet) (5) A0 c0 _   (Lib.hid (Cells.below M0.out HB.out)) N0 qt_2).mono ?_
  rintro e_t_2 wt_2 ⟨rfl, bt_2⟩
  have HBwt_2 := Lib.hid (Below.step HB.out bt_2)
  clear bt_2
  obtain rfl := ret_hid H
  go_wp2_with fail
  go_ret
  exact ⟨rfl, HBwt_2.out⟩
end Go.Proofs.Ythdmmoameoafmaa.GsIsSheet

/- loop.example/g01062/spec.IsBlock as a plain function, and the contract of the program's: where the plain one has an answer, the program has it. Conditions: slices read as lists. -/
namespace Go.Proofs.Ythdmmoameoafmaa.GsIsBlock
set_option linter.unusedVariables false
set_option linter.unusedSimpArgs false
open Go.RowKit
open Go.Proofs.Ythdmmoameoafmaa.Rowed Go.Proofs.Ythdmmoameoafmaa.Turn Go.Proofs.Ythdmmoameoafmaa.Aid Go.Proofs.Ythdmmoameoafmaa.GoP Go.Proofs.Ythdmmoameoafmaa.GoM

def P (fuel : Nat) (b_rows : (List ByteArray)) : Option (Bool) :=
  Option.bind (Go.Proofs.Ythdmmoameoafmaa.GsL4Rows.P fuel b_rows 3) fun (t_4 : Bool) =>
  some t_4

set_option maxRecDepth 100000 in
set_option maxHeartbeats 2000000 in
theorem C (fuel : Nat) (b_rows : (List ByteArray)) (A0_0 : Option Addr) (c0_0 : Nat)  (w : World) (M0_0 : Hid (Cells w 1 A0_0 b_rows.length (b_rows.map Value.string))) (N0_0 : Hid (b_rows.length ≤ 9223372036854775807))  {r : Bool} (H : Hid (P fuel b_rows = some r)) :
    Calls Try.prog 16 #[.agg #[.slice A0_0 b_rows.length c0_0]] w (Gives (.bool r) w) := by
  have HB := Lib.hid (Below.refl w.heap.size w)
  unfold P at H
  have N0_0o := N0_0.out
  go_enter Try.func16, Try.ntmps16
  obtain ⟨w_b_0, hw_b_0⟩ : ∃ x, w.alloc (.cells #[.slice A0_0 b_rows.length c0_0] 30) = x := ⟨_, rfl⟩
  have bw_b_0 : Below w.heap.size w w_b_0 := by rw [← hw_b_0]; exact (Below.refl _ _).alloc (Nat.le_refl _) _
  have HBw_b_0 := Lib.hid (Below.step HB.out bw_b_0)
  clear bw_b_0
  have kb_0_0 : w_b_0.cell? ⟨w.heap.size, 0, none⟩ = some (.slice A0_0 b_rows.length c0_0) := by rw [← hw_b_0]; exact box_new _ _ _ 0 _ rfl
  replace H := bind_hid H
  obtain ⟨t_4, qt_4, H⟩ := H
  go_wp2_with fail
  go_at_call 24
  refine (Go.Proofs.Ythdmmoameoafmaa.GsL4Rows.C fuel (b_rows) (3) A0_0 c0_0 _   (Lib.hid (Cells.below M0_0.out HBw_b_0.out)) N0_0 qt_4).mono ?_
  rintro e_t_4 wt_4 ⟨rfl, bt_4⟩
  have HBwt_4 := Lib.hid (Below.step HBw_b_0.out bt_4)
  replace kb_0_0 := cell_below bt_4 kb_0_0
  clear bt_4
  obtain rfl := ret_hid H
  go_wp2_with fail
  go_ret
  exact ⟨rfl, HBwt_4.out⟩
end Go.Proofs.Ythdmmoameoafmaa.GsIsBlock

/- loop.example/g01062/spec.l4Fits as a plain function, and the contract of the program's: where the plain one has an answer, the program has it. Conditions: slices read as lists. -/
namespace Go.Proofs.Ythdmmoameoafmaa.GsL4Fits
set_option linter.unusedVariables false
set_option linter.unusedSimpArgs false
open Go.RowKit
open Go.Proofs.Ythdmmoameoafmaa.Rowed Go.Proofs.Ythdmmoameoafmaa.Turn Go.Proofs.Ythdmmoameoafmaa.Aid Go.Proofs.Ythdmmoameoafmaa.GoP Go.Proofs.Ythdmmoameoafmaa.GoM

def l1 (sheet : (List ByteArray)) (b_rows : (List ByteArray)) (row_2 : Int) (col : Int) (i_9l0 : Int) (s : Int) (nx1 bk1 : Int → Option (Bool)) : Option (Bool) :=
  letK s fun k_10l1 =>
  Option.bind (idx b_rows i_9l0) fun (yt_44 : ByteArray) =>
  letK (decide (k_10l1 < (yt_44.size : Int))) fun (t_47 : Bool) =>
  iteK t_47
  (Option.bind (idx b_rows i_9l0) fun (yt_51 : ByteArray) =>
  Option.bind (idx yt_51.toList k_10l1) fun (yt_54 : UInt8) =>
  letK ((yt_54.toNat : Int)) fun (t_54 : Int) =>
  letK (IntKind.i64.wrap (row_2 + i_9l0)) fun (t_58 : Int) =>
  Option.bind (idx sheet t_58) fun (yt_59 : ByteArray) =>
  letK (IntKind.i64.wrap (col + k_10l1)) fun (t_63 : Int) =>
  Option.bind (idx yt_59.toList t_63) fun (yt_64 : UInt8) =>
  letK ((yt_64.toNat : Int)) fun (t_64 : Int) =>
  letK (t_54 != 46) fun (t_68 : Bool) =>
  joinK (fun (t_72 : Bool) =>
  joinK (fun (t_77 : Bool) =>
  iteK t_77
  (some false)
  (letK (IntKind.i64.wrap (k_10l1 + 1)) fun (t_80 : Int) =>
  appK nx1 (t_80))) fun jt_77 => iteK t_72 (letK (t_54 != t_64) fun (t_76 : Bool) =>
  appK jt_77 t_76) (appK jt_77 false)) fun jt_72 => iteK t_68 (letK (t_64 != 46) fun (t_71 : Bool) =>
  appK jt_72 t_71) (appK jt_72 false))
  (appK bk1 (k_10l1))

def e1 (nx0 : (Int) → Option (Bool)) (i_9l0 : Int) (s : Int) : Option (Bool) :=
  letK s fun k_10l1 =>
  letK (IntKind.i64.wrap (i_9l0 + 1)) fun (t_83 : Int) =>
  appK nx0 (t_83)

def l0 (sheet : (List ByteArray)) (b_rows : (List ByteArray)) (row_2 : Int) (col : Int) (fuel : Nat) (s : Int) (nx0 bk0 : Int → Option (Bool)) : Option (Bool) :=
  letK s fun i_9l0 =>
  letK (decide (i_9l0 < (b_rows.length : Int))) fun (t_38 : Bool) =>
  iteK t_38
  (loopK (l1 sheet b_rows row_2 col i_9l0) fuel (0) (e1 nx0 i_9l0))
  (appK bk0 (i_9l0))

def e0  (s : Int) : Option (Bool) :=
  letK s fun i_9l0 =>
  some true

def P (fuel : Nat) (sheet : (List ByteArray)) (b_rows : (List ByteArray)) (row_2 : Int) (col : Int) : Option (Bool) :=
  letK (decide (row_2 < 0)) fun (t_3 : Bool) =>
  joinK (fun (t_13 : Bool) =>
  joinK (fun (t_17 : Bool) =>
  joinK (fun (t_31 : Bool) =>
  iteK t_31
  (some false)
  (loopK (l0 sheet b_rows row_2 col fuel) fuel (0) (e0 ))) fun jt_31 => iteK t_17 (appK jt_31 true) (Option.bind (idx sheet 0) fun (yt_21 : ByteArray) =>
  Option.bind (idx b_rows 0) fun (yt_26 : ByteArray) =>
  letK (IntKind.i64.wrap ((yt_21.size : Int) - (yt_26.size : Int))) fun (t_29 : Int) =>
  letK (decide (t_29 < col)) fun (t_30 : Bool) =>
  appK jt_31 t_30)) fun jt_17 => iteK t_13 (appK jt_17 true) (letK (decide (col < 0)) fun (t_16 : Bool) =>
  appK jt_17 t_16)) fun jt_13 => iteK t_3 (appK jt_13 true) (letK (IntKind.i64.wrap ((sheet.length : Int) - (b_rows.length : Int))) fun (t_11 : Int) =>
  letK (decide (t_11 < row_2)) fun (t_12 : Bool) =>
  appK jt_13 t_12)

set_option maxRecDepth 100000 in
set_option maxHeartbeats 2000000 in
theorem C (fuel : Nat) (sheet : (List ByteArray)) (b_rows : (List ByteArray)) (row_2 : Int) (col : Int) (A0 : Option Addr) (c0 : Nat) (A1_0 : Option Addr) (c1_0 : Nat)  (w : World) (M0 : Hid (Cells w 1 A0 sheet.length (sheet.map Value.string))) (N0 : Hid (sheet.length ≤ 9223372036854775807)) (M1_0 : Hid (Cells w 1 A1_0 b_rows.length (b_rows.map Value.string))) (N1_0 : Hid (b_rows.length ≤ 9223372036854775807))  {r : Bool} (H : Hid (P fuel sheet b_rows row_2 col = some r)) :
    Calls Try.prog 17 #[.slice A0 sheet.length c0, .agg #[.slice A1_0 b_rows.length c1_0], .int .i64 row_2, .int .i64 col] w (Gives (.bool r) w) := by
  have HB := Lib.hid (Below.refl w.heap.size w)
  unfold P at H
  have N0o := N0.out
  have N1_0o := N1_0.out
  go_enter Try.func17, Try.ntmps17
  obtain ⟨w_b_0, hw_b_0⟩ : ∃ x, w.alloc (.cells #[.slice A1_0 b_rows.length c1_0] 30) = x := ⟨_, rfl⟩
  have bw_b_0 : Below w.heap.size w w_b_0 := by rw [← hw_b_0]; exact (Below.refl _ _).alloc (Nat.le_refl _) _
  have HBw_b_0 := Lib.hid (Below.step HB.out bw_b_0)
  clear bw_b_0
  have kb_0_0 : w_b_0.cell? ⟨w.heap.size, 0, none⟩ = some (.slice A1_0 b_rows.length c1_0) := by rw [← hw_b_0]; exact box_new _ _ _ 0 _ rfl
  go_wp2_with fail
  have Hkb_0_0 := Lib.hid kb_0_0
  replace kb_0_0 := cell_regrown kb_0_0
  replace H := let_hid H
  obtain ⟨t_3, ht_3, H⟩ := H
  replace H := join_hid H
  cases t_3 with
  | false =>
    replace H := ite_f H
    replace H := let_hid H
    obtain ⟨t_11, ht_11, H⟩ := H
    replace H := let_hid H
    obtain ⟨t_12, ht_12, H⟩ := H
    replace H := app_hid H
    replace H := join_hid H
    cases t_12 with
    | false =>
      replace H := ite_f H
      replace H := let_hid H
      obtain ⟨t_16, ht_16, H⟩ := H
      replace H := app_hid H
      replace H := join_hid H
      cases t_16 with
      | false =>
        replace H := ite_f H
        replace H := idx_hid H
        obtain ⟨nt_21, yt_21, et_21, lt_21, gt_21, H⟩ := H
        obtain rfl : 0 = nt_21 := by omega
        clear et_21
        obtain ⟨ab_t_21, ao_t_21, zt_21, At_21, z_t_21, ct_21_0⟩ := strs_at M0.out lt_21
        obtain rfl := Option.some.inj (gt_21.out.symm.trans z_t_21)
        subst At_21
        have ltt_21 := cell_lt ct_21_0
        replace ct_21_0 := cell_below HBw_b_0.out ct_21_0
        clear z_t_21
        have b1t_21 : (0 : Int) < ((sheet.length : Nat) : Int) := by omega
        have b3t_21 : 0 < sheet.length := by omega
        try simp only [Nat.zero_mul, Nat.add_zero, Nat.zero_add, Nat.reduceMul] at ct_21_0
        have Hct_21_0 := Lib.hid ct_21_0
        replace ct_21_0 := cell_regrown ct_21_0
        replace H := idx_hid H
        obtain ⟨nt_26, yt_26, et_26, lt_26, gt_26, H⟩ := H
        obtain rfl : 0 = nt_26 := by omega
        clear et_26
        obtain ⟨ab_t_26, ao_t_26, zt_26, At_26, z_t_26, ct_26_0⟩ := strs_at M1_0.out lt_26
        obtain rfl := Option.some.inj (gt_26.out.symm.trans z_t_26)
        subst At_26
        have ltt_26 := cell_lt ct_26_0
        replace ct_26_0 := cell_below HBw_b_0.out ct_26_0
        clear z_t_26
        have b1t_26 : (0 : Int) < ((b_rows.length : Nat) : Int) := by omega
        have b3t_26 : 0 < b_rows.length := by omega
        try simp only [Nat.zero_mul, Nat.add_zero, Nat.zero_add, Nat.reduceMul] at ct_26_0
        have Hct_26_0 := Lib.hid ct_26_0
        replace ct_26_0 := cell_regrown ct_26_0
        replace H := let_hid H
        obtain ⟨t_29, ht_29, H⟩ := H
        replace H := let_hid H
        obtain ⟨t_30, ht_30, H⟩ := H
        replace H := app_hid H
        refine wp_region_quiet_below (by kernel_rfl) (by kernel_rfl) ?_
        repeat (go_big_quiet_step (fail))
        refine wpQuiet_nil ?_
        intro Y1 hY1
        replace hY1 := below_class hY1
        replace kb_0_0 := Hkb_0_0.out
        clear Hkb_0_0
        replace ct_21_0 := Hct_21_0.out
        clear Hct_21_0
        replace ct_26_0 := Hct_26_0.out
        clear Hct_26_0
        have HBY1 := Lib.hid (Below.step HBw_b_0.out hY1)
        replace kb_0_0 := cell_below hY1 kb_0_0
        replace ct_21_0 := cell_below hY1 ct_21_0
        replace ct_26_0 := cell_below hY1 ct_26_0
        clear hY1
        cases t_30 with
        | false =>
          replace H := ite_f H
          go_wp2_with fail
          go_loopg [9] (fuel) (fun m_ v9_ wr => ∃ (i_9l0 : Int), v9_ = .int .i64 i_9l0 ∧ Hid (loopK (l0 sheet b_rows row_2 col fuel) m_ (i_9l0) (e0 ) = some r) ∧ Hid (Below w.heap.size w wr) ∧ wr.cell? ⟨w.heap.size, 0, none⟩ = some (.slice (some ⟨ab_t_26, ao_t_26, none⟩) b_rows.length c1_0))
          case atStart => exact ⟨_, rfl, H, HBY1, kb_0_0⟩
          case round =>
            obtain ⟨i_9l0, rfl, H, HBwr0, kb_0_0⟩ := hrel
            rename World => wr0
            cases gk with
            | zero => exact (loop_zero H).elim
            | succ m0 =>
              replace H := loop_succ H
              unfold l0 at H
              replace H := let_hid H
              obtain ⟨_, rfl, H⟩ := H
              replace H := let_hid H
              obtain ⟨t_38, ht_38, H⟩ := H
              cases t_38 with
              | false =>
                replace H := ite_f H
                replace H := app_hid H
                unfold e0 at H
                replace H := let_hid H
                obtain ⟨_, rfl, H⟩ := H
                obtain rfl := ret_hid H
                go_wp2_with fail
                go_ret
                exact ⟨rfl, HBwr0.out⟩
              | true =>
                replace H := ite_t H
                go_wp2_with fail
                go_loopg [10] (fuel) (fun m_ v10_ wr => ∃ (k_10l1 : Int), v10_ = .int .i64 k_10l1 ∧ Hid (loopK (l1 sheet b_rows row_2 col i_9l0) m_ (k_10l1) (e1 (fun s' => loopK (l0 sheet b_rows row_2 col fuel) m0 s' (e0 )) i_9l0) = some r) ∧ Hid (Below w.heap.size w wr) ∧ wr.cell? ⟨w.heap.size, 0, none⟩ = some (.slice (some ⟨ab_t_26, ao_t_26, none⟩) b_rows.length c1_0))
                case atStart => exact ⟨_, rfl, H, HBwr0, kb_0_0⟩
                case round =>
                  obtain ⟨k_10l1, rfl, H, HBwr1, kb_0_0⟩ := hrel
                  rename World => wr1
                  cases gk with
                  | zero => exact (loop_zero H).elim
                  | succ m1 =>
                    replace H := loop_succ H
                    unfold l1 at H
                    replace H := let_hid H
                    obtain ⟨_, rfl, H⟩ := H
                    replace H := idx_hid H
                    obtain ⟨nt_44, yt_44, et_44, lt_44, gt_44, H⟩ := H
                    subst et_44
                    have nc_12 : nt_44 < b_rows.length := by have := of_decide_eq_true ht_38; omega
                    obtain ⟨ab_t_44, ao_t_44, zt_44, At_44, z_t_44, ct_44_0⟩ := strs_at M1_0.out lt_44
                    obtain rfl := Option.some.inj (gt_44.out.symm.trans z_t_44)
                    simp only [Option.some.injEq, Addr.mk.injEq] at At_44
                    obtain ⟨rfl, rfl, _⟩ := At_44
                    have ltt_44 := cell_lt ct_44_0
                    replace ct_44_0 := cell_below HBwr1.out ct_44_0
                    clear z_t_44
                    have b0t_44 : (0 : Int) ≤ (nt_44 : Int) := by omega
                    have b1t_44 : (nt_44 : Int) < ((b_rows.length : Nat) : Int) := by omega
                    have b2t_44 : ((nt_44 : Int)).toNat = nt_44 := by omega
                    replace H := let_hid H
                    obtain ⟨t_47, ht_47, H⟩ := H
                    cases t_47 with
                    | false =>
                      replace H := ite_f H
                      replace H := app_hid H
                      unfold e1 at H
                      replace H := let_hid H
                      obtain ⟨_, rfl, H⟩ := H
                      replace H := let_hid H
                      obtain ⟨t_83, ht_83, H⟩ := H
                      replace H := app_hid H
                      go_wp2_with fail
                      go_roundg m0
                      case measure => omega
                      case rel => exact ⟨_, rfl, H, HBwr1, kb_0_0⟩
                    | true =>
                      replace H := ite_t H
                      go_wp2_with fail
                      have Hkb_0_0 := Lib.hid kb_0_0
                      replace kb_0_0 := cell_regrown kb_0_0
                      have Hct_44_0 := Lib.hid ct_44_0
                      replace ct_44_0 := cell_regrown ct_44_0
                      replace H := idx_hid H
                      obtain ⟨nt_51, yt_51, et_51, lt_51, gt_51, H⟩ := H
                      obtain rfl : nt_44 = nt_51 := by omega
                      clear et_51
                      obtain rfl := Option.some.inj (gt_44.out.symm.trans gt_51.out)
                      clear gt_51 lt_51
                      replace H := idx_hid H
                      obtain ⟨nt_54, yt_54, et_54, lt_54, gt_54, H⟩ := H
                      subst et_54
                      have nc_13 : nt_54 < yt_44.size := by have := of_decide_eq_true ht_47; omega
                      have rt_54 := byte_rule lt_54 gt_54.out
                      have b0t_54 : (0 : Int) ≤ (nt_54 : Int) := by omega
                      have b1t_54 : (nt_54 : Int) < (yt_44.size : Int) := by have := size_list yt_44; omega
                      have b2t_54 : ((nt_54 : Int)).toNat = nt_54 := by omega
                      have b3t_54 : nt_54 < yt_44.size := by have := size_list yt_44; omega
                      replace H := let_hid H
                      obtain ⟨t_54, ht_54, H⟩ := H
                      replace H := let_hid H
                      obtain ⟨t_58, ht_58, H⟩ := H
                      replace H := idx_hid H
                      obtain ⟨nt_59, yt_59, et_59, lt_59, gt_59, H⟩ := H
                      subst et_59
                      obtain ⟨ab_t_59, ao_t_59, zt_59, At_59, z_t_59, ct_59_0⟩ := strs_at M0.out lt_59
                      obtain rfl := Option.some.inj (gt_59.out.symm.trans z_t_59)
                      simp only [Option.some.injEq, Addr.mk.injEq] at At_59
                      obtain ⟨rfl, rfl, _⟩ := At_59
                      have ltt_59 := cell_lt ct_59_0
                      replace ct_59_0 := cell_below HBwr1.out ct_59_0
                      clear z_t_59
                      have b0t_59 : (0 : Int) ≤ (nt_59 : Int) := by omega
                      have b1t_59 : (nt_59 : Int) < ((sheet.length : Nat) : Int) := by omega
                      have b2t_59 : ((nt_59 : Int)).toNat = nt_59 := by omega
                      have Hct_59_0 := Lib.hid ct_59_0
                      replace ct_59_0 := cell_regrown ct_59_0
                      replace H := let_hid H
                      obtain ⟨t_63, ht_63, H⟩ := H
                      replace H := idx_hid H
                      obtain ⟨nt_64, yt_64, et_64, lt_64, gt_64, H⟩ := H
                      subst et_64
                      have rt_64 := byte_rule lt_64 gt_64.out
                      have b0t_64 : (0 : Int) ≤ (nt_64 : Int) := by omega
                      have b1t_64 : (nt_64 : Int) < (yt_59.size : Int) := by have := size_list yt_59; omega
                      have b2t_64 : ((nt_64 : Int)).toNat = nt_64 := by omega
                      have b3t_64 : nt_64 < yt_59.size := by have := size_list yt_59; omega
                      replace H := let_hid H
                      obtain ⟨t_64, ht_64, H⟩ := H
                      refine wp_region_quiet_below (by kernel_rfl) (by kernel_rfl) ?_
                      repeat (go_big_quiet_step (fail))
                      refine wpQuiet_nil ?_
                      intro Y9 hY9
                      replace hY9 := below_class hY9
                      replace kb_0_0 := Hkb_0_0.out
                      clear Hkb_0_0
                      replace ct_44_0 := Hct_44_0.out
                      clear Hct_44_0
                      replace ct_59_0 := Hct_59_0.out
                      clear Hct_59_0
                      have HBY9 := Lib.hid (Below.step HBwr1.out hY9)
                      replace kb_0_0 := cell_below hY9 kb_0_0
                      replace ct_44_0 := cell_below hY9 ct_44_0
                      replace ct_59_0 := cell_below hY9 ct_59_0
                      clear hY9
                      replace H := let_hid H
                      obtain ⟨t_68, ht_68, H⟩ := H
                      replace H := join_hid H
                      cases t_68 with
                      | false =>
                        replace H := ite_f H
                        replace H := app_hid H
                        replace H := join_hid H
                        replace H := ite_f H
                        replace H := app_hid H
                        replace H := ite_f H
                        replace H := let_hid H
                        obtain ⟨t_80, ht_80, H⟩ := H
                        replace H := app_hid H
                        go_wp2_with fail
                        go_roundg m1
                        case measure => omega
                        case rel => exact ⟨_, rfl, H, HBY9, kb_0_0⟩
                      | true =>
                        replace H := ite_t H
                        replace H := let_hid H
                        obtain ⟨t_71, ht_71, H⟩ := H
                        replace H := app_hid H
                        replace H := join_hid H
                        cases t_71 with
                        | false =>
                          replace H := ite_f H
                          replace H := app_hid H
                          replace H := ite_f H
                          replace H := let_hid H
                          obtain ⟨t_80, ht_80, H⟩ := H
                          replace H := app_hid H
                          go_wp2_with fail
                          go_roundg m1
                          case measure => omega
                          case rel => exact ⟨_, rfl, H, HBY9, kb_0_0⟩
                        | true =>
                          replace H := ite_t H
                          replace H := let_hid H
                          obtain ⟨t_76, ht_76, H⟩ := H
                          replace H := app_hid H
                          cases t_76 with
                          | false =>
                            replace H := ite_f H
                            replace H := let_hid H
                            obtain ⟨t_80, ht_80, H⟩ := H
                            replace H := app_hid H
                            go_wp2_with fail
                            go_roundg m1
                            case measure => omega
                            case rel => exact ⟨_, rfl, H, HBY9, kb_0_0⟩
                          | true =>
                            replace H := ite_t H
                            obtain rfl := ret_hid H
                            go_wp2_with fail
                            go_ret
                            exact ⟨rfl, HBY9.out⟩
        | true =>
          replace H := ite_t H
          obtain rfl := ret_hid H
          go_wp2_with fail
          go_ret
          exact ⟨rfl, HBY1.out⟩
      | true =>
        replace H := ite_t H
        replace H := app_hid H
        refine wp_region_quiet_below (by kernel_rfl) (by kernel_rfl) ?_
        repeat (go_big_quiet_step (fail))
        refine wpQuiet_nil ?_
        intro Y1 hY1
        replace hY1 := below_class hY1
        replace kb_0_0 := Hkb_0_0.out
        clear Hkb_0_0
        have HBY1 := Lib.hid (Below.step HBw_b_0.out hY1)
        replace kb_0_0 := cell_below hY1 kb_0_0
        clear hY1
        replace H := ite_t H
        obtain rfl := ret_hid H
        go_wp2_with fail
        go_ret
        exact ⟨rfl, HBY1.out⟩
    | true =>
      replace H := ite_t H
      replace H := app_hid H
      replace H := join_hid H
      replace H := ite_t H
      replace H := app_hid H
      refine wp_region_quiet_below (by kernel_rfl) (by kernel_rfl) ?_
      repeat (go_big_quiet_step (fail))
      refine wpQuiet_nil ?_
      intro Y1 hY1
      replace hY1 := below_class hY1
      replace kb_0_0 := Hkb_0_0.out
      clear Hkb_0_0
      have HBY1 := Lib.hid (Below.step HBw_b_0.out hY1)
      replace kb_0_0 := cell_below hY1 kb_0_0
      clear hY1
      replace H := ite_t H
      obtain rfl := ret_hid H
      go_wp2_with fail
      go_ret
      exact ⟨rfl, HBY1.out⟩
  | true =>
    replace H := ite_t H
    replace H := app_hid H
    replace H := join_hid H
    replace H := ite_t H
    replace H := app_hid H
    replace H := join_hid H
    replace H := ite_t H
    replace H := app_hid H
    refine wp_region_quiet_below (by kernel_rfl) (by kernel_rfl) ?_
    repeat (go_big_quiet_step (fail))
    refine wpQuiet_nil ?_
    intro Y1 hY1
    replace hY1 := below_class hY1
    replace kb_0_0 := Hkb_0_0.out
    clear Hkb_0_0
    have HBY1 := Lib.hid (Below.step HBw_b_0.out hY1)
    replace kb_0_0 := cell_below hY1 kb_0_0
    clear hY1
    replace H := ite_t H
    obtain rfl := ret_hid H
    go_wp2_with fail
    go_ret
    exact ⟨rfl, HBY1.out⟩
end Go.Proofs.Ythdmmoameoafmaa.GsL4Fits

