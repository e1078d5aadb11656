/- Texts on which the proofs of several laws stand, one behind the other (1 of 18). No condition of their own. -/
import Derived.Lib.Hide
import Derived.Below
import Derived.Laws.OwnMore
import Derived.Laws.World
import Derived.Deep.Draws
import Derived.Lib.QuietBelow
import Derived.Lib.Strings
import Derived.OwnWalk
import Derived.Laws.Strings3
import Derived.Laws.AppendOwnNone
import Derived.Laws.DeepStrings4
import Derived.Laws.Slices
import Derived.Deep.Slices
import Derived.Laws.MakeOwn
import Derived.Maps.AppendAt
import Derived.Lib.LaidU8
import Derived.WalkKit
import Derived.WalkSpells
import Derived.Test.YtgimcnpkngpmiaaChecked
import Derived.WalkLawsBesides
import Derived.BigQuiet
import Derived.Deep.LoopGhost
import Derived.Deep.QuietTactic
import Derived.IntWalk
/- Words in which a Go function is written as a plain function that either has an answer or has none (a panic, or a loop that does not end in time); and how such a sentence is taken apart. No condition. -/
namespace Go.Proofs.Ytgimcnpkngpmiaa.GoP
set_option linter.unusedVariables false
open Go.RowKit

def idx {α : Type} (l : List α) (i : Int) : Option α := if 0 ≤ i then l[i.toNat]? else none
def letK {α ρ : Type} (x : α) (f : α → Option ρ) : Option ρ := f x
def iteK {ρ : Type} (c : Bool) (a b : Option ρ) : Option ρ := match c with | true => a | false => b
def joinK {γ : Type} {ρ : Type} (rest : γ) (f : γ → Option ρ) : Option ρ := f rest
def appK {α ρ : Type} (j : α → Option ρ) (x : α) : Option ρ := j x
def guardK {ρ : Type} (p : Prop) [Decidable p] (a : Option ρ) : Option ρ := if p then a else none
def bind2 {α β ρ : Type} (x : Option (α × β)) (f : α → β → Option ρ) : Option ρ := match x with | none => none | some (a, b) => f a b
def bind3 {α β γ ρ : Type} (x : Option (α × β × γ)) (f : α → β → γ → Option ρ) : Option ρ := match x with | none => none | some (a, b, c) => f a b c
def bind4 {α β γ δ ρ : Type} (x : Option (α × β × γ × δ)) (f : α → β → γ → δ → Option ρ) : Option ρ := match x with | none => none | some (a, b, c, d) => f a b c d
def unp2 {α β ρ : Type} (s : α × β) (f : α → β → Option ρ) : Option ρ := f s.1 s.2
def unp3 {α β γ ρ : Type} (s : α × β × γ) (f : α → β → γ → Option ρ) : Option ρ := f s.1 s.2.1 s.2.2
def unp4 {α β γ δ ρ : Type} (s : α × β × γ × δ) (f : α → β → γ → δ → Option ρ) : Option ρ := f s.1 s.2.1 s.2.2.1 s.2.2.2
/-- m rounds, counted from k on -/
def cntK {σ ρ : Type} (f : Nat → σ → (σ → Option ρ) → (σ → Option ρ) → Option ρ) : Nat → Nat → σ → (σ → Option ρ) → Option ρ
  | 0, _, s, fin => fin s
  | m + 1, k, s, fin => f k s (fun s' => cntK f m (k + 1) s' fin) fin
/-- rounds until one ends the loop, n at most -/
def loopK {σ ρ : Type} (f : σ → (σ → Option ρ) → (σ → Option ρ) → Option ρ) : Nat → σ → (σ → Option ρ) → Option ρ
  | 0, _, _ => none
  | n + 1, s, fin => f s (fun s' => loopK f n s' fin) fin

theorem let_hid {α ρ : Type} {x : α} {f : α → Option ρ} {r : ρ} (H : Hid (letK x f = some r)) : ∃ y, x = y ∧ Hid (f y = some r) := ⟨x, rfl, H⟩
theorem bind_hid {α ρ : Type} {x : Option α} {f : α → Option ρ} {r : ρ} (H : Hid (x.bind f = some r)) : ∃ y, Hid (x = some y) ∧ Hid (f y = some r) := by
  have h : x.bind f = some r := H
  cases x with
  | none => simp at h
  | some y => exact ⟨y, rfl, h⟩
theorem bind2_hid {α β ρ : Type} {x : Option (α × β)} {f : α → β → Option ρ} {r : ρ} (H : Hid (bind2 x f = some r)) : ∃ a b, Hid (x = some (a, b)) ∧ Hid (f a b = some r) := by
  have h : bind2 x f = some r := H
  cases x with
  | none => simp [bind2] at h
  | some y => exact ⟨y.1, y.2, rfl, h⟩
theorem bind3_hid {α β γ ρ : Type} {x : Option (α × β × γ)} {f : α → β → γ → Option ρ} {r : ρ} (H : Hid (bind3 x f = some r)) : ∃ a b c, Hid (x = some (a, b, c)) ∧ Hid (f a b c = some r) := by
  have h : bind3 x f = some r := H
  cases x with
  | none => simp [bind3] at h
  | some y => exact ⟨y.1, y.2.1, y.2.2, rfl, h⟩
theorem ite_t {ρ : Type} {a b : Option ρ} {r : ρ} (H : Hid (iteK true a b = some r)) : Hid (a = some r) := H
theorem ite_f {ρ : Type} {a b : Option ρ} {r : ρ} (H : Hid (iteK false a b = some r)) : Hid (b = some r) := H
theorem join_hid {γ ρ : Type} {j : γ} {f : γ → Option ρ} {r : ρ} (H : Hid (joinK j f = some r)) : Hid (f j = some r) := H
theorem app_hid {α ρ : Type} {j : α → Option ρ} {x : α} {r : ρ} (H : Hid (appK j x = some r)) : Hid (j x = some r) := H
theorem guard_hid {ρ : Type} {p : Prop} [Decidable p] {a : Option ρ} {r : ρ} (H : Hid (guardK p a = some r)) : p ∧ Hid (a = some r) := by
  have h : guardK p a = some r := H
  unfold guardK at h
  by_cases hp : p
  · rw [if_pos hp] at h; exact ⟨hp, h⟩
  · rw [if_neg hp] at h; simp at h
theorem unp2_hid {α β ρ : Type} {a : α} {b : β} {f : α → β → Option ρ} {r : ρ} (H : Hid (unp2 (a, b) f = some r)) : Hid (f a b = some r) := H
theorem unp3_hid {α β γ ρ : Type} {a : α} {b : β} {c : γ} {f : α → β → γ → Option ρ} {r : ρ} (H : Hid (unp3 (a, b, c) f = some r)) : Hid (f a b c = some r) := H
theorem cnt_zero {σ ρ : Type} {f : Nat → σ → (σ → Option ρ) → (σ → Option ρ) → Option ρ} {k : Nat} {s : σ} {fin : σ → Option ρ} {r : ρ} (H : Hid (cntK f 0 k s fin = some r)) : Hid (fin s = some r) := H
theorem cnt_succ {σ ρ : Type} {f : Nat → σ → (σ → Option ρ) → (σ → Option ρ) → Option ρ} {m k : Nat} {s : σ} {fin : σ → Option ρ} {r : ρ} (H : Hid (cntK f (m + 1) k s fin = some r)) :
    Hid (f k s (fun s' => cntK f m (k + 1) s' fin) fin = some r) := H
theorem loop_zero {σ ρ : Type} {f : σ → (σ → Option ρ) → (σ → Option ρ) → Option ρ} {s : σ} {fin : σ → Option ρ} {r : ρ} (H : Hid (loopK f 0 s fin = some r)) : False := by
  have h : loopK f 0 s fin = some r := H
  simp [loopK] at h
theorem loop_succ {σ ρ : Type} {f : σ → (σ → Option ρ) → (σ → Option ρ) → Option ρ} {n : Nat} {s : σ} {fin : σ → Option ρ} {r : ρ} (H : Hid (loopK f (n + 1) s fin = some r)) :
    Hid (f s (fun s' => loopK f n s' fin) fin = some r) := H
theorem ret_hid {ρ : Type} {v r : ρ} (H : Hid (some v = some r)) : v = r := Option.some.inj H
theorem none_hid {ρ : Type} {r : ρ} (H : Hid ((none : Option ρ) = some r)) : False := by
  have h : (none : Option ρ) = some r := H
  simp at h
theorem idx_hid {α ρ : Type} {l : List α} {i : Int} {f : α → Option ρ} {r : ρ} (H : Hid ((idx l i).bind f = some r)) :
    ∃ (k : Nat) (x : α), i = (k : Int) ∧ k < l.length ∧ Hid (l[k]? = some x) ∧ Hid (f x = some r) := by
  have h : (idx l i).bind f = some r := H
  unfold idx at h
  by_cases hi : 0 ≤ i
  · rw [if_pos hi] at h
    cases hx : l[i.toNat]? with
    | none => rw [hx] at h; simp at h
    | some x =>
      rw [hx] at h
      exact ⟨i.toNat, x, (Int.toNat_of_nonneg hi).symm, (List.getElem?_eq_some_iff.1 hx).1, hx, h⟩
  · rw [if_neg hi] at h; simp at h
theorem idx_nat {α : Type} (l : List α) (k : Nat) : idx l (k : Int) = l[k]? := by unfold idx; rw [if_pos (by omega)]; simp
end Go.Proofs.Ytgimcnpkngpmiaa.GoP

/- Words for a slice that reads as a list of values, nil and empty let in; for slices of strings; and what becomes of them in later worlds. No condition. -/
namespace Go.Proofs.Ytgimcnpkngpmiaa.Rowed
set_option linter.unusedVariables false
open Go.RowKit

theorem add_block (a : Addr) (n : Nat) : (a.add n).block = a.block := by unfold Addr.add; split <;> rfl
theorem cell_lt {w : World} {a : Addr} {v : Value} (h : w.cell? a = some v) : a.block < w.heap.size := World.block_lt_of_cell? w a h
theorem cell_below {w w' : World} (hb : Below w.heap.size w w') {a : Addr} {v : Value} (hc : w.cell? a = some v) : w'.cell? a = some v := (hb.cell (cell_lt hc)).trans hc
theorem below_drewN (w : World) (m : Nat) : Below w.heap.size w (w.drewN m) := ⟨rfl, rfl, rfl, Nat.le_refl _, fun _ _ => rfl⟩
theorem Below.step {a b c : World} (h : Below a.heap.size a b) (k : Below b.heap.size b c) : Below a.heap.size a c := h.trans (k.mono h.size)

/-- the world has drawn, and nothing else has turned -/
def DrawnTo (w w' : World) : Prop := ∃ m, w' = w.drewN m
theorem DrawnTo.refl (w : World) : DrawnTo w w := ⟨0, rfl⟩
theorem DrawnTo.more {w w' : World} (h : DrawnTo w w') (n : Nat) : DrawnTo w (w'.drewN n) := let ⟨m, e⟩ := h; ⟨m + n, by rw [e, World.drewN_drewN]⟩
theorem DrawnTo.trans {a b c : World} (h : DrawnTo a b) (k : DrawnTo b c) : DrawnTo a c := by
  obtain ⟨m, rfl⟩ := h
  obtain ⟨n, rfl⟩ := k
  exact ⟨m + n, World.drewN_drewN ..⟩
theorem DrawnTo.cell {w w' : World} (h : DrawnTo w w') {a : Addr} {v : Value} (hc : w.cell? a = some v) : w'.cell? a = some v := by
  obtain ⟨m, rfl⟩ := h; exact hc
theorem DrawnTo.below {w w' : World} (h : DrawnTo w w') : Below w.heap.size w w' := by
  obtain ⟨m, rfl⟩ := h; exact below_drewN w m

/-- the slice 'A, n' reads as the cells xs (size cells each element) -/
def Cells (w : World) (size : Nat) (A : Option Addr) (n : Nat) (xs : List Value) : Prop :=
  xs.length = n * size ∧ (0 < xs.length → ∃ ad : Addr, A = some ad ∧ ∀ j u, xs[j]? = some u → w.cell? (ad.add j) = some u)

theorem Cells.below {w w' : World} {size n : Nat} {A : Option Addr} {xs : List Value} (h : Cells w size A n xs) (hb : Below w.heap.size w w') : Cells w' size A n xs :=
  ⟨h.1, fun hn => let ⟨ad, e, hc⟩ := h.2 hn; ⟨ad, e, fun j u hu => cell_below hb (hc j u hu)⟩⟩
theorem Cells.drewN {w : World} {size n : Nat} {A : Option Addr} {xs : List Value} (h : Cells w size A n xs) (m : Nat) : Cells (w.drewN m) size A n xs := h
theorem Cells.nil_ (w : World) (size : Nat) (A : Option Addr) : Cells w size A 0 [] := ⟨by simp, fun h => by simp at h⟩
theorem Cells.at_ {w : World} {n k : Nat} {A : Option Addr} {xs : List Value} (h : Cells w 1 A n xs) (hk : k < n) : ∃ ad u, A = some ad ∧ xs[k]? = some u ∧ w.cell? (ad.add k) = some u := by
  have hl : k < xs.length := by have := h.1; omega
  obtain ⟨ad, e, hc⟩ := h.2 (by omega)
  exact ⟨ad, xs[k], e, List.getElem?_eq_getElem hl, hc k _ (List.getElem?_eq_getElem hl)⟩
theorem Cells.of_own {w : World} {base size n c g : Nat} {e : TypeId} {xs : List Value} (h : w.ownsRow base e size (.slice (some ⟨g, 0, none⟩) n c) n xs) : Cells w size (some ⟨g, 0, none⟩) n xs :=
  ⟨h.1, fun _ => ⟨_, rfl, fun j u hu => h.cells (g := g) rfl j u hu⟩⟩

/-- a row that is filled from the left -/
def fill (a ys : List Value) (k : Nat) : List Value := a.take k ++ ys.drop k
/-- the slice 'A, n' reads as the strings l -/
def Strs (w : World) (A : Option Addr) (n : Nat) (l : List ByteArray) : Prop := Cells w 1 A n (l.map Value.string)
theorem Strs.len {w : World} {A : Option Addr} {n : Nat} {l : List ByteArray} (h : Strs w A n l) : l.length = n := by have := h.1; simpa using this
theorem Strs.below {w w' : World} {A : Option Addr} {n : Nat} {l : List ByteArray} (h : Strs w A n l) (hb : Below w.heap.size w w') : Strs w' A n l := Cells.below h hb
theorem Strs.at_ {w : World} {A : Option Addr} {n k : Nat} {l : List ByteArray} (h : Strs w A n l) (hk : k < n) : ∃ ad x, A = some ad ∧ l[k]? = some x ∧ w.cell? (ad.add k) = some (.string x) := by
  obtain ⟨ad, u, e, hx, hc⟩ := Cells.at_ h hk
  rw [List.getElem?_map] at hx
  cases hl : l[k]? with
  | none => rw [hl] at hx; simp at hx
  | some x => rw [hl] at hx; obtain rfl : Value.string x = u := by simpa using hx
              exact ⟨ad, x, e, rfl, hc⟩

end Go.Proofs.Ytgimcnpkngpmiaa.Rowed

/- Words on what may turn between two worlds: only the blocks of one span; and on rows that lie in a span of blocks, read or owned. No condition. -/
namespace Go.Proofs.Ytgimcnpkngpmiaa.Turn
set_option linter.unusedVariables false
open Go.RowKit
open Go.Proofs.Ytgimcnpkngpmiaa.Rowed

/-- of what was there, only blocks from lo on and below hi may have turned -/
structure Turned (lo hi : Nat) (w w' : World) : Prop where
  os : w'.os = w.os
  tape : w'.tape = w.tape
  output : w'.output = w.output
  size : w.heap.size ≤ w'.heap.size
  block : ∀ k, k < w.heap.size → ¬ (lo ≤ k ∧ k < hi) → w'.heap[k]? = w.heap[k]?
/-- the slice 'A, n' reads as the cells xs, and they lie in blocks from lo on and below hi -/
structure Rd (w : World) (size lo hi : Nat) (A : Option Addr) (n : Nat) (xs : List Value) : Prop where
  cells : Cells w size A n xs
  span : ∀ ad, A = some ad → 0 < xs.length → lo ≤ ad.block ∧ ad.block < hi
  top : hi ≤ w.heap.size
theorem Rd.below {w w' : World} {size lo hi n : Nat} {A : Option Addr} {xs : List Value} (h : Rd w size lo hi A n xs) (hb : Below w.heap.size w w') : Rd w' size lo hi A n xs :=
  ⟨h.cells.below hb, h.span, Nat.le_trans h.top hb.size⟩
theorem Rd.turned {w w' : World} {size lo hi a b n : Nat} {A : Option Addr} {xs : List Value} (h : Rd w size lo hi A n xs) (t : Turned a b w w') (hd : hi ≤ a ∨ b ≤ lo) : Rd w' size lo hi A n xs :=
  ⟨⟨h.cells.1, fun hn => by
    obtain ⟨ad, e, hc⟩ := h.cells.2 hn
    have hs := h.span ad e hn
    have ht := h.top
    exact ⟨ad, e, fun j u hu => (World.cell?_of_block (by rw [add_block]; exact t.block _ (by omega) (by omega))).trans (hc j u hu)⟩⟩, h.span, Nat.le_trans h.top t.size⟩
/-- cells that came in -/
theorem Rd.came {w : World} {size n : Nat} {A : Option Addr} {xs : List Value} (h : Cells w size A n xs) : Rd w size 0 w.heap.size A n xs :=
  ⟨h, fun ad e hn => by
    obtain ⟨ad', e', hc⟩ := h.2 hn
    obtain rfl : ad = ad' := by rw [e] at e'; exact Option.some.inj e'
    have h0 := cell_lt (hc 0 _ (List.getElem?_eq_getElem hn))
    rw [add_block] at h0
    exact ⟨Nat.zero_le _, h0⟩, Nat.le_refl _⟩

/-- the slice 'A, n, c' is a row of the call's own with the cells xs, in a block from lo on and below hi -/
structure Ow (w : World) (T : TypeId) (size lo hi : Nat) (A : Option Addr) (n c : Nat) (xs : List Value) : Prop where
  own : w.ownsRow lo T size (.slice A n c) n xs
  span : ∀ q, (Value.slice A n c).ownBlock = some q → q < hi
  top : hi ≤ w.heap.size
theorem Ow.of {w : World} {T : TypeId} {size lo n c : Nat} {A : Option Addr} {xs : List Value} (h : w.ownsRow lo T size (.slice A n c) n xs) : Ow w T size lo w.heap.size A n c xs :=
  ⟨h, fun q hq => (h.lt q hq).2, Nat.le_refl _⟩
theorem Ow.kept {w w' : World} {T : TypeId} {size lo hi a b n c : Nat} {A : Option Addr} {xs : List Value} (h : Ow w T size lo hi A n c xs) (t : Turned a b w w') (hd : hi ≤ a ∨ b ≤ lo) : w'.ownsRow lo T size (.slice A n c) n xs := by
  refine ⟨h.own.1, ?_⟩
  rcases h.own.2 with h0 | ⟨g, cap, cur, hv, hb, hh, rest⟩
  · exact .inl h0
  · have hg : g < hi := h.span g (by rw [hv]; rfl)
    have ht := h.top
    exact .inr ⟨g, cap, cur, hv, hb, (t.block g (by omega) (by omega)).trans hh, rest⟩
theorem Ow.turned {w w' : World} {T : TypeId} {size lo hi a b n c : Nat} {A : Option Addr} {xs : List Value} (h : Ow w T size lo hi A n c xs) (t : Turned a b w w') (hd : hi ≤ a ∨ b ≤ lo) : Ow w' T size lo hi A n c xs :=
  ⟨h.kept t hd, h.span, Nat.le_trans h.top t.size⟩
theorem Turned.of_below {w w' : World} (h : Below w.heap.size w w') : Turned 0 0 w w' := ⟨h.os, h.tape, h.output, h.size, fun k hk _ => h.block k hk⟩
theorem Ow.below {w w' : World} {T : TypeId} {size lo hi n c : Nat} {A : Option Addr} {xs : List Value} (h : Ow w T size lo hi A n c xs) (hb : Below w.heap.size w w') : Ow w' T size lo hi A n c xs :=
  h.turned (Turned.of_below hb) (.inr (Nat.zero_le _))
theorem own_cells {w : World} {base n c size : Nat} {A : Option Addr} {e : TypeId} {xs : List Value} (h : w.ownsRow base e size (.slice A n c) n xs) : Cells w size A n xs := by
  rcases h.2 with ⟨hv, h0⟩ | ⟨g, cap, cur, hv, _⟩
  · subst h0
    have := h.1
    exact ⟨this, fun hn => by rw [Nat.zero_mul] at this; omega⟩
  · injection hv with e1 e2 e3
    subst e1
    exact Cells.of_own h
theorem Ow.cells {w : World} {T : TypeId} {size lo hi n c : Nat} {A : Option Addr} {xs : List Value} (h : Ow w T size lo hi A n c xs) : Cells w size A n xs := own_cells h.own
theorem Ow.written {w w' : World} {T : TypeId} {size lo hi n c : Nat} {A : Option Addr} {xs ys : List Value} (h : Ow w T size lo hi A n c xs) (hs : w.heap.size ≤ w'.heap.size) (ho : w'.ownsRow lo T size (.slice A n c) n ys) : Ow w' T size lo hi A n c ys :=
  ⟨ho, h.span, Nat.le_trans h.top hs⟩

/-- the answer has no memory, and nothing has turned -/
def Gives (v : Value) (w : World) (e : Ending) (w' : World) : Prop := e = .returned v ∧ Below w.heap.size w w'
end Go.Proofs.Ytgimcnpkngpmiaa.Turn

/- Small words on types' facts, on classes of worlds, and on rows that are written. No condition. -/
namespace Go.Proofs.Ytgimcnpkngpmiaa.Aid
set_option linter.unusedVariables false
open Go.RowKit
open Go.Proofs.Ytgimcnpkngpmiaa.Rowed Go.Proofs.Ytgimcnpkngpmiaa.Turn

theorem info_parts {P : Program} {T : TypeId} {z : Value} {s b : Nat} (h : (P.info? T).map (fun i => (i.zero, i.size, i.bytes)) = some (some z, s, b)) : ∃ i, P.info? T = some i ∧ i.zero = some z ∧ i.size = s ∧ i.bytes = b := by
  cases hi : P.info? T with
  | none => rw [hi] at h; simp at h
  | some i => rw [hi] at h; simp at h; exact ⟨i, rfl, h.1, h.2.1, h.2.2⟩
theorem below_class {X Y : World} (h : ∃ p : Regrown, Y = Go.Sort.grow (redrawn X p.d) p.os) : Below X.heap.size X Y := by
  obtain ⟨⟨d, os⟩, rfl⟩ := h; exact below_regrown _ _ _
theorem grown_of {W W' : World} (h : Below W.heap.size W W') : W.grownBy W' none := ⟨h.os, h.tape, h.output, h.size, fun k hk _ => h.block k hk⟩
theorem grown_weak {W W' : World} (h : W.grownBy W' none) (g : Nat) : W.grownBy W' (some g) := ⟨h.os, h.tape, h.output, h.size, fun k hk _ => h.block k hk (by simp)⟩
theorem grown_tr {a b c : World} {r : Option Nat} (h : a.grownBy b r) (k : b.grownBy c r) : a.grownBy c r :=
  ⟨k.os.trans h.os, k.tape.trans h.tape, k.output.trans h.output, Nat.le_trans h.size k.size, fun i hi hr => (k.block i (Nat.lt_of_lt_of_le hi h.size) hr).trans (h.block i hi hr)⟩
theorem grown_refl (w : World) (r : Option Nat) : w.grownBy w r := ⟨rfl, rfl, rfl, Nat.le_refl _, fun _ _ _ => rfl⟩
end Go.Proofs.Ytgimcnpkngpmiaa.Aid

/- Words on memory for the contracts of plain functions. No condition. -/
namespace Go.Proofs.Ytgimcnpkngpmiaa.GoM
set_option linter.unusedVariables false
open Go.RowKit
open Go.Proofs.Ytgimcnpkngpmiaa.Rowed Go.Proofs.Ytgimcnpkngpmiaa.Turn

theorem box_new (w : World) (cs : List Value) (T : TypeId) (j : Nat) (u : Value) (h : cs[j]? = some u) : (w.alloc (.cells ⟨cs⟩ T)).cell? ⟨w.heap.size, j, none⟩ = some u := by
  have hb : (w.alloc (.cells ⟨cs⟩ T)).heap[w.heap.size]? = some (.cells ⟨cs⟩ T) := heap_alloc_new w _
  unfold World.cell?
  rw [hb]
  simpa using h
theorem size_list (s : ByteArray) : s.toList.length = s.size := by rw [Lib.toList_data]; rfl
theorem byte_rule {s : ByteArray} {n : Nat} {y : UInt8} (l : n < s.toList.length) (g : s.toList[n]? = some y) : ∀ h : n < s.size, s[n]'h = y := by
  intro h
  have e := List.getElem?_eq_getElem l
  rw [g] at e
  have := Option.some.inj e
  rw [this]
  simp [Lib.toList_data]
  rfl
theorem own_empty {w wc : World} {T K : Nat} (h : w.heap.size ≤ wc.heap.size) : (wc.alloc (.cells #[] T)).ownsRow w.heap.size T K (.slice (some ⟨wc.heap.size, 0, none⟩) 0 0) 0 [] :=
  ⟨by simp, .inr ⟨wc.heap.size, 0, #[], rfl, h, heap_alloc_new wc _, Nat.le_refl _, by unfold maxLen; omega, by simp, by simp⟩⟩
theorem own_laid {w wc : World} {T K n : Nat} {cs : List Value} {xs : List Value} (h : w.heap.size ≤ wc.heap.size) (hx : cs = xs) (hl : cs.length = n * K) (hn : n ≤ maxLen) : (wc.alloc (.cells ⟨cs⟩ T)).ownsRow w.heap.size T K (.slice (some ⟨wc.heap.size, 0, none⟩) n n) n xs := by
  subst hx
  exact ⟨hl, .inr ⟨wc.heap.size, n, ⟨cs⟩, rfl, h, heap_alloc_new wc _, Nat.le_refl _, hn, by simpa using hl, by rw [← hl]; simp⟩⟩
theorem add_flat (b o n : Nat) : (⟨b, o, none⟩ : Addr).add n = ⟨b, o + n, none⟩ := by
  unfold Addr.add; split
  · rename_i h; subst h; rfl
  · rfl
theorem strs_at {w : World} {A : Option Addr} {n k : Nat} {l : List ByteArray} (h : Cells w 1 A n (l.map Value.string)) (hk : k < n) : ∃ (b o : Nat) (x : ByteArray), A = some ⟨b, o, none⟩ ∧ l[k]? = some x ∧ w.cell? ⟨b, o + k, none⟩ = some (.string x) := by
  have hl : k < l.length := by have := h.1; rw [List.length_map] at this; omega
  obtain ⟨⟨b, o, sp⟩, e, hc⟩ := h.2 (by rw [List.length_map]; omega)
  have h0 := hc 0 (.string l[0]) (by rw [List.getElem?_map, List.getElem?_eq_getElem (show 0 < l.length by omega)]; rfl)
  obtain rfl : sp = none := cell_spot (b := b) (o := o) h0
  have hs := List.getElem?_eq_getElem hl
  have := hc k (.string l[k]) (by rw [List.getElem?_map, hs]; rfl)
  rw [add_flat] at this
  exact ⟨b, o, l[k], e, hs, this⟩
theorem own_nil {w : World} {b T K : Nat} : w.ownsRow b T K (.slice none 0 0) 0 [] := ⟨by simp, .inl ⟨rfl, rfl⟩⟩
theorem own_lower {w : World} {b base n size : Nat} {v : Value} {e : TypeId} {xs : List Value} (h : w.ownsRow base e size v n xs) (hb : b ≤ base) : w.ownsRow b e size v n xs :=
  ⟨h.1, by
    rcases h.2 with h0 | ⟨g, cap, cur, hv, hb', rest⟩
    · exact .inl h0
    · exact .inr ⟨g, cap, cur, hv, Nat.le_trans hb hb', rest⟩⟩
theorem own_below {w w' : World} {base n size : Nat} {v : Value} {e : TypeId} {xs : List Value} (h : w.ownsRow base e size v n xs) (hb : Below w.heap.size w w') : w'.ownsRow base e size v n xs :=
  h.kept (Aid.grown_of hb) (by cases v.ownBlock <;> simp)
theorem own_push {α : Type} {f : List α → List Value} {cx : List Value} {l t : List α} {x : α} {w' : World} {b T K : Nat} {v' : Value} {n : Nat} (ht : l ++ [x] = t) (hf : f (l ++ [x]) = f l ++ cx) (hn : l.length = n) (h : w'.ownsRow b T K v' (n + 1) (f l ++ cx)) :
    ∃ g cap, v' = .slice (some ⟨g, 0, none⟩) t.length cap ∧ w'.ownsRow b T K (.slice (some ⟨g, 0, none⟩) t.length cap) t.length (f t) := by
  subst ht
  subst hn
  have el : (l ++ [x]).length = l.length + 1 := by simp
  obtain ⟨g, cap, rfl⟩ : ∃ g cap, v' = .slice (some ⟨g, 0, none⟩) (l.length + 1) cap := by
    rcases h.2 with ⟨_, h⟩ | ⟨g3, cap3, _, h, _⟩
    · omega
    · exact ⟨g3, cap3, h⟩
  exact ⟨g, cap, by rw [el], by rw [el, hf]; exact h⟩
theorem news_new {w w2 : World} {cs : List Value} {T : TypeId} (h : w.alloc (.cells ⟨cs⟩ T) = w2) : ∀ j u, cs[j]? = some u → w2.cell? ((⟨w.heap.size, 0, none⟩ : Addr).add j) = some u := by
  intro j u hu
  subst h
  have : (⟨w.heap.size, 0, none⟩ : Addr).add j = ⟨w.heap.size, j, none⟩ := by
    unfold Addr.add; split
    · rename_i hj; subst hj; rfl
    · simp
  rw [this]
  exact box_new w cs T j u hu
theorem one_cells {l : List Value} (h : l.all (fun u => u.oneCell') = true) : ∀ u ∈ l, u.oneCell' = true := fun u hu => List.all_eq_true.1 h u hu
theorem cat_rule {P : Program} {a b c : ByteArray} (h : a ++ b = c) (hl : a.size + b.size ≤ maxLen) : ∀ W, (Op.stringOp .add a b).run P W = .ok (.string c) W := by
  intro W
  rw [run_string_add_sum]
  · subst h; rfl
  · unfold maxLen at hl; omega
theorem slice_both {P : Program} {t : TypeId} {s c : ByteArray} {k k' : IntKind} {i j : Int} (hu : P.underlying t = some .string) (h : s.extract i.toNat j.toNat = c) (hl : 0 ≤ i ∧ i ≤ j ∧ j ≤ (s.size : Int)) :
    ∀ W, (Instr.slice t (.string s) (some (.int k i)) (some (.int k' j)) none).run P W = .ok (.string c) W := by
  intro W
  rw [run_slice_string_if _ _ _ _ _ _ _ hu, if_pos ⟨by omega, hl.2.2⟩, if_pos ⟨hl.1, hl.2.1⟩, h]
theorem slice_from {P : Program} {t : TypeId} {s c : ByteArray} {k : IntKind} {i : Int} (hu : P.underlying t = some .string) (h : s.extract i.toNat s.size = c) (hl : 0 ≤ i ∧ i ≤ (s.size : Int)) :
    ∀ W, (Instr.slice t (.string s) (some (.int k i)) none none).run P W = .ok (.string c) W := by
  intro W
  rw [run_slice_string_from_if _ _ _ _ _ hu, if_pos hl, h]
theorem slice_to {P : Program} {t : TypeId} {s c : ByteArray} {k : IntKind} {j : Int} (hu : P.underlying t = some .string) (h : s.extract 0 j.toNat = c) (hl : 0 ≤ j ∧ j ≤ (s.size : Int)) :
    ∀ W, (Instr.slice t (.string s) none (some (.int k j)) none).run P W = .ok (.string c) W := by
  intro W
  rw [run_slice_string_to_if _ _ _ _ _ hu, if_pos hl, h]
/-- the walk stands here -/
def Stop (p : Prop) : Prop := p
theorem stop_in {p : Prop} (h : Stop p) : p := h
theorem stop_out {p : Prop} (h : p) : Stop p := h
/-- two rows lie in different blocks -/
def Apart (A B : Option Addr) : Prop := ∀ a b, A = some a → B = some b → a.block ≠ b.block
theorem Apart.symm {A B : Option Addr} (h : Apart A B) : Apart B A := fun a b ha hb e => h b a hb ha e.symm
theorem own_lt {w : World} {b T K n m c : Nat} {A : Option Addr} {xs : List Value} (h : w.ownsRow b T K (.slice A m c) n xs) (a : Addr) (ha : A = some a) : b ≤ a.block ∧ a.block < w.heap.size := by
  subst ha
  exact h.lt a.block rfl
theorem apart_fresh {w : World} {b T K n m c : Nat} {A : Option Addr} {xs : List Value} (h : w.ownsRow b T K (.slice A m c) n xs) : Apart (some ⟨w.heap.size, 0, none⟩) A := by
  intro a a' ha ha' e
  have := (own_lt h a' ha').2
  injection ha with ha
  subst ha
  simp at e
  omega
theorem apart_call {w w1 : World} {b T K n m c T' K' n' m' c' : Nat} {A B : Option Addr} {xs ys : List Value} (h1 : w1.ownsRow w.heap.size T K (.slice A m c) n xs) (h : w.ownsRow b T' K' (.slice B m' c') n' ys) : Apart A B := by
  intro a a' ha ha' e
  have := (own_lt h a' ha').2
  have := (own_lt h1 a ha).1
  omega
theorem apart_box {w : World} {g j : Nat} {v : Value} (h : w.cell? ⟨g, j, none⟩ = some v) : Apart (some ⟨w.heap.size, 0, none⟩) (some ⟨g, 0, none⟩) := by
  intro a a' ha ha' e
  have hl : g < w.heap.size := cell_lt h
  injection ha with ha
  injection ha' with ha'
  subst ha
  subst ha'
  simp at e
  omega
theorem apart_callbox {w w1 : World} {T K n m c g j : Nat} {A : Option Addr} {xs : List Value} {v : Value} (h1 : w1.ownsRow w.heap.size T K (.slice A m c) n xs) (h : w.cell? ⟨g, j, none⟩ = some v) : Apart A (some ⟨g, 0, none⟩) := by
  intro a a' ha ha' e
  have hl : g < w.heap.size := cell_lt h
  have := (own_lt h1 a ha).1
  injection ha' with ha'
  subst ha'
  simp at e
  omega
theorem apart_app {w : World} {n c n' c' : Nat} {A A' B : Option Addr} (hD : Apart A B) (hB : ∀ a, B = some a → a.block < w.heap.size) (h : (Value.slice A' n' c').ownBlock = (Value.slice A n c).ownBlock ∨ (Value.slice A' n' c').ownBlock = some w.heap.size) : Apart A' B := by
  intro a a' ha ha' e
  have hl := hB a' ha'
  subst ha
  rcases h with h | h
  · cases A with
    | none => simp [Value.ownBlock] at h
    | some x => simp only [Value.ownBlock, Option.some.injEq] at h; exact hD x a' rfl ha' (h ▸ e)
  · simp only [Value.ownBlock, Option.some.injEq] at h; omega
theorem own_other {w w' : World} {b T K n m c n' c' : Nat} {A B : Option Addr} {ys : List Value} (h : w.ownsRow b T K (.slice B m c) n ys) (hg : w.grownBy w' (Value.slice A n' c').ownBlock) (hD : Apart A B) : w'.ownsRow b T K (.slice B m c) n ys := by
  refine h.kept hg ?_
  cases B with
  | none => exact .inl rfl
  | some y =>
    refine .inr ?_
    cases A with
    | none => simp [Value.ownBlock]
    | some x => simp only [Value.ownBlock, ne_eq, Option.some.injEq]; exact fun e => hD x y rfl rfl e.symm
theorem cell_other {w w' : World} {n' c' : Nat} {A : Option Addr} {a : Addr} {v : Value} (h : w.cell? a = some v) (hg : w.grownBy w' (Value.slice A n' c').ownBlock) (hD : Apart A (some ⟨a.block, 0, none⟩)) : w'.cell? a = some v := by
  rw [World.cell?_of_block (hg.block a.block (cell_lt h) ?_)]
  · exact h
  · cases A with
    | none => simp [Value.ownBlock]
    | some x => simp only [Value.ownBlock, ne_eq, Option.some.injEq]; exact fun e => hD x _ rfl rfl e.symm
theorem apart_old {wr : World} {b T K n m c g : Nat} {A : Option Addr} {xs : List Value} (h : wr.ownsRow b T K (.slice A m c) n xs) (hg : g < b) : Apart A (some ⟨g, 0, none⟩) := by
  intro a a' ha ha' e
  have := (own_lt h a ha).1
  injection ha' with ha'
  subst ha'
  simp at e
  omega
theorem own_len {w : World} {b T K n m c : Nat} {A : Option Addr} {xs : List Value} (h : m = n) (hO : w.ownsRow b T K (.slice A n c) n xs) : w.ownsRow b T K (.slice A m c) m xs := by subst h; exact hO
theorem own_max {w : World} {b T K n c : Nat} {A : Option Addr} {xs : List Value} (h : w.ownsRow b T K (.slice A n c) n xs) : n ≤ 9223372036854775807 := by
  rcases h.2 with ⟨_, h0⟩ | ⟨g, cap, cur, hv, _, _, h1, h2, _⟩
  · omega
  · unfold maxLen at h2; omega
theorem grown_below {w wr w2 : World} {q : Option Nat} (h : w.grownBy wr q) (hb : Below wr.heap.size wr w2) : w.grownBy w2 q :=
  Aid.grown_tr h ⟨hb.os, hb.tape, hb.output, hb.size, fun k hk _ => hb.block k hk⟩
theorem own_some {w : World} {b T K n c : Nat} {A : Option Addr} {xs : List Value} (h : w.ownsRow b T K (.slice A n c) n xs) (hn : 0 < n) : ∃ g, A = some ⟨g, 0, none⟩ := by
  rcases h.2 with ⟨_, h0⟩ | ⟨g, cap, cur, hv, _⟩
  · omega
  · injection hv with e1; exact ⟨g, e1⟩
theorem own_stores {b T K n c g : Nat} (ps : List (Nat × Value)) : ∀ {w : World} {xs : List Value}, w.ownsRow b T K (.slice (some ⟨g, 0, none⟩) n c) n xs →
    (ps.foldl (fun w p => w.setCell ⟨g, p.1, none⟩ p.2) w).ownsRow b T K (.slice (some ⟨g, 0, none⟩) n c) n (ps.foldl (fun xs p => xs.set p.1 p.2) xs) ∧ w.grownBy (ps.foldl (fun w p => w.setCell ⟨g, p.1, none⟩ p.2) w) (some g) := by
  induction ps with
  | nil => intro w xs h; exact ⟨h, Aid.grown_refl _ _⟩
  | cons p ps ih =>
    intro w xs h
    have h1 := h.stored p.1 p.2
    have h2 := ih h1.1
    exact ⟨h2.1, Aid.grown_tr h1.2 h2.2⟩
theorem flat_set {α : Type} (f : α → List Value) (K : Nat) (hK : ∀ x, (f x).length = K) : ∀ (l : List α) (k j : Nat) (s1 s2 : α) (v : Value), k < l.length → j < K → (f s1).set j v = f s2 → ((l.set k s1).flatMap f).set (k * K + j) v = (l.set k s2).flatMap f := by
  intro l
  induction l with
  | nil => intro k j s1 s2 v hk; simp at hk
  | cons x l ih =>
    intro k j s1 s2 v hk hj hc
    cases k with
    | zero =>
      simp only [List.set_cons_zero, List.flatMap_cons, Nat.zero_mul, Nat.zero_add]
      rw [List.set_append_left _ _ (by rw [hK]; exact hj), hc]
    | succ k =>
      simp only [List.set_cons_succ, List.flatMap_cons]
      rw [List.set_append_right _ _ (by rw [hK, Nat.add_mul]; omega), hK, show (k + 1) * K + j - K = k * K + j by rw [Nat.add_mul]; omega, ih k j s1 s2 v (by simpa using hk) hj hc]
theorem set_self {α : Type} {l : List α} {k : Nat} {x : α} (h : l[k]? = some x) : l.set k x = l := by
  obtain ⟨hk, e⟩ := List.getElem?_eq_some_iff.1 h
  rw [← e]; simp
theorem made_flat {α : Type} (f : α → List Value) (x0 : α) (z : Value) (K n : Nat) (hz : z.cells.toList = f x0) (hK : z.cells.size = K) (hp : 0 < K) : (madeCells z.cells (n * K)).toList = (List.replicate n x0).flatMap f := by
  have hl : (f x0).length = K := by rw [← hz, ← hK]; simp
  have hr : ∀ n, (List.range (n * K)).map (fun i => z.cells[i % z.cells.size]!) = (List.replicate n x0).flatMap f := by
    intro n
    induction n with
    | zero => simp
    | succ n ih =>
      rw [List.replicate_succ', List.flatMap_append, ← ih, Nat.add_mul, Nat.one_mul, List.range_add, List.map_append]
      congr 1
      simp only [List.map_map, List.flatMap_cons, List.flatMap_nil, List.append_nil]
      apply List.ext_getElem
      · simp [hl]
      · intro i h1 h2
        have hi : i < K := by simpa using h1
        simp only [List.getElem_map, List.getElem_range, Function.comp]
        rw [hK, Nat.add_comm, Nat.add_mul_mod_self_right, Nat.mod_eq_of_lt hi]
        have h3 : i < z.cells.size := by omega
        rw [getElem!_pos z.cells i h3]
        have : z.cells.toList[i]'(by simpa using h3) = z.cells[i] := by simp
        rw [← this]
        congr 1
  unfold madeCells
  rw [← hr n]
  simp
/-- a row is no longer than its room; nil has none -/
def Room (A : Option Addr) (n c : Nat) : Prop := n ≤ c ∧ (A = none → c = 0)
theorem own_room {w : World} {b T K n c : Nat} {A : Option Addr} {xs : List Value} (h : w.ownsRow b T K (.slice A n c) n xs) : Room A n c := by
  rcases h.2 with ⟨h1, h2⟩ | ⟨g, cap, cur, h1, _, _, hr, _⟩
  · simp only [Value.slice.injEq] at h1
    exact ⟨by omega, fun _ => by omega⟩
  · simp only [Value.slice.injEq] at h1
    exact ⟨by omega, fun e => by rw [h1.1] at e; simp at e⟩
theorem flat_drop {α : Type} (f : α → List Value) (K : Nat) (hK : ∀ x, (f x).length = K) : ∀ (l : List α) (j : Nat), (l.flatMap f).drop (j * K) = (l.drop j).flatMap f := by
  intro l
  induction l with
  | nil => intro j; simp
  | cons x l ih =>
    intro j
    cases j with
    | zero => simp
    | succ j =>
      have e : (j + 1) * K = (f x).length + j * K := by rw [hK x, Nat.add_mul]; omega
      rw [List.flatMap_cons, e, List.drop_append, List.drop_of_length_le (by omega), List.drop_succ_cons, ← ih j]
      simp
/-- s[lo:] of a row that came in -/
theorem slice_tail {P : Program} {t e : TypeId} {i : TypeInfo} {k : IntKind} {K n c : Nat} {A : Option Addr} {lo : Int} {w : World} {xs ys : List Value} {m : Nat}
    (ht : P.underlying t = some (.slice (P.elem t))) (he : P.elem t = e) (hi : P.info? e = some i) (hs : i.size = K) (hc : Cells w K A n xs) (hR : Room A n c) (hl : 0 ≤ lo ∧ lo ≤ (n : Int)) (hm : n - lo.toNat = m) (hd : xs.drop (lo.toNat * K) = ys) :
    ∃ A' c', (∀ W, (Instr.slice t (.slice A n c) (some (.int k lo)) none none).run P W = .ok (.slice A' m c') W) ∧ Cells w K A' m ys ∧ Room A' m c' := by
  subst hm; subst hd
  have hr := hR.1
  have hsz : ∀ W, (sizeOf (P.elem t)).run P W = .ok K W := by intro W; subst he; simp [sizeOf, typeInfo, hi, hs]
  refine ⟨if c = lo.toNat then A else A.map (·.add (lo.toNat * K)), c - lo.toNat, ?_, ?_, ⟨by omega, fun e => by
    have : A = none := by
      by_cases h : c = lo.toNat
      · rw [if_pos h] at e; exact e
      · rw [if_neg h] at e; simpa using e
    have := hR.2 this; omega⟩⟩
  · intro W
    rw [run_slice_l (P := P) W t A n c ht k lo hl.1 hl.2, hsz W]
    rfl
  · refine ⟨by rw [List.length_drop, hc.1, Nat.sub_mul], fun h0 => ?_⟩
    rw [List.length_drop] at h0
    obtain ⟨ad, rfl, h⟩ := hc.2 (by omega)
    have h1 := hc.1
    have hne : ¬ c = lo.toNat := by
      intro e2
      have : n = lo.toNat := by omega
      rw [h1, this] at h0; omega
    refine ⟨ad.add (lo.toNat * K), by rw [if_neg hne]; rfl, fun j u hu => ?_⟩
    rw [List.getElem?_drop] at hu
    have := h _ u hu
    rwa [Go.Deep.add_add]
theorem flat_take {α : Type} (f : α → List Value) (K : Nat) (hK : ∀ x, (f x).length = K) : ∀ (l : List α) (j : Nat), (l.flatMap f).take (j * K) = (l.take j).flatMap f := by
  intro l
  induction l with
  | nil => intro j; simp
  | cons x l ih =>
    intro j
    cases j with
    | zero => simp
    | succ j =>
      have e : (j + 1) * K = (f x).length + j * K := by rw [hK x, Nat.add_mul]; omega
      rw [List.flatMap_cons, e, List.take_append, List.take_of_length_le (by omega), List.take_succ_cons, List.flatMap_cons, ← ih j]
      simp
/-- s[:hi] of a row of its own -/
theorem slice_head {P : Program} {t e : TypeId} {i : TypeInfo} {k : IntKind} {K n c b : Nat} {A : Option Addr} {hi : Int} {w : World} {xs ys : List Value} {m : Nat}
    (ht : P.underlying t = some (.slice (P.elem t))) (he : P.elem t = e) (hi_ : P.info? e = some i) (hs : i.size = K) (h : w.ownsRow b e K (.slice A n c) n xs) (hl : 0 ≤ hi ∧ hi ≤ (n : Int)) (hm : hi.toNat = m) (hd : xs.take (hi.toNat * K) = ys) :
    (∀ W, (Instr.slice t (.slice A n c) none (some (.int k hi)) none).run P W = .ok (.slice A m c) W) ∧ w.ownsRow b e K (.slice A m c) m ys := by
  subst hm; subst hd
  have hR := own_room h
  have hsz : ∀ W, (sizeOf (P.elem t)).run P W = .ok K W := by intro W; subst he; simp [sizeOf, typeInfo, hi_, hs]
  have hz : ∀ a : Addr, a.add 0 = a := by intro a; unfold Addr.add; simp
  refine ⟨fun W => ?_, ?_, ?_⟩
  · rw [run_slice_h (P := P) W t A n c ht k hi hl.1 (by have := hR.1; omega), hsz W]
    cases A <;> simp [Result.andThen, sliced, hz]
  · rw [List.length_take, h.1]
    exact Nat.min_eq_left (Nat.mul_le_mul_right K (by omega))
  · rcases h.2 with ⟨h1, h2⟩ | ⟨g, cap, cur, h1, h2, h3, h4, h5, h6, h7⟩
    · simp only [Value.slice.injEq] at h1
      left
      have : hi.toNat = 0 := by omega
      exact ⟨by rw [h1.1, h1.2.2, this], this⟩
    · simp only [Value.slice.injEq] at h1
      right
      refine ⟨g, cap, cur, by rw [h1.1, h1.2.2], h2, h3, by omega, h5, h6, ?_⟩
      rw [← h7, List.take_take, Nat.min_eq_left (Nat.mul_le_mul_right K (by omega))]
/-- append(a, b...) onto a row of its own -/
theorem append_spread {P : Program} {w : World} {ops : Array Oper} {rest : List Oper} {o : Oper} {a : Act} {Q : Exit → Act → World → Prop} (hgd : o.guard = none) (s x : Operand) (t : TypeId)
    (ho : o.op = .call { callee := .builtin .append, args := #[s, x], argTypes := #[t, t] })
    (base : Nat) (e : TypeId) (i : TypeInfo) (z : Value) (size bytes : Nat) (ht : P.underlying t = some (.slice e)) (hi : P.info? e = some i) (hz : i.zero = some z)
    (hsize : i.size = size) (hby : i.bytes = bytes) (hzs : z.cells.size = size) (hsz : 0 < size)
    (A1 : Option Addr) (c1 n : Nat) (xs : List Value) (hs : a.eval s = .slice A1 n c1) (hown : w.ownsRow base e size (.slice A1 n c1) n xs)
    (A : Option Addr) (m c : Nat) (news : List Value) (hx : a.eval x = .slice A m c) (hN : Room A m c) (hc : Cells w size A m news) (h1 : ∀ u ∈ news, u.oneCell' = true)
    (h63 : n + m ≤ maxLen) (hbytes : (n + m) * bytes ≤ 140737488355328) (hbase : base ≤ w.heap.size)
    (h : ∀ v' w', w'.ownsRow base e size v' (n + m) (xs ++ news) → w.grownBy w' (Value.slice A1 n c1).ownBlock → (v'.ownBlock = (Value.slice A1 n c1).ownBlock ∨ v'.ownBlock = some w.heap.size) → wpList P ops Q rest (a.put o.dst v') w') :
    wpList P ops Q (o :: rest) a w := by
  cases A with
  | some ad =>
    refine wpList_append_own_at w hgd s x t ho base e i z size bytes ht hi hz hsize hby hzs hsz _ n xs hs hown ad m c news hx hc.1 (fun j u hu => ?_) h1 h63 hbytes hbase (fun v' w' o1 g1 _ y1 => h v' w' o1 g1 y1)
    obtain ⟨ad', e', hcell⟩ := hc.2 (by have := (List.getElem?_eq_some_iff.1 hu).1; omega)
    obtain rfl : ad = ad' := Option.some.inj e'
    exact hcell j u hu
  | none =>
    have hm : m = 0 := by
      cases news with
      | nil =>
        have h0 : ([] : List Value).length = m * size := hc.1
        rw [List.length_nil] at h0
        rcases Nat.mul_eq_zero.1 h0.symm with h1 | h1 <;> omega
      | cons y l => obtain ⟨ad, e', _⟩ := hc.2 (by simp); simp at e'
    obtain rfl : c = 0 := hN.2 rfl
    subst hm
    have hn : news = [] := List.eq_nil_of_length_eq_zero (by have := hc.1; simpa using this)
    subst hn
    refine Go.wpList_append_own_none hgd s x t ho base e i size ht hi _ n xs hs hown hx ?_
    exact h _ w (by simpa using hown) (World.grownBy.refl w _) (.inl rfl)
theorem own_pushS {α : Type} {f : List α → List Value} {l b t : List α} {w' : World} {bs T K : Nat} {v' : Value} {n : Nat} (ht : l ++ b = t) (hf : f (l ++ b) = f l ++ f b) (hn : l.length = n) (h : w'.ownsRow bs T K v' (n + b.length) (f l ++ f b)) :
    ∃ A cap, v' = .slice A t.length cap ∧ w'.ownsRow bs T K (.slice A t.length cap) t.length (f t) := by
  subst ht
  subst hn
  rw [← List.length_append, ← hf] at h
  rcases h.2 with ⟨h1, h2⟩ | ⟨g3, cap3, _, h2, _⟩
  · have hv : v' = .slice none (l ++ b).length 0 := by rw [h1, h2]
    exact ⟨none, 0, hv, hv ▸ h⟩
  · exact ⟨_, _, h2, h2 ▸ h⟩
/-- w' is w but for two rows and for new blocks -/
structure Grown2 (w w' : World) (A1 A2 : Option Addr) : Prop where
  os : w'.os = w.os
  tape : w'.tape = w.tape
  output : w'.output = w.output
  size : w.heap.size ≤ w'.heap.size
  block : ∀ k, k < w.heap.size → (∀ a, A1 = some a → a.block ≠ k) → (∀ a, A2 = some a → a.block ≠ k) → w'.heap[k]? = w.heap[k]?
end Go.Proofs.Ytgimcnpkngpmiaa.GoM

/- Plain words on the record Postmark: its fields, its cells, a list of it as cells one after the other. No condition. -/
namespace Go.Proofs.Ytgimcnpkngpmiaa.PPostmark
set_option linter.unusedVariables false
set_option maxRecDepth 100000

structure Postmark where
  id : Int
  town : ByteArray
  kind_ : Int
  first : Int
  last : Int
  lost : ByteArray
def Postmark.cells (s : Postmark) : List Value := [.int .i64 s.id, .string s.town, .int .i64 s.kind_, .int .i64 s.first, .int .i64 s.last, .string s.lost]
def Postmark.val (s : Postmark) : Value := .agg #[.int .i64 s.id, .string s.town, .int .i64 s.kind_, .int .i64 s.first, .int .i64 s.last, .string s.lost]
/-- each field fits -/
def Postmark.fits (s : Postmark) : Prop := (Lit.int .i64 s.id).wf = true ∧ s.town.size ≤ maxLen ∧ (Lit.int .i64 s.kind_).wf = true ∧ (Lit.int .i64 s.first).wf = true ∧ (Lit.int .i64 s.last).wf = true ∧ s.lost.size ≤ maxLen
def zero : Postmark := ⟨0, ByteArray.empty, 0, 0, 0, ByteArray.empty⟩
/-- the letters of its texts -/
def Postmark.wt (s : Postmark) : Nat := s.town.size + s.lost.size
def wts (l : List Postmark) : Nat := (l.map Postmark.wt).sum
/-- the cells of a list of records, one after the other -/
def flat (l : List Postmark) : List Value := l.flatMap Postmark.cells
theorem flat_nil : flat [] = [] := rfl
theorem flat_cons (s : Postmark) (l : List Postmark) : flat (s :: l) = s.cells ++ flat l := by simp [flat]
theorem flat_len (l : List Postmark) : (flat l).length = l.length * 6 := by
  induction l with
  | nil => rfl
  | cons s l ih => rw [flat_cons, List.length_append, ih]; simp [Postmark.cells]; omega
theorem flat_at : ∀ (l : List Postmark) (k : Nat) (s : Postmark), l[k]? = some s → ∀ j, j < 6 → (flat l)[k * 6 + j]? = s.cells[j]?
  | [], k, s, h, _, _ => by simp at h
  | r :: l, 0, s, h, j, hj => by
    obtain rfl : r = s := by simpa using h
    rw [flat_cons, List.getElem?_append_left (by simp [Postmark.cells]; omega)]; simp
  | r :: l, k + 1, s, h, j, hj => by
    rw [flat_cons, List.getElem?_append_right (by simp [Postmark.cells]; omega), show (k + 1) * 6 + j - r.cells.length = k * 6 + j by simp [Postmark.cells]; omega]
    exact flat_at l k s (by simpa using h) j hj
end Go.Proofs.Ytgimcnpkngpmiaa.PPostmark

/- A record Postmark opened into its fields. No condition. -/
namespace Go.Proofs.Ytgimcnpkngpmiaa.GoP
set_option linter.unusedVariables false
open Go.RowKit
def unPostmark {ρ : Type} (s : Go.Proofs.Ytgimcnpkngpmiaa.PPostmark.Postmark) (f : Int → ByteArray → Int → Int → Int → ByteArray → Option ρ) : Option ρ := f s.id s.town s.kind_ s.first s.last s.lost
theorem unPostmark_hid {ρ : Type} {x0 : Int} {x1 : ByteArray} {x2 : Int} {x3 : Int} {x4 : Int} {x5 : ByteArray} {f : Int → ByteArray → Int → Int → Int → ByteArray → Option ρ} {r : ρ} (H : Hid (unPostmark ⟨x0, x1, x2, x3, x4, x5⟩ f = some r)) : Hid (f x0 x1 x2 x3 x4 x5 = some r) := H
end Go.Proofs.Ytgimcnpkngpmiaa.GoP

/- loop.example/g01062/laws.szPostmark as a plain function, and the contract of the program's: where the plain one has an answer, the program has it. Conditions: slices read as lists. -/
namespace Go.Proofs.Ytgimcnpkngpmiaa.GlSzPostmark
set_option linter.unusedVariables false
set_option linter.unusedSimpArgs false
open Go.RowKit
open Go.Proofs.Ytgimcnpkngpmiaa.Rowed Go.Proofs.Ytgimcnpkngpmiaa.Turn Go.Proofs.Ytgimcnpkngpmiaa.Aid Go.Proofs.Ytgimcnpkngpmiaa.GoP Go.Proofs.Ytgimcnpkngpmiaa.GoM

def P (a : Go.Proofs.Ytgimcnpkngpmiaa.PPostmark.Postmark) (left : Int) : Option (Int) :=
  unPostmark a fun (a_id : Int) (a_town : ByteArray) (a_kind_ : Int) (a_first : Int) (a_last : Int) (a_lost : ByteArray) =>
  letK (IntKind.i64.wrap (left - (a_town.size : Int))) fun (t_6 : Int) =>
  letK (decide (t_6 < 0)) fun (t_9 : Bool) =>
  iteK t_9
  (some (-1))
  (letK (IntKind.i64.wrap (t_6 - (a_lost.size : Int))) fun (t_15 : Int) =>
  letK (decide (t_15 < 0)) fun (t_18 : Bool) =>
  iteK t_18
  (some (-1))
  (some t_15))

set_option maxRecDepth 100000 in
set_option maxHeartbeats 2000000 in
theorem C (a : Go.Proofs.Ytgimcnpkngpmiaa.PPostmark.Postmark) (left : Int)   (w : World)   {r : Int} (H : Hid (P a left = some r)) :
    Calls Try.prog 12 #[a.val, .int .i64 left] w (Gives (.int .i64 r) w) := by
  have HB := Lib.hid (Below.refl w.heap.size w)
  unfold P at H
  obtain ⟨a_id, a_town, a_kind_, a_first, a_last, a_lost⟩ := a
  replace H := unPostmark_hid H
  unfold Go.Proofs.Ytgimcnpkngpmiaa.PPostmark.Postmark.val
  go_enter Try.func12, Try.ntmps12
  obtain ⟨w_a_0, hw_a_0⟩ : ∃ x, w.alloc (.cells #[.int .i64 a_id, .string a_town, .int .i64 a_kind_, .int .i64 a_first, .int .i64 a_last, .string a_lost] 23) = x := ⟨_, rfl⟩
  have bw_a_0 : Below w.heap.size w w_a_0 := by rw [← hw_a_0]; exact (Below.refl _ _).alloc (Nat.le_refl _) _
  have HBw_a_0 := Lib.hid (Below.step HB.out bw_a_0)
  clear bw_a_0
  have ka_0_0 : w_a_0.cell? ⟨w.heap.size, 0, none⟩ = some (.int .i64 a_id) := by rw [← hw_a_0]; exact box_new _ _ _ 0 _ rfl
  have ka_0_1 : w_a_0.cell? ⟨w.heap.size, 1, none⟩ = some (.string a_town) := by rw [← hw_a_0]; exact box_new _ _ _ 1 _ rfl
  have ka_0_2 : w_a_0.cell? ⟨w.heap.size, 2, none⟩ = some (.int .i64 a_kind_) := by rw [← hw_a_0]; exact box_new _ _ _ 2 _ rfl
  have ka_0_3 : w_a_0.cell? ⟨w.heap.size, 3, none⟩ = some (.int .i64 a_first) := by rw [← hw_a_0]; exact box_new _ _ _ 3 _ rfl
  have ka_0_4 : w_a_0.cell? ⟨w.heap.size, 4, none⟩ = some (.int .i64 a_last) := by rw [← hw_a_0]; exact box_new _ _ _ 4 _ rfl
  have ka_0_5 : w_a_0.cell? ⟨w.heap.size, 5, none⟩ = some (.string a_lost) := by rw [← hw_a_0]; exact box_new _ _ _ 5 _ rfl
  replace H := let_hid H
  obtain ⟨t_6, ht_6, H⟩ := H
  replace H := let_hid H
  obtain ⟨t_9, ht_9, H⟩ := H
  cases t_9 with
  | false =>
    replace H := ite_f H
    replace H := let_hid H
    obtain ⟨t_15, ht_15, H⟩ := H
    replace H := let_hid H
    obtain ⟨t_18, ht_18, H⟩ := H
    cases t_18 with
    | false =>
      replace H := ite_f H
      obtain rfl := ret_hid H
      go_wp2_with fail
      go_ret
      exact ⟨rfl, HBw_a_0.out⟩
    | true =>
      replace H := ite_t H
      obtain rfl := ret_hid H
      go_wp2_with fail
      go_ret
      exact ⟨rfl, HBw_a_0.out⟩
  | true =>
    replace H := ite_t H
    obtain rfl := ret_hid H
    go_wp2_with fail
    go_ret
    exact ⟨rfl, HBw_a_0.out⟩
end Go.Proofs.Ytgimcnpkngpmiaa.GlSzPostmark

/- loop.example/g01062/laws.toPostmark as a plain function, and the contract of the program's: where the plain one has an answer, the program has it. Conditions: slices read as lists. -/
namespace Go.Proofs.Ytgimcnpkngpmiaa.GlToPostmark
set_option linter.unusedVariables false
set_option linter.unusedSimpArgs false
open Go.RowKit
open Go.Proofs.Ytgimcnpkngpmiaa.Rowed Go.Proofs.Ytgimcnpkngpmiaa.Turn Go.Proofs.Ytgimcnpkngpmiaa.Aid Go.Proofs.Ytgimcnpkngpmiaa.GoP Go.Proofs.Ytgimcnpkngpmiaa.GoM

def P (a : Go.Proofs.Ytgimcnpkngpmiaa.PPostmark.Postmark) : Option (Go.Proofs.Ytgimcnpkngpmiaa.PPostmark.Postmark) :=
  unPostmark a fun (a_id : Int) (a_town : ByteArray) (a_kind_ : Int) (a_first : Int) (a_last : Int) (a_lost : ByteArray) =>
  some (Go.Proofs.Ytgimcnpkngpmiaa.PPostmark.Postmark.mk a_id a_town a_kind_ a_first a_last a_lost)

set_option maxRecDepth 100000 in
set_option maxHeartbeats 2000000 in
theorem C (a : Go.Proofs.Ytgimcnpkngpmiaa.PPostmark.Postmark)   (w : World)   {r : Go.Proofs.Ytgimcnpkngpmiaa.PPostmark.Postmark} (H : Hid (P a = some r)) :
    Calls Try.prog 14 #[a.val] w (Gives ((Go.Proofs.Ytgimcnpkngpmiaa.PPostmark.Postmark.val r)) w) := by
  have HB := Lib.hid (Below.refl w.heap.size w)
  unfold P at H
  obtain ⟨a_id, a_town, a_kind_, a_first, a_last, a_lost⟩ := a
  replace H := unPostmark_hid H
  unfold Go.Proofs.Ytgimcnpkngpmiaa.PPostmark.Postmark.val
  go_enter Try.func14, Try.ntmps14
  obtain ⟨w_a_0, hw_a_0⟩ : ∃ x, w.alloc (.cells #[.int .i64 a_id, .string a_town, .int .i64 a_kind_, .int .i64 a_first, .int .i64 a_last, .string a_lost] 23) = x := ⟨_, rfl⟩
  have bw_a_0 : Below w.heap.size w w_a_0 := by rw [← hw_a_0]; exact (Below.refl _ _).alloc (Nat.le_refl _) _
  have HBw_a_0 := Lib.hid (Below.step HB.out bw_a_0)
  clear bw_a_0
  have ka_0_0 : w_a_0.cell? ⟨w.heap.size, 0, none⟩ = some (.int .i64 a_id) := by rw [← hw_a_0]; exact box_new _ _ _ 0 _ rfl
  have ka_0_1 : w_a_0.cell? ⟨w.heap.size, 1, none⟩ = some (.string a_town) := by rw [← hw_a_0]; exact box_new _ _ _ 1 _ rfl
  have ka_0_2 : w_a_0.cell? ⟨w.heap.size, 2, none⟩ = some (.int .i64 a_kind_) := by rw [← hw_a_0]; exact box_new _ _ _ 2 _ rfl
  have ka_0_3 : w_a_0.cell? ⟨w.heap.size, 3, none⟩ = some (.int .i64 a_first) := by rw [← hw_a_0]; exact box_new _ _ _ 3 _ rfl
  have ka_0_4 : w_a_0.cell? ⟨w.heap.size, 4, none⟩ = some (.int .i64 a_last) := by rw [← hw_a_0]; exact box_new _ _ _ 4 _ rfl
  have ka_0_5 : w_a_0.cell? ⟨w.heap.size, 5, none⟩ = some (.string a_lost) := by rw [← hw_a_0]; exact box_new _ _ _ 5 _ rfl
  obtain ⟨w_t_1, hw_t_1⟩ : ∃ x, w_a_0.alloc (.cells #[.int .i64 0, .string (⟨#[]⟩ : ByteArray), .int .i64 0, .int .i64 0, .int .i64 0, .string (⟨#[]⟩ : ByteArray)] 26) = x := ⟨_, rfl⟩
  have bw_t_1 : Below w_a_0.heap.size w_a_0 w_t_1 := by rw [← hw_t_1]; exact (Below.refl _ _).alloc (Nat.le_refl _) _
  have Dt_1_a_0 := Lib.hid (apart_box ka_0_0)
  have HBw_t_1 := Lib.hid (Below.step HBw_a_0.out bw_t_1)
  have ka_0_0__1 := cell_below bw_t_1 ka_0_0
  have ka_0_1__2 := cell_below bw_t_1 ka_0_1
  have ka_0_2__3 := cell_below bw_t_1 ka_0_2
  have ka_0_3__4 := cell_below bw_t_1 ka_0_3
  have ka_0_4__5 := cell_below bw_t_1 ka_0_4
  have ka_0_5__6 := cell_below bw_t_1 ka_0_5
  clear bw_t_1
  have kt_1_0 : w_t_1.cell? ⟨w_a_0.heap.size, 0, none⟩ = some (.int .i64 0) := by rw [← hw_t_1]; exact box_new _ _ _ 0 _ rfl
  have kt_1_1 : w_t_1.cell? ⟨w_a_0.heap.size, 1, none⟩ = some (.string (⟨#[]⟩ : ByteArray)) := by rw [← hw_t_1]; exact box_new _ _ _ 1 _ rfl
  have kt_1_2 : w_t_1.cell? ⟨w_a_0.heap.size, 2, none⟩ = some (.int .i64 0) := by rw [← hw_t_1]; exact box_new _ _ _ 2 _ rfl
  have kt_1_3 : w_t_1.cell? ⟨w_a_0.heap.size, 3, none⟩ = some (.int .i64 0) := by rw [← hw_t_1]; exact box_new _ _ _ 3 _ rfl
  have kt_1_4 : w_t_1.cell? ⟨w_a_0.heap.size, 4, none⟩ = some (.int .i64 0) := by rw [← hw_t_1]; exact box_new _ _ _ 4 _ rfl
  have kt_1_5 : w_t_1.cell? ⟨w_a_0.heap.size, 5, none⟩ = some (.string (⟨#[]⟩ : ByteArray)) := by rw [← hw_t_1]; exact box_new _ _ _ 5 _ rfl
  have Ot_1 : Hid (w_t_1.ownsRow w.heap.size 26 6 (.slice (some ⟨w_a_0.heap.size, 0, none⟩) 1 1) 1 [.int .i64 0, .string (⟨#[]⟩ : ByteArray), .int .i64 0, .int .i64 0, .int .i64 0, .string (⟨#[]⟩ : ByteArray)]) := Lib.hid (by rw [← hw_t_1]; exact own_laid (n := 1) HBw_a_0.out.size rfl rfl (by unfold maxLen; omega))
  obtain ⟨w_out_2, hw_out_2⟩ : ∃ x, w_t_1.alloc (.cells #[.int .i64 0, .string (⟨#[]⟩ : ByteArray), .int .i64 0, .int .i64 0, .int .i64 0, .string (⟨#[]⟩ : ByteArray)] 26) = x := ⟨_, rfl⟩
  have bw_out_2 : Below w_t_1.heap.size w_t_1 w_out_2 := by rw [← hw_out_2]; exact (Below.refl _ _).alloc (Nat.le_refl _) _
  have Dout_2_a_0 := Lib.hid (apart_box ka_0_0__1)
  have Dout_2_t_1 := Lib.hid (apart_box kt_1_0)
  have HBw_out_2 := Lib.hid (Below.step HBw_t_1.out bw_out_2)
  have ka_0_0__7 := cell_below bw_out_2 ka_0_0__1
  have ka_0_1__8 := cell_below bw_out_2 ka_0_1__2
  have ka_0_2__9 := cell_below bw_out_2 ka_0_2__3
  have ka_0_3__10 := cell_below bw_out_2 ka_0_3__4
  have ka_0_4__11 := cell_below bw_out_2 ka_0_4__5
  have ka_0_5__12 := cell_below bw_out_2 ka_0_5__6
  have kt_1_0__13 := cell_below bw_out_2 kt_1_0
  have kt_1_1__14 := cell_below bw_out_2 kt_1_1
  have kt_1_2__15 := cell_below bw_out_2 kt_1_2
  have kt_1_3__16 := cell_below bw_out_2 kt_1_3
  have kt_1_4__17 := cell_below bw_out_2 kt_1_4
  have kt_1_5__18 := cell_below bw_out_2 kt_1_5
  replace Ot_1 := Lib.hid (own_below Ot_1.out bw_out_2)
  clear bw_out_2
  have kout_2_0 : w_out_2.cell? ⟨w_t_1.heap.size, 0, none⟩ = some (.int .i64 0) := by rw [← hw_out_2]; exact box_new _ _ _ 0 _ rfl
  have kout_2_1 : w_out_2.cell? ⟨w_t_1.heap.size, 1, none⟩ = some (.string (⟨#[]⟩ : ByteArray)) := by rw [← hw_out_2]; exact box_new _ _ _ 1 _ rfl
  have kout_2_2 : w_out_2.cell? ⟨w_t_1.heap.size, 2, none⟩ = some (.int .i64 0) := by rw [← hw_out_2]; exact box_new _ _ _ 2 _ rfl
  have kout_2_3 : w_out_2.cell? ⟨w_t_1.heap.size, 3, none⟩ = some (.int .i64 0) := by rw [← hw_out_2]; exact box_new _ _ _ 3 _ rfl
  have kout_2_4 : w_out_2.cell? ⟨w_t_1.heap.size, 4, none⟩ = some (.int .i64 0) := by rw [← hw_out_2]; exact box_new _ _ _ 4 _ rfl
  have kout_2_5 : w_out_2.cell? ⟨w_t_1.heap.size, 5, none⟩ = some (.string (⟨#[]⟩ : ByteArray)) := by rw [← hw_out_2]; exact box_new _ _ _ 5 _ rfl
  have Oout_2 : Hid (w_out_2.ownsRow w.heap.size 26 6 (.slice (some ⟨w_t_1.heap.size, 0, none⟩) 1 1) 1 [.int .i64 0, .string (⟨#[]⟩ : ByteArray), .int .i64 0, .int .i64 0, .int .i64 0, .string (⟨#[]⟩ : ByteArray)]) := Lib.hid (by rw [← hw_out_2]; exact own_laid (n := 1) HBw_t_1.out.size rfl rfl (by unfold maxLen; omega))
  obtain ⟨wb6_6, hwb6_6⟩ : ∃ x, (w_out_2).setCell ⟨w_t_1.heap.size, 0, none⟩ (.int .i64 a_id) = x := ⟨_, rfl⟩
  have z0b6_6 := Oout_2.out.frozenAt 0
  have Sb6_6 := Lib.hid (own_stores [(0, .int .i64 a_id)] Oout_2.out)
  have Pb6_6 : Hid (wb6_6.ownsRow w.heap.size 26 6 (.slice (some ⟨w_t_1.heap.size, 0, none⟩) 1 1) 1 [.int .i64 a_id, .string (⟨#[]⟩ : ByteArray), .int .i64 0, .int .i64 0, .int .i64 0, .string (⟨#[]⟩ : ByteArray)]) := Lib.hid (by rw [← hwb6_6]; exact Sb6_6.out.1)
  have Gb6_6 : Hid (w_out_2.grownBy wb6_6 (Value.slice (some ⟨w_t_1.heap.size, 0, none⟩) 1 1).ownBlock) := Lib.hid (by rw [← hwb6_6]; exact Sb6_6.out.2)
  have HBwb6_6 := Lib.hid (HBw_out_2.out.grown Gb6_6.out HBw_out_2.out.size (fun q hq => (Oout_2.out.lt q hq).1))
  clear Sb6_6
  have ka_0_0__19 := cell_other ka_0_0__7 Gb6_6.out Dout_2_a_0.out
  have ka_0_1__20 := cell_other ka_0_1__8 Gb6_6.out Dout_2_a_0.out
  have ka_0_2__21 := cell_other ka_0_2__9 Gb6_6.out Dout_2_a_0.out
  have ka_0_3__22 := cell_other ka_0_3__10 Gb6_6.out Dout_2_a_0.out
  have ka_0_4__23 := cell_other ka_0_4__11 Gb6_6.out Dout_2_a_0.out
  have ka_0_5__24 := cell_other ka_0_5__12 Gb6_6.out Dout_2_a_0.out
  have kt_1_0__25 := cell_other kt_1_0__13 Gb6_6.out Dout_2_t_1.out
  have kt_1_1__26 := cell_other kt_1_1__14 Gb6_6.out Dout_2_t_1.out
  have kt_1_2__27 := cell_other kt_1_2__15 Gb6_6.out Dout_2_t_1.out
  have kt_1_3__28 := cell_other kt_1_3__16 Gb6_6.out Dout_2_t_1.out
  have kt_1_4__29 := cell_other kt_1_4__17 Gb6_6.out Dout_2_t_1.out
  have kt_1_5__30 := cell_other kt_1_5__18 Gb6_6.out Dout_2_t_1.out
  replace Ot_1 := Lib.hid (own_other Ot_1.out Gb6_6.out Dout_2_t_1.out)
  clear Oout_2 Gb6_6
  have kout_2_0__31 : wb6_6.cell? ⟨w_t_1.heap.size, 0, none⟩ = some (.int .i64 a_id) := Pb6_6.out.cells rfl 0 _ rfl
  have kout_2_1__32 : wb6_6.cell? ⟨w_t_1.heap.size, 1, none⟩ = some (.string (⟨#[]⟩ : ByteArray)) := Pb6_6.out.cells rfl 1 _ rfl
  have kout_2_2__33 : wb6_6.cell? ⟨w_t_1.heap.size, 2, none⟩ = some (.int .i64 0) := Pb6_6.out.cells rfl 2 _ rfl
  have kout_2_3__34 : wb6_6.cell? ⟨w_t_1.heap.size, 3, none⟩ = some (.int .i64 0) := Pb6_6.out.cells rfl 3 _ rfl
  have kout_2_4__35 : wb6_6.cell? ⟨w_t_1.heap.size, 4, none⟩ = some (.int .i64 0) := Pb6_6.out.cells rfl 4 _ rfl
  have kout_2_5__36 : wb6_6.cell? ⟨w_t_1.heap.size, 5, none⟩ = some (.string (⟨#[]⟩ : ByteArray)) := Pb6_6.out.cells rfl 5 _ rfl
  obtain ⟨wb10_10, hwb10_10⟩ : ∃ x, (wb6_6).setCell ⟨w_t_1.heap.size, 1, none⟩ (.string a_town) = x := ⟨_, rfl⟩
  have z0b10_10 := Pb6_6.out.frozenAt 1
  have Sb10_10 := Lib.hid (own_stores [(1, .string a_town)] Pb6_6.out)
  have Pb10_10 : Hid (wb10_10.ownsRow w.heap.size 26 6 (.slice (some ⟨w_t_1.heap.size, 0, none⟩) 1 1) 1 [.int .i64 a_id, .string a_town, .int .i64 0, .int .i64 0, .int .i64 0, .string (⟨#[]⟩ : ByteArray)]) := Lib.hid (by rw [← hwb10_10]; exact Sb10_10.out.1)
  have Gb10_10 : Hid (wb6_6.grownBy wb10_10 (Value.slice (some ⟨w_t_1.heap.size, 0, none⟩) 1 1).ownBlock) := Lib.hid (by rw [← hwb10_10]; exact Sb10_10.out.2)
  have HBwb10_10 := Lib.hid (HBwb6_6.out.grown Gb10_10.out HBwb6_6.out.size (fun q hq => (Pb6_6.out.lt q hq).1))
  clear Sb10_10
  have ka_0_0__37 := cell_other ka_0_0__19 Gb10_10.out Dout_2_a_0.out
  have ka_0_1__38 := cell_other ka_0_1__20 Gb10_10.out Dout_2_a_0.out
  have ka_0_2__39 := cell_other ka_0_2__21 Gb10_10.out Dout_2_a_0.out
  have ka_0_3__40 := cell_other ka_0_3__22 Gb10_10.out Dout_2_a_0.out
  have ka_0_4__41 := cell_other ka_0_4__23 Gb10_10.out Dout_2_a_0.out
  have ka_0_5__42 := cell_other ka_0_5__24 Gb10_10.out Dout_2_a_0.out
  have kt_1_0__43 := cell_other kt_1_0__25 Gb10_10.out Dout_2_t_1.out
  have kt_1_1__44 := cell_other kt_1_1__26 Gb10_10.out Dout_2_t_1.out
  have kt_1_2__45 := cell_other kt_1_2__27 Gb10_10.out Dout_2_t_1.out
  have kt_1_3__46 := cell_other kt_1_3__28 Gb10_10.out Dout_2_t_1.out
  have kt_1_4__47 := cell_other kt_1_4__29 Gb10_10.out Dout_2_t_1.out
  have kt_1_5__48 := cell_other kt_1_5__30 Gb10_10.out Dout_2_t_1.out
  replace Ot_1 := Lib.hid (own_other Ot_1.out Gb10_10.out Dout_2_t_1.out)
  clear Pb6_6 Gb10_10
  have kout_2_0__49 : wb10_10.cell? ⟨w_t_1.heap.size, 0, none⟩ = some (.int .i64 a_id) := Pb10_10.out.cells rfl 0 _ rfl
  have kout_2_1__50 : wb10_10.cell? ⟨w_t_1.heap.size, 1, none⟩ = some (.string a_town) := Pb10_10.out.cells rfl 1 _ rfl
  have kout_2_2__51 : wb10_10.cell? ⟨w_t_1.heap.size, 2, none⟩ = some (.int .i64 0) := Pb10_10.out.cells rfl 2 _ rfl
  have kout_2_3__52 : wb10_10.cell? ⟨w_t_1.heap.size, 3, none⟩ = some (.int .i64 0) := Pb10_10.out.cells rfl 3 _ rfl
  have kout_2_4__53 : wb10_10.cell? ⟨w_t_1.heap.size, 4, none⟩ = some (.int .i64 0) := Pb10_10.out.cells rfl 4 _ rfl
  have kout_2_5__54 : wb10_10.cell? ⟨w_t_1.heap.size, 5, none⟩ = some (.string (⟨#[]⟩ : ByteArray)) := Pb10_10.out.cells rfl 5 _ rfl
  obtain ⟨wb14_14, hwb14_14⟩ : ∃ x, (wb10_10).setCell ⟨w_t_1.heap.size, 2, none⟩ (.int .i64 a_kind_) = x := ⟨_, rfl⟩
  have z0b14_14 := Pb10_10.out.frozenAt 2
  have Sb14_14 := Lib.hid (own_stores [(2, .int .i64 a_kind_)] Pb10_10.out)
  have Pb14_14 : Hid (wb14_14.ownsRow w.heap.size 26 6 (.slice (some ⟨w_t_1.heap.size, 0, none⟩) 1 1) 1 [.int .i64 a_id, .string a_town, .int .i64 a_kind_, .int .i64 0, .int .i64 0, .string (⟨#[]⟩ : ByteArray)]) := Lib.hid (by rw [← hwb14_14]; exact Sb14_14.out.1)
  have Gb14_14 : Hid (wb10_10.grownBy wb14_14 (Value.slice (some ⟨w_t_1.heap.size, 0, none⟩) 1 1).ownBlock) := Lib.hid (by rw [← hwb14_14]; exact Sb14_14.out.2)
  have HBwb14_14 := Lib.hid (HBwb10_10.out.grown Gb14_14.out HBwb10_10.out.size (fun q hq => (Pb10_10.out.lt q hq).1))
  clear Sb14_14
  have ka_0_0__55 := cell_other ka_0_0__37 Gb14_14.out Dout_2_a_0.out
  have ka_0_1__56 := cell_other ka_0_1__38 Gb14_14.out Dout_2_a_0.out
  have ka_0_2__57 := cell_other ka_0_2__39 Gb14_14.out Dout_2_a_0.out
  have ka_0_3__58 := cell_other ka_0_3__40 Gb14_14.out Dout_2_a_0.out
  have ka_0_4__59 := cell_other ka_0_4__41 Gb14_14.out Dout_2_a_0.out
  have ka_0_5__60 := cell_other ka_0_5__42 Gb14_14.out Dout_2_a_0.out
  have kt_1_0__61 := cell_other kt_1_0__43 Gb14_14.out Dout_2_t_1.out
  have kt_1_1__62 := cell_other kt_1_1__44 Gb14_14.out Dout_2_t_1.out
  have kt_1_2__63 := cell_other kt_1_2__45 Gb14_14.out Dout_2_t_1.out
  have kt_1_3__64 := cell_other kt_1_3__46 Gb14_14.out Dout_2_t_1.out
  have kt_1_4__65 := cell_other kt_1_4__47 Gb14_14.out Dout_2_t_1.out
  have kt_1_5__66 := cell_other kt_1_5__48 Gb14_14.out Dout_2_t_1.out
  replace Ot_1 := Lib.hid (own_other Ot_1.out Gb14_14.out Dout_2_t_1.out)
  clear Pb10_10 Gb14_14
  have kout_2_0__67 : wb14_14.cell? ⟨w_t_1.heap.size, 0, none⟩ = some (.int .i64 a_id) := Pb14_14.out.cells rfl 0 _ rfl
  have kout_2_1__68 : wb14_14.cell? ⟨w_t_1.heap.size, 1, none⟩ = some (.string a_town) := Pb14_14.out.cells rfl 1 _ rfl
  have kout_2_2__69 : wb14_14.cell? ⟨w_t_1.heap.size, 2, none⟩ = some (.int .i64 a_kind_) := Pb14_14.out.cells rfl 2 _ rfl
  have kout_2_3__70 : wb14_14.cell? ⟨w_t_1.heap.size, 3, none⟩ = some (.int .i64 0) := Pb14_14.out.cells rfl 3 _ rfl
  have kout_2_4__71 : wb14_14.cell? ⟨w_t_1.heap.size, 4, none⟩ = some (.int .i64 0) := Pb14_14.out.cells rfl 4 _ rfl
  have kout_2_5__72 : wb14_14.cell? ⟨w_t_1.heap.size, 5, none⟩ = some (.string (⟨#[]⟩ : ByteArray)) := Pb14_14.out.cells rfl 5 _ rfl
  obtain ⟨wb18_18, hwb18_18⟩ : ∃ x, (wb14_14).setCell ⟨w_t_1.heap.size, 3, none⟩ (.int .i64 a_first) = x := ⟨_, rfl⟩
  have z0b18_18 := Pb14_14.out.frozenAt 3
  have Sb18_18 := Lib.hid (own_stores [(3, .int .i64 a_first)] Pb14_14.out)
  have Pb18_18 : Hid (wb18_18.ownsRow w.heap.size 26 6 (.slice (some ⟨w_t_1.heap.size, 0, none⟩) 1 1) 1 [.int .i64 a_id, .string a_town, .int .i64 a_kind_, .int .i64 a_first, .int .i64 0, .string (⟨#[]⟩ : ByteArray)]) := Lib.hid (by rw [← hwb18_18]; exact Sb18_18.out.1)
  have Gb18_18 : Hid (wb14_14.grownBy wb18_18 (Value.slice (some ⟨w_t_1.heap.size, 0, none⟩) 1 1).ownBlock) := Lib.hid (by rw [← hwb18_18]; exact Sb18_18.out.2)
  have HBwb18_18 := Lib.hid (HBwb14_14.out.grown Gb18_18.out HBwb14_14.out.size (fun q hq => (Pb14_14.out.lt q hq).1))
  clear Sb18_18
  have ka_0_0__73 := cell_other ka_0_0__55 Gb18_18.out Dout_2_a_0.out
  have ka_0_1__74 := cell_other ka_0_1__56 Gb18_18.out Dout_2_a_0.out
  have ka_0_2__75 := cell_other ka_0_2__57 Gb18_18.out Dout_2_a_0.out
  have ka_0_3__76 := cell_other ka_0_3__58 Gb18_18.out Dout_2_a_0.out
  have ka_0_4__77 := cell_other ka_0_4__59 Gb18_18.out Dout_2_a_0.out
  have ka_0_5__78 := cell_other ka_0_5__60 Gb18_18.out Dout_2_a_0.out
  have kt_1_0__79 := cell_other kt_1_0__61 Gb18_18.out Dout_2_t_1.out
  have kt_1_1__80 := cell_other kt_1_1__62 Gb18_18.out Dout_2_t_1.out
  have kt_1_2__81 := cell_other kt_1_2__63 Gb18_18.out Dout_2_t_1.out
  have kt_1_3__82 := cell_other kt_1_3__64 Gb18_18.out Dout_2_t_1.out
  have kt_1_4__83 := cell_other kt_1_4__65 Gb18_18.out Dout_2_t_1.out
  have kt_1_5__84 := cell_other kt_1_5__66 Gb18_18.out Dout_2_t_1.out
  replace Ot_1 := Lib.hid (own_other Ot_1.out Gb18_18.out Dout_2_t_1.out)
  clear Pb14_14 Gb18_18
  have kout_2_0__85 : wb18_18.cell? ⟨w_t_1.heap.size, 0, none⟩ = some (.int .i64 a_id) := Pb18_18.out.cells rfl 0 _ rfl
  have kout_2_1__86 : wb18_18.cell? ⟨w_t_1.heap.size, 1, none⟩ = some (.string a_town) := Pb18_18.out.cells rfl 1 _ rfl
  have kout_2_2__87 : wb18_18.cell? ⟨w_t_1.heap.size, 2, none⟩ = some (.int .i64 a_kind_) := Pb18_18.out.cells rfl 2 _ rfl
  have kout_2_3__88 : wb18_18.cell? ⟨w_t_1.heap.size, 3, none⟩ = some (.int .i64 a_first) := Pb18_18.out.cells rfl 3 _ rfl
  have kout_2_4__89 : wb18_18.cell? ⟨w_t_1.heap.size, 4, none⟩ = some (.int .i64 0) := Pb18_18.out.cells rfl 4 _ rfl
  have kout_2_5__90 : wb18_18.cell? ⟨w_t_1.heap.size, 5, none⟩ = some (.string (⟨#[]⟩ : ByteArray)) := Pb18_18.out.cells rfl 5 _ rfl
  obtain ⟨wb22_22, hwb22_22⟩ : ∃ x, (wb18_18).setCell ⟨w_t_1.heap.size, 4, none⟩ (.int .i64 a_last) = x := ⟨_, rfl⟩
  have z0b22_22 := Pb18_18.out.frozenAt 4
  have Sb22_22 := Lib.hid (own_stores [(4, .int .i64 a_last)] Pb18_18.out)
  have Pb22_22 : Hid (wb22_22.ownsRow w.heap.size 26 6 (.slice (some ⟨w_t_1.heap.size, 0, none⟩) 1 1) 1 [.int .i64 a_id, .string a_town, .int .i64 a_kind_, .int .i64 a_first, .int .i64 a_last, .string (⟨#[]⟩ : ByteArray)]) := Lib.hid (by rw [← hwb22_22]; exact Sb22_22.out.1)
  have Gb22_22 : Hid (wb18_18.grownBy wb22_22 (Value.slice (some ⟨w_t_1.heap.size, 0, none⟩) 1 1).ownBlock) := Lib.hid (by rw [← hwb22_22]; exact Sb22_22.out.2)
  have HBwb22_22 := Lib.hid (HBwb18_18.out.grown Gb22_22.out HBwb18_18.out.size (fun q hq => (Pb18_18.out.lt q hq).1))
  clear Sb22_22
  have ka_0_0__91 := cell_other ka_0_0__73 Gb22_22.out Dout_2_a_0.out
  have ka_0_1__92 := cell_other ka_0_1__74 Gb22_22.out Dout_2_a_0.out
  have ka_0_2__93 := cell_other ka_0_2__75 Gb22_22.out Dout_2_a_0.out
  have ka_0_3__94 := cell_other ka_0_3__76 Gb22_22.out Dout_2_a_0.out
  have ka_0_4__95 := cell_other ka_0_4__77 Gb22_22.out Dout_2_a_0.out
  have ka_0_5__96 := cell_other ka_0_5__78 Gb22_22.out Dout_2_a_0.out
  have kt_1_0__97 := cell_other kt_1_0__79 Gb22_22.out Dout_2_t_1.out
  have kt_1_1__98 := cell_other kt_1_1__80 Gb22_22.out Dout_2_t_1.out
  have kt_1_2__99 := cell_other kt_1_2__81 Gb22_22.out Dout_2_t_1.out
  have kt_1_3__100 := cell_other kt_1_3__82 Gb22_22.out Dout_2_t_1.out
  have kt_1_4__101 := cell_other kt_1_4__83 Gb22_22.out Dout_2_t_1.out
  have kt_1_5__102 := cell_other kt_1_5__84 Gb22_22.out Dout_2_t_1.out
  replace Ot_1 := Lib.hid (own_other Ot_1.out Gb22_22.out Dout_2_t_1.out)
  clear Pb18_18 Gb22_22
  have kout_2_0__103 : wb22_22.cell? ⟨w_t_1.heap.size, 0, none⟩ = some (.int .i64 a_id) := Pb22_22.out.cells rfl 0 _ rfl
  have kout_2_1__104 : wb22_22.cell? ⟨w_t_1.heap.size, 1, none⟩ = some (.string a_town) := Pb22_22.out.cells rfl 1 _ rfl
  have kout_2_2__105 : wb22_22.cell? ⟨w_t_1.heap.size, 2, none⟩ = some (.int .i64 a_kind_) := Pb22_22.out.cells rfl 2 _ rfl
  have kout_2_3__106 : wb22_22.cell? ⟨w_t_1.heap.size, 3, none⟩ = some (.int .i64 a_first) := Pb22_22.out.cells rfl 3 _ rfl
  have kout_2_4__107 : wb22_22.cell? ⟨w_t_1.heap.size, 4, none⟩ = some (.int .i64 a_last) := Pb22_22.out.cells rfl 4 _ rfl
  have kout_2_5__108 : wb22_22.cell? ⟨w_t_1.heap.size, 5, none⟩ = some (.string (⟨#[]⟩ : ByteArray)) := Pb22_22.out.cells rfl 5 _ rfl
  obtain ⟨wb26_26, hwb26_26⟩ : ∃ x, (wb22_22).setCell ⟨w_t_1.heap.size, 5, none⟩ (.string a_lost) = x := ⟨_, rfl⟩
  have z0b26_26 := Pb22_22.out.frozenAt 5
  have Sb26_26 := Lib.hid (own_stores [(5, .string a_lost)] Pb22_22.out)
  have Pb26_26 : Hid (wb26_26.ownsRow w.heap.size 26 6 (.slice (some ⟨w_t_1.heap.size, 0, none⟩) 1 1) 1 [.int .i64 a_id, .string a_town, .int .i64 a_kind_, .int .i64 a_first, .int .i64 a_last, .string a_lost]) := Lib.hid (by rw [← hwb26_26]; exact Sb26_26.out.1)
  have Gb26_26 : Hid (wb22_22.grownBy wb26_26 (Value.slice (some ⟨w_t_1.heap.size, 0, none⟩) 1 1).ownBlock) := Lib.hid (by rw [← hwb26_26]; exact Sb26_26.out.2)
  have HBwb26_26 := Lib.hid (HBwb22_22.out.grown Gb26_26.out HBwb22_22.out.size (fun q hq => (Pb22_22.out.lt q hq).1))
  clear Sb26_26
  have ka_0_0__109 := cell_other ka_0_0__91 Gb26_26.out Dout_2_a_0.out
  have ka_0_1__110 := cell_other ka_0_1__92 Gb26_26.out Dout_2_a_0.out
  have ka_0_2__111 := cell_other ka_0_2__93 Gb26_26.out Dout_2_a_0.out
  have ka_0_3__112 := cell_other ka_0_3__94 Gb26_26.out Dout_2_a_0.out
  have ka_0_4__113 := cell_other ka_0_4__95 Gb26_26.out Dout_2_a_0.out
  have ka_0_5__114 := cell_other ka_0_5__96 Gb26_26.out Dout_2_a_0.out
  have kt_1_0__115 := cell_other kt_1_0__97 Gb26_26.out Dout_2_t_1.out
  have kt_1_1__116 := cell_other kt_1_1__98 Gb26_26.out Dout_2_t_1.out
  have kt_1_2__117 := cell_other kt_1_2__99 Gb26_26.out Dout_2_t_1.out
  have kt_1_3__118 := cell_other kt_1_3__100 Gb26_26.out Dout_2_t_1.out
  have kt_1_4__119 := cell_other kt_1_4__101 Gb26_26.out Dout_2_t_1.out
  have kt_1_5__120 := cell_other kt_1_5__102 Gb26_26.out Dout_2_t_1.out
  replace Ot_1 := Lib.hid (own_other Ot_1.out Gb26_26.out Dout_2_t_1.out)
  clear Pb22_22 Gb26_26
  have kout_2_0__121 : wb26_26.cell? ⟨w_t_1.heap.size, 0, none⟩ = some (.int .i64 a_id) := Pb26_26.out.cells rfl 0 _ rfl
  have kout_2_1__122 : wb26_26.cell? ⟨w_t_1.heap.size, 1, none⟩ = some (.string a_town) := Pb26_26.out.cells rfl 1 _ rfl
  have kout_2_2__123 : wb26_26.cell? ⟨w_t_1.heap.size, 2, none⟩ = some (.int .i64 a_kind_) := Pb26_26.out.cells rfl 2 _ rfl
  have kout_2_3__124 : wb26_26.cell? ⟨w_t_1.heap.size, 3, none⟩ = some (.int .i64 a_first) := Pb26_26.out.cells rfl 3 _ rfl
  have kout_2_4__125 : wb26_26.cell? ⟨w_t_1.heap.size, 4, none⟩ = some (.int .i64 a_last) := Pb26_26.out.cells rfl 4 _ rfl
  have kout_2_5__126 : wb26_26.cell? ⟨w_t_1.heap.size, 5, none⟩ = some (.string a_lost) := Pb26_26.out.cells rfl 5 _ rfl
  obtain ⟨wb28_28, hwb28_28⟩ : ∃ x, ((((((wb26_26).setCell ⟨w_a_0.heap.size, 0, none⟩ (.int .i64 a_id)).setCell ⟨w_a_0.heap.size, 1, none⟩ (.string a_town)).setCell ⟨w_a_0.heap.size, 2, none⟩ (.int .i64 a_kind_)).setCell ⟨w_a_0.heap.size, 3, none⟩ (.int .i64 a_first)).setCell ⟨w_a_0.heap.size, 4, none⟩ (.int .i64 a_last)).setCell ⟨w_a_0.heap.size, 5, none⟩ (.string a_lost) = x := ⟨_, rfl⟩
  have z0b28_28 := Ot_1.out.frozenAt 0
  have z1b28_28 := Ot_1.out.frozenAt 1
  have z2b28_28 := Ot_1.out.frozenAt 2
  have z3b28_28 := Ot_1.out.frozenAt 3
  have z4b28_28 := Ot_1.out.frozenAt 4
  have z5b28_28 := Ot_1.out.frozenAt 5
  have Sb28_28 := Lib.hid (own_stores [(0, .int .i64 a_id), (1, .string a_town), (2, .int .i64 a_kind_), (3, .int .i64 a_first), (4, .int .i64 a_last), (5, .string a_lost)] Ot_1.out)
  have Pb28_28 : Hid (wb28_28.ownsRow w.heap.size 26 6 (.slice (some ⟨w_a_0.heap.size, 0, none⟩) 1 1) 1 [.int .i64 a_id, .string a_town, .int .i64 a_kind_, .int .i64 a_first, .int .i64 a_last, .string a_lost]) := Lib.hid (by rw [← hwb28_28]; exact Sb28_28.out.1)
  have Gb28_28 : Hid (wb26_26.grownBy wb28_28 (Value.slice (some ⟨w_a_0.heap.size, 0, none⟩) 1 1).ownBlock) := Lib.hid (by rw [← hwb28_28]; exact Sb28_28.out.2)
  have HBwb28_28 := Lib.hid (HBwb26_26.out.grown Gb28_28.out HBwb26_26.out.size (fun q hq => (Ot_1.out.lt q hq).1))
  clear Sb28_28
  have ka_0_0__127 := cell_other ka_0_0__109 Gb28_28.out Dt_1_a_0.out
  have ka_0_1__128 := cell_other ka_0_1__110 Gb28_28.out Dt_1_a_0.out
  have ka_0_2__129 := cell_other ka_0_2__111 Gb28_28.out Dt_1_a_0.out
  have ka_0_3__130 := cell_other ka_0_3__112 Gb28_28.out Dt_1_a_0.out
  have ka_0_4__131 := cell_other ka_0_4__113 Gb28_28.out Dt_1_a_0.out
  have ka_0_5__132 := cell_other ka_0_5__114 Gb28_28.out Dt_1_a_0.out
  have kout_2_0__133 := cell_other kout_2_0__121 Gb28_28.out (Apart.symm Dout_2_t_1.out)
  have kout_2_1__134 := cell_other kout_2_1__122 Gb28_28.out (Apart.symm Dout_2_t_1.out)
  have kout_2_2__135 := cell_other kout_2_2__123 Gb28_28.out (Apart.symm Dout_2_t_1.out)
  have kout_2_3__136 := cell_other kout_2_3__124 Gb28_28.out (Apart.symm Dout_2_t_1.out)
  have kout_2_4__137 := cell_other kout_2_4__125 Gb28_28.out (Apart.symm Dout_2_t_1.out)
  have kout_2_5__138 := cell_other kout_2_5__126 Gb28_28.out (Apart.symm Dout_2_t_1.out)
  replace Pb26_26 := Lib.hid (own_other Pb26_26.out Gb28_28.out (Apart.symm Dout_2_t_1.out))
  clear Ot_1 Gb28_28
  have kt_1_0__139 : wb28_28.cell? ⟨w_a_0.heap.size, 0, none⟩ = some (.int .i64 a_id) := Pb28_28.out.cells rfl 0 _ rfl
  have kt_1_1__140 : wb28_28.cell? ⟨w_a_0.heap.size, 1, none⟩ = some (.string a_town) := Pb28_28.out.cells rfl 1 _ rfl
  have kt_1_2__141 : wb28_28.cell? ⟨w_a_0.heap.size, 2, none⟩ = some (.int .i64 a_kind_) := Pb28_28.out.cells rfl 2 _ rfl
  have kt_1_3__142 : wb28_28.cell? ⟨w_a_0.heap.size, 3, none⟩ = some (.int .i64 a_first) := Pb28_28.out.cells rfl 3 _ rfl
  have kt_1_4__143 : wb28_28.cell? ⟨w_a_0.heap.size, 4, none⟩ = some (.int .i64 a_last) := Pb28_28.out.cells rfl 4 _ rfl
  have kt_1_5__144 : wb28_28.cell? ⟨w_a_0.heap.size, 5, none⟩ = some (.string a_lost) := Pb28_28.out.cells rfl 5 _ rfl
  cases ret_hid H
  go_wp2_with fail
  (try simp only [Exit.inBlock, Exit.then])
  refine bodyPost_ret (v := .agg #[.int .i64 a_id, .string a_town, .int .i64 a_kind_, .int .i64 a_first, .int .i64 a_last, .string a_lost]) ?hr_ ?hd_ ?_
  case hd_ => rfl
  case hr_ => simp [results, Try.results14, kt_1_0__139, kt_1_1__140, kt_1_2__141, kt_1_3__142, kt_1_4__143, kt_1_5__144, go_sem]
  exact ⟨rfl, HBwb28_28.out⟩
end Go.Proofs.Ytgimcnpkngpmiaa.GlToPostmark

/- loop.example/g01062/spec.l1In as a plain function, and the contract of the program's: where the plain one has an answer, the program has it. Conditions: slices read as lists. -/
namespace Go.Proofs.Ytgimcnpkngpmiaa.GsL1In
set_option linter.unusedVariables false
set_option linter.unusedSimpArgs false
open Go.RowKit
open Go.Proofs.Ytgimcnpkngpmiaa.Rowed Go.Proofs.Ytgimcnpkngpmiaa.Turn Go.Proofs.Ytgimcnpkngpmiaa.Aid Go.Proofs.Ytgimcnpkngpmiaa.GoP Go.Proofs.Ytgimcnpkngpmiaa.GoM

def P (x : Int) (a : Int) (b : Int) : Option (Bool) :=
  letK (decide (a ≤ x)) fun (t_3 : Bool) =>
  joinK (fun (t_8 : Bool) =>
  some t_8) fun jt_8 => iteK t_3 (letK (decide (x ≤ b)) fun (t_7 : Bool) =>
  appK jt_8 t_7) (appK jt_8 false)

set_option maxRecDepth 100000 in
set_option maxHeartbeats 2000000 in
theorem C (x : Int) (a : Int) (b : Int)   (w : World)   {r : Bool} (H : Hid (P x a b = some r)) :
    Calls Try.prog 52 #[.int .i64 x, .int .i64 a, .int .i64 b] w (Gives (.bool r) w) := by
  have HB := Lib.hid (Below.refl w.heap.size w)
  unfold P at H
  go_enter Try.func52, Try.ntmps52
  replace H := let_hid H
  obtain ⟨t_3, ht_3, H⟩ := H
  replace H := join_hid H
  cases t_3 with
  | false =>
    replace H := ite_f H
    replace H := app_hid H
    obtain rfl := ret_hid H
    go_wp2_with fail
    go_ret
    exact ⟨rfl, HB.out⟩
  | true =>
    replace H := ite_t H
    replace H := let_hid H
    obtain ⟨t_7, ht_7, H⟩ := H
    replace H := app_hid H
    obtain rfl := ret_hid H
    go_wp2_with fail
    go_ret
    exact ⟨rfl, HB.out⟩

set_option maxRecDepth 100000 in
set_option maxHeartbeats 2000000 in
theorem C0 (x : Int) (a : Int) (b : Int)   (w : World)   {r : Bool} (H : Hid (P x a b = some r)) :
    Calls Try.prog 52 #[.int .i64 x, .int .i64 a, .int .i64 b] w (fun e w'' => e = .returned (.bool r) ∧ w'' = w) := by
  have HB := Lib.hid (Below.refl w.heap.size w)
  unfold P at H
  go_enter Try.func52, Try.ntmps52
  replace H := let_hid H
  obtain ⟨t_3, ht_3, H⟩ := H
  replace H := join_hid H
  cases t_3 with
  | false =>
    replace H := ite_f H
    replace H := app_hid H
    obtain rfl := ret_hid H
    go_wp2_with fail
    go_ret
    exact ⟨rfl, rfl⟩
  | true =>
    replace H := ite_t H
    replace H := let_hid H
    obtain ⟨t_7, ht_7, H⟩ := H
    replace H := app_hid H
    obtain rfl := ret_hid H
    go_wp2_with fail
    go_ret
    exact ⟨rfl, rfl⟩
end Go.Proofs.Ytgimcnpkngpmiaa.GsL1In

/- loop.example/g01062/spec.l2Word as a plain function, and the contract of the program's: where the plain one has an answer, the program has it. Conditions: slices read as lists. -/
namespace Go.Proofs.Ytgimcnpkngpmiaa.GsL2Word
set_option linter.unusedVariables false
set_option linter.unusedSimpArgs false
open Go.RowKit
open Go.Proofs.Ytgimcnpkngpmiaa.Rowed Go.Proofs.Ytgimcnpkngpmiaa.Turn Go.Proofs.Ytgimcnpkngpmiaa.Aid Go.Proofs.Ytgimcnpkngpmiaa.GoP Go.Proofs.Ytgimcnpkngpmiaa.GoM

def l0 (s_0 : ByteArray) (k0 : Nat) (s : Unit) (nx0 bk0 : Unit → Option (Bool)) : Option (Bool) :=
  
  Option.bind (idx s_0.toList (k0 : Int)) fun (yt_8 : UInt8) =>
  letK ((yt_8.toNat : Int)) fun (t_8 : Int) =>
  letK (decide (t_8 < 97)) fun (t_9 : Bool) =>
  joinK (fun (t_15 : Bool) =>
  iteK t_15
  (some false)
  (appK nx0 ())) fun jt_15 => iteK t_9 (appK jt_15 true) (Option.bind (idx s_0.toList (k0 : Int)) fun (yt_13 : UInt8) =>
  letK ((yt_13.toNat : Int)) fun (t_13 : Int) =>
  letK (decide (122 < t_13)) fun (t_14 : Bool) =>
  appK jt_15 t_14)

def e0 (s_0 : ByteArray) (s : Unit) : Option (Bool) :=
  
  Option.bind (Go.Proofs.Ytgimcnpkngpmiaa.GsL1In.P (s_0.size : Int) 1 10) fun (t_22 : Bool) =>
  some t_22

def P (s_0 : ByteArray) : Option (Bool) :=
  guardK (s_0.size ≤ 9223372036854775807) <|
  cntK (l0 s_0) (s_0.size) 0 () (e0 s_0)

set_option maxRecDepth 100000 in
set_option maxHeartbeats 2000000 in
theorem C (s_0 : ByteArray)   (w : World)   {r : Bool} (H : Hid (P s_0 = some r)) :
    Calls Try.prog 56 #[.string s_0] w (Gives (.bool r) w) := by
  have HB := Lib.hid (Below.refl w.heap.size w)
  unfold P at H
  go_enter Try.func56, Try.ntmps56
  replace H := guard_hid H
  obtain ⟨hg0, H⟩ := H
  go_wp2_with fail
  go_loopg [3] (s_0.size) (fun m_ v3_ wr => ∃ (k0 : Nat) , k0 + m_ = s_0.size ∧ v3_ = .int .i64 (k0 : Int) ∧ Hid (cntK (l0 s_0) m_ k0 () (e0 s_0) = some r) ∧ Hid (Below w.heap.size w wr))
  case atStart => exact ⟨0, by omega, rfl, H, HB⟩
  case round =>
    obtain ⟨k0, hkm0, rfl, H, HBwr0⟩ := hrel
    rename World => wr0
    cases gk with
    | zero =>
      obtain rfl : k0 = s_0.size := by omega
      have hc0 : decide (((s_0.size : Nat) : Int) < ((s_0.size : Nat) : Int)) = false := by simp
      replace H := cnt_zero H
      unfold e0 at H
      replace H := bind_hid H
      obtain ⟨t_22, qt_22, H⟩ := H
      go_wp2_with fail
      go_at_call 52
      refine (Go.Proofs.Ytgimcnpkngpmiaa.GsL1In.C ((s_0.size : Int)) (1) (10)  _    qt_22).mono ?_
      rintro e_t_22 wt_22 ⟨rfl, bt_22⟩
      have HBwt_22 := Lib.hid (Below.step HBwr0.out bt_22)
      clear bt_22
      obtain rfl := ret_hid H
      go_wp2_with fail
      go_ret
      exact ⟨rfl, HBwt_22.out⟩
    | succ m0 =>
      have hlt0 : k0 < s_0.size := by omega
      have hc0 : decide ((k0 : Int) < ((s_0.size : Nat) : Int)) = true := by simp; omega
      replace H := cnt_succ H
      unfold l0 at H
      replace H := idx_hid H
      obtain ⟨nt_8, yt_8, et_8, lt_8, gt_8, H⟩ := H
      obtain rfl : k0 = nt_8 := by omega
      clear et_8
      have rt_8 := byte_rule lt_8 gt_8.out
      have b0t_8 : (0 : Int) ≤ (k0 : Int) := by omega
      have b1t_8 : (k0 : Int) < (s_0.size : Int) := by have := size_list s_0; omega
      have b2t_8 : ((k0 : Int)).toNat = k0 := by omega
      have b3t_8 : k0 < s_0.size := by have := size_list s_0; omega
      replace H := let_hid H
      obtain ⟨t_8, ht_8, H⟩ := H
      replace H := let_hid H
      obtain ⟨t_9, ht_9, H⟩ := H
      replace H := join_hid H
      cases t_9 with
      | false =>
        replace H := ite_f H
        replace H := idx_hid H
        obtain ⟨nt_13, yt_13, et_13, lt_13, gt_13, H⟩ := H
        obtain rfl : k0 = nt_13 := by omega
        clear et_13
        obtain rfl := Option.some.inj (gt_8.out.symm.trans gt_13.out)
        clear gt_13 lt_13
        replace H := let_hid H
        obtain ⟨t_13, ht_13, H⟩ := H
        obtain rfl := ht_8.symm.trans ht_13
        replace H := let_hid H
        obtain ⟨t_14, ht_14, H⟩ := H
        replace H := app_hid H
        cases t_14 with
        | false =>
          replace H := ite_f H
          replace H := app_hid H
          go_wp2_with fail
          go_roundg m0
          case measure => omega
          case rel => exact ⟨k0 + 1, by omega, by go_num, H, HBwr0⟩
        | true =>
          replace H := ite_t H
          obtain rfl := ret_hid H
          go_wp2_with fail
          go_ret
          exact ⟨rfl, HBwr0.out⟩
      | true =>
        replace H := ite_t H
        replace H := app_hid H
        replace H := ite_t H
        obtain rfl := ret_hid H
        go_wp2_with fail
        go_ret
        exact ⟨rfl, HBwr0.out⟩
end Go.Proofs.Ytgimcnpkngpmiaa.GsL2Word

/- loop.example/g01062/spec.l2Day as a plain function, and the contract of the program's: where the plain one has an answer, the program has it. Conditions: slices read as lists. -/
namespace Go.Proofs.Ytgimcnpkngpmiaa.GsL2Day
set_option linter.unusedVariables false
set_option linter.unusedSimpArgs false
open Go.RowKit
open Go.Proofs.Ytgimcnpkngpmiaa.Rowed Go.Proofs.Ytgimcnpkngpmiaa.Turn Go.Proofs.Ytgimcnpkngpmiaa.Aid Go.Proofs.Ytgimcnpkngpmiaa.GoP Go.Proofs.Ytgimcnpkngpmiaa.GoM

def P (d_0 : Int) : Option (Bool) :=
  Option.bind (Go.Proofs.Ytgimcnpkngpmiaa.GsL1In.P d_0 0 4000) fun (t_2 : Bool) =>
  some t_2

set_option maxRecDepth 100000 in
set_option maxHeartbeats 2000000 in
theorem C (d_0 : Int)   (w : World)   {r : Bool} (H : Hid (P d_0 = some r)) :
    Calls Try.prog 61 #[.int .i64 d_0] w (Gives (.bool r) w) := by
  have HB := Lib.hid (Below.refl w.heap.size w)
  unfold P at H
  go_enter Try.func61, Try.ntmps61
  replace H := bind_hid H
  obtain ⟨t_2, qt_2, H⟩ := H
  go_wp2_with fail
  go_at_call 52
  refine (Go.Proofs.Ytgimcnpkngpmiaa.GsL1In.C (d_0) (0) (4000)  _    qt_2).mono ?_
  rintro e_t_2 wt_2 ⟨rfl, bt_2⟩
  have HBwt_2 := Lib.hid (Below.step HB.out bt_2)
  clear bt_2
  obtain rfl := ret_hid H
  go_wp2_with fail
  go_ret
  exact ⟨rfl, HBwt_2.out⟩
end Go.Proofs.Ytgimcnpkngpmiaa.GsL2Day

/- loop.example/g01062/spec.l11One as a plain function, and the contract of the program's: where the plain one has an answer, the program has it. Conditions: slices read as lists. -/
namespace Go.Proofs.Ytgimcnpkngpmiaa.GsL11One
set_option linter.unusedVariables false
set_option linter.unusedSimpArgs false
open Go.RowKit
open Go.Proofs.Ytgimcnpkngpmiaa.Rowed Go.Proofs.Ytgimcnpkngpmiaa.Turn Go.Proofs.Ytgimcnpkngpmiaa.Aid Go.Proofs.Ytgimcnpkngpmiaa.GoP Go.Proofs.Ytgimcnpkngpmiaa.GoM

def l0 (p_lost : ByteArray) (s : Bool × Int) (nx0 bk0 : Bool × Int → Option (Bool)) : Option (Bool) :=
  unp2 s fun seen_3l0 i_4l0 =>
  letK (decide (i_4l0 < (p_lost.size : Int))) fun (t_48 : Bool) =>
  iteK t_48
  (Option.bind (idx p_lost.toList i_4l0) fun (yt_52 : UInt8) =>
  letK ((yt_52.toNat : Int)) fun (t_52 : Int) =>
  letK (t_52 != 46) fun (t_53 : Bool) =>
  joinK (fun (t_60 : Bool) =>
  iteK t_60
  (some false)
  (joinK (fun (t_69 : Bool) =>
  letK (IntKind.i64.wrap (i_4l0 + 1)) fun (t_72 : Int) =>
  appK nx0 (t_69, t_72)) fun jt_69 => iteK seen_3l0 (appK jt_69 true) (Option.bind (idx p_lost.toList i_4l0) fun (yt_67 : UInt8) =>
  letK ((yt_67.toNat : Int)) fun (t_67 : Int) =>
  letK (t_67 == 46) fun (t_68 : Bool) =>
  appK jt_69 t_68))) fun jt_60 => iteK t_53 (Option.bind (idx p_lost.toList i_4l0) fun (yt_58 : UInt8) =>
  letK ((yt_58.toNat : Int)) fun (t_58 : Int) =>
  letK (t_58 != 120) fun (t_59 : Bool) =>
  appK jt_60 t_59) (appK jt_60 false))
  (appK bk0 (seen_3l0, i_4l0))

def e0  (s : Bool × Int) : Option (Bool) :=
  unp2 s fun seen_3l0 i_4l0 =>
  some seen_3l0

def P (fuel : Nat) (p : Go.Proofs.Ytgimcnpkngpmiaa.PPostmark.Postmark) : Option (Bool) :=
  unPostmark p fun (p_id : Int) (p_town : ByteArray) (p_kind_ : Int) (p_first : Int) (p_last : Int) (p_lost : ByteArray) =>
  Option.bind (Go.Proofs.Ytgimcnpkngpmiaa.GsL1In.P p_id 1 999) fun (t_4 : Bool) =>
  letK (!t_4) fun (t_5 : Bool) =>
  joinK (fun (t_11 : Bool) =>
  joinK (fun (t_17 : Bool) =>
  joinK (fun (t_23 : Bool) =>
  joinK (fun (t_31 : Bool) =>
  joinK (fun (t_40 : Bool) =>
  iteK t_40
  (some false)
  (loopK (l0 p_lost) fuel (false, 0) (e0 ))) fun jt_40 => iteK t_31 (appK jt_40 true) (letK ((p_lost.size : Int) != (p_town.size : Int)) fun (t_39 : Bool) =>
  appK jt_40 t_39)) fun jt_31 => iteK t_23 (appK jt_31 true) (Option.bind (Go.Proofs.Ytgimcnpkngpmiaa.GsL1In.P p_first 0 p_last) fun (t_29 : Bool) =>
  letK (!t_29) fun (t_30 : Bool) =>
  appK jt_31 t_30)) fun jt_23 => iteK t_17 (appK jt_23 true) (Option.bind (Go.Proofs.Ytgimcnpkngpmiaa.GsL2Day.P p_last) fun (t_21 : Bool) =>
  letK (!t_21) fun (t_22 : Bool) =>
  appK jt_23 t_22)) fun jt_17 => iteK t_11 (appK jt_17 true) (Option.bind (Go.Proofs.Ytgimcnpkngpmiaa.GsL1In.P p_kind_ 1 5) fun (t_15 : Bool) =>
  letK (!t_15) fun (t_16 : Bool) =>
  appK jt_17 t_16)) fun jt_11 => iteK t_5 (appK jt_11 true) (Option.bind (Go.Proofs.Ytgimcnpkngpmiaa.GsL2Word.P p_town) fun (t_9 : Bool) =>
  letK (!t_9) fun (t_10 : Bool) =>
  appK jt_11 t_10)

set_option maxRecDepth 100000 in
set_option maxHeartbeats 2000000 in
theorem C (fuel : Nat) (p : Go.Proofs.Ytgimcnpkngpmiaa.PPostmark.Postmark)   (w : World)   {r : Bool} (H : Hid (P fuel p = some r)) :
    Calls Try.prog 40 #[p.val] w (Gives (.bool r) w) := by
  have HB := Lib.hid (Below.refl w.heap.size w)
  unfold P at H
  obtain ⟨p_id, p_town, p_kind_, p_first, p_last, p_lost⟩ := p
  replace H := unPostmark_hid H
  unfold Go.Proofs.Ytgimcnpkngpmiaa.PPostmark.Postmark.val
  go_enter Try.func40, Try.ntmps40
  obtain ⟨w_p_0, hw_p_0⟩ : ∃ x, w.alloc (.cells #[.int .i64 p_id, .string p_town, .int .i64 p_kind_, .int .i64 p_first, .int .i64 p_last, .string p_lost] 26) = x := ⟨_, rfl⟩
  have bw_p_0 : Below w.heap.size w w_p_0 := by rw [← hw_p_0]; exact (Below.refl _ _).alloc (Nat.le_refl _) _
  have HBw_p_0 := Lib.hid (Below.step HB.out bw_p_0)
  clear bw_p_0
  have kp_0_0 : w_p_0.cell? ⟨w.heap.size, 0, none⟩ = some (.int .i64 p_id) := by rw [← hw_p_0]; exact box_new _ _ _ 0 _ rfl
  have kp_0_1 : w_p_0.cell? ⟨w.heap.size, 1, none⟩ = some (.string p_town) := by rw [← hw_p_0]; exact box_new _ _ _ 1 _ rfl
  have kp_0_2 : w_p_0.cell? ⟨w.heap.size, 2, none⟩ = some (.int .i64 p_kind_) := by rw [← hw_p_0]; exact box_new _ _ _ 2 _ rfl
  have kp_0_3 : w_p_0.cell? ⟨w.heap.size, 3, none⟩ = some (.int .i64 p_first) := by rw [← hw_p_0]; exact box_new _ _ _ 3 _ rfl
  have kp_0_4 : w_p_0.cell? ⟨w.heap.size, 4, none⟩ = some (.int .i64 p_last) := by rw [← hw_p_0]; exact box_new _ _ _ 4 _ rfl
  have kp_0_5 : w_p_0.cell? ⟨w.heap.size, 5, none⟩ = some (.string p_lost) := by rw [← hw_p_0]; exact box_new _ _ _ 5 _ rfl
  replace H := bind_hid H
  obtain ⟨t_4, qt_4, H⟩ := H
  go_wp2_with fail
  go_at_call 52
  refine (Go.Proofs.Ytgimcnpkngpmiaa.GsL1In.C (p_id) (1) (999)  _    qt_4).mono ?_
  rintro e_t_4 wt_4 ⟨rfl, bt_4⟩
  have HBwt_4 := Lib.hid (Below.step HBw_p_0.out bt_4)
  replace kp_0_0 := cell_below bt_4 kp_0_0
  replace kp_0_1 := cell_below bt_4 kp_0_1
  replace kp_0_2 := cell_below bt_4 kp_0_2
  replace kp_0_3 := cell_below bt_4 kp_0_3
  replace kp_0_4 := cell_below bt_4 kp_0_4
  replace kp_0_5 := cell_below bt_4 kp_0_5
  clear bt_4
  cases t_4 with
  | false =>
    replace H := let_hid H
    obtain ⟨t_5, ht_5, H⟩ := H
    obtain rfl : t_5 = true := ht_5.symm
    replace H := join_hid H
    replace H := ite_t H
    replace H := app_hid H
    replace H := join_hid H
    replace H := ite_t H
    replace H := app_hid H
    replace H := join_hid H
    replace H := ite_t H
    replace H := app_hid H
    replace H := join_hid H
    replace H := ite_t H
    replace H := app_hid H
    replace H := join_hid H
    replace H := ite_t H
    replace H := app_hid H
    replace H := ite_t H
    obtain rfl := ret_hid H
    go_wp2_with fail
    go_ret
    exact ⟨rfl, HBwt_4.out⟩
  | true =>
    replace H := let_hid H
    obtain ⟨t_5, ht_5, H⟩ := H
    obtain rfl : t_5 = false := ht_5.symm
    replace H := join_hid H
    replace H := ite_f H
    replace H := bind_hid H
    obtain ⟨t_9, qt_9, H⟩ := H
    go_wp2_with fail
    go_at_call 56
    refine (Go.Proofs.Ytgimcnpkngpmiaa.GsL2Word.C (p_town)  _    qt_9).mono ?_
    rintro e_t_9 wt_9 ⟨rfl, bt_9⟩
    have HBwt_9 := Lib.hid (Below.step HBwt_4.out bt_9)
    replace kp_0_0 := cell_below bt_9 kp_0_0
    replace kp_0_1 := cell_below bt_9 kp_0_1
    replace kp_0_2 := cell_below bt_9 kp_0_2
    replace kp_0_3 := cell_below bt_9 kp_0_3
    replace kp_0_4 := cell_below bt_9 kp_0_4
    replace kp_0_5 := cell_below bt_9 kp_0_5
    clear bt_9
    cases t_9 with
    | false =>
      replace H := let_hid H
      obtain ⟨t_10, ht_10, H⟩ := H
      obtain rfl : t_10 = true := ht_10.symm
      replace H := app_hid H
      replace H := join_hid H
      replace H := ite_t H
      replace H := app_hid H
      replace H := join_hid H
      replace H := ite_t H
      replace H := app_hid H
      replace H := join_hid H
      replace H := ite_t H
      replace H := app_hid H
      replace H := join_hid H
      replace H := ite_t H
      replace H := app_hid H
      replace H := ite_t H
      obtain rfl := ret_hid H
      go_wp2_with fail
      go_ret
      exact ⟨rfl, HBwt_9.out⟩
    | true =>
      replace H := let_hid H
      obtain ⟨t_10, ht_10, H⟩ := H
      obtain rfl : t_10 = false := ht_10.symm
      replace H := app_hid H
      replace H := join_hid H
      replace H := ite_f H
      replace H := bind_hid H
      obtain ⟨t_15, qt_15, H⟩ := H
      go_wp2_with fail
      go_at_call 52
      refine (Go.Proofs.Ytgimcnpkngpmiaa.GsL1In.C (p_kind_) (1) (5)  _    qt_15).mono ?_
      rintro e_t_15 wt_15 ⟨rfl, bt_15⟩
      have HBwt_15 := Lib.hid (Below.step HBwt_9.out bt_15)
      replace kp_0_0 := cell_below bt_15 kp_0_0
      replace kp_0_1 := cell_below bt_15 kp_0_1
      replace kp_0_2 := cell_below bt_15 kp_0_2
      replace kp_0_3 := cell_below bt_15 kp_0_3
      replace kp_0_4 := cell_below bt_15 kp_0_4
      replace kp_0_5 := cell_below bt_15 kp_0_5
      clear bt_15
      cases t_15 with
      | false =>
        replace H := let_hid H
        obtain ⟨t_16, ht_16, H⟩ := H
        obtain rfl : t_16 = true := ht_16.symm
        replace H := app_hid H
        replace H := join_hid H
        replace H := ite_t H
        replace H := app_hid H
        replace H := join_hid H
        replace H := ite_t H
        replace H := app_hid H
        replace H := join_hid H
        replace H := ite_t H
        replace H := app_hid H
        replace H := ite_t H
        obtain rfl := ret_hid H
        go_wp2_with fail
        go_ret
        exact ⟨rfl, HBwt_15.out⟩
      | true =>
        replace H := let_hid H
        obtain ⟨t_16, ht_16, H⟩ := H
        obtain rfl : t_16 = false := ht_16.symm
        replace H := app_hid H
        replace H := join_hid H
        replace H := ite_f H
        replace H := bind_hid H
        obtain ⟨t_21, qt_21, H⟩ := H
        go_wp2_with fail
        go_at_call 61
        refine (Go.Proofs.Ytgimcnpkngpmiaa.GsL2Day.C (p_last)  _    qt_21).mono ?_
        rintro e_t_21 wt_21 ⟨rfl, bt_21⟩
        have HBwt_21 := Lib.hid (Below.step HBwt_15.out bt_21)
        replace kp_0_0 := cell_below bt_21 kp_0_0
        replace kp_0_1 := cell_below bt_21 kp_0_1
        replace kp_0_2 := cell_below bt_21 kp_0_2
        replace kp_0_3 := cell_below bt_21 kp_0_3
        replace kp_0_4 := cell_below bt_21 kp_0_4
        replace kp_0_5 := cell_below bt_21 kp_0_5
        clear bt_21
        cases t_21 with
        | false =>
          replace H := let_hid H
          obtain ⟨t_22, ht_22, H⟩ := H
          obtain rfl : t_22 = true := ht_22.symm
          replace H := app_hid H
          replace H := join_hid H
          replace H := ite_t H
          replace H := app_hid H
          replace H := join_hid H
          replace H := ite_t H
          replace H := app_hid H
          replace H := ite_t H
          obtain rfl := ret_hid H
          go_wp2_with fail
          go_ret
          exact ⟨rfl, HBwt_21.out⟩
        | true =>
          replace H := let_hid H
          obtain ⟨t_22, ht_22, H⟩ := H
          obtain rfl : t_22 = false := ht_22.symm
          replace H := app_hid H
          replace H := join_hid H
          replace H := ite_f H
          replace H := bind_hid H
          obtain ⟨t_29, qt_29, H⟩ := H
          go_wp2_with fail
          go_at_call 52
          refine (Go.Proofs.Ytgimcnpkngpmiaa.GsL1In.C (p_first) (0) (p_last)  _    qt_29).mono ?_
          rintro e_t_29 wt_29 ⟨rfl, bt_29⟩
          have HBwt_29 := Lib.hid (Below.step HBwt_21.out bt_29)
          replace kp_0_0 := cell_below bt_29 kp_0_0
          replace kp_0_1 := cell_below bt_29 kp_0_1
          replace kp_0_2 := cell_below bt_29 kp_0_2
          replace kp_0_3 := cell_below bt_29 kp_0_3
          replace kp_0_4 := cell_below bt_29 kp_0_4
          replace kp_0_5 := cell_below bt_29 kp_0_5
          clear bt_29
          cases t_29 with
          | false =>
            replace H := let_hid H
            obtain ⟨t_30, ht_30, H⟩ := H
            obtain rfl : t_30 = true := ht_30.symm
            replace H := app_hid H
            replace H := join_hid H
            replace H := ite_t H
            replace H := app_hid H
            replace H := ite_t H
            obtain rfl := ret_hid H
            go_wp2_with fail
            go_ret
            exact ⟨rfl, HBwt_29.out⟩
          | true =>
            replace H := let_hid H
            obtain ⟨t_30, ht_30, H⟩ := H
            obtain rfl : t_30 = false := ht_30.symm
            replace H := app_hid H
            replace H := join_hid H
            replace H := ite_f H
            replace H := let_hid H
            obtain ⟨t_39, ht_39, H⟩ := H
            replace H := app_hid H
            cases t_39 with
            | false =>
              have Hht_39 : Hid (p_lost.size = p_town.size) := Lib.hid (by have := bne_eq_false_iff_eq.1 ht_39; omega)
              have nht_39 : (p_lost.size == p_town.size) = true := beq_iff_eq.2 Hht_39.out
              replace H := ite_f H
              go_wp2_with fail
              go_loopg [3, 4] (fuel) (fun m_ v3_ v4_ wr => ∃ (seen_3l0 : Bool) (i_4l0 : Int), v3_ = .bool seen_3l0 ∧ v4_ = .int .i64 i_4l0 ∧ Hid (loopK (l0 p_lost) m_ (seen_3l0, i_4l0) (e0 ) = some r) ∧ Hid (Below w.heap.size w wr) ∧ wr.cell? ⟨w.heap.size, 0, none⟩ = some (.int .i64 p_id) ∧ wr.cell? ⟨w.heap.size, 1, none⟩ = some (.string p_town) ∧ wr.cell? ⟨w.heap.size, 2, none⟩ = some (.int .i64 p_kind_) ∧ wr.cell? ⟨w.heap.size, 3, none⟩ = some (.int .i64 p_first) ∧ wr.cell? ⟨w.heap.size, 4, none⟩ = some (.int .i64 p_last) ∧ wr.cell? ⟨w.heap.size, 5, none⟩ = some (.string p_lost))
              case atStart => exact ⟨_, _, rfl, rfl, H, HBwt_29, kp_0_0, kp_0_1, kp_0_2, kp_0_3, kp_0_4, kp_0_5⟩
              case round =>
                obtain ⟨seen_3l0, i_4l0, rfl, rfl, H, HBwr0, kp_0_0, kp_0_1, kp_0_2, kp_0_3, kp_0_4, kp_0_5⟩ := hrel
                rename World => wr0
                cases gk with
                | zero => exact (loop_zero H).elim
                | succ m0 =>
                  replace H := loop_succ H
                  unfold l0 at H
                  replace H := unp2_hid H
                  replace H := let_hid H
                  obtain ⟨t_48, ht_48, H⟩ := H
                  cases t_48 with
                  | false =>
                    replace H := ite_f H
                    replace H := app_hid H
                    unfold e0 at H
                    replace H := unp2_hid H
                    obtain rfl := ret_hid H
                    go_wp2_with fail
                    go_ret
                    exact ⟨rfl, HBwr0.out⟩
                  | true =>
                    replace H := ite_t H
                    replace H := idx_hid H
                    obtain ⟨nt_52, yt_52, et_52, lt_52, gt_52, H⟩ := H
                    subst et_52
                    have nc_151 : nt_52 < p_lost.size := by have := of_decide_eq_true ht_48; omega
                    have rt_52 := byte_rule lt_52 gt_52.out
                    have b0t_52 : (0 : Int) ≤ (nt_52 : Int) := by omega
                    have b1t_52 : (nt_52 : Int) < (p_lost.size : Int) := by have := size_list p_lost; omega
                    have b2t_52 : ((nt_52 : Int)).toNat = nt_52 := by omega
                    have b3t_52 : nt_52 < p_lost.size := by have := size_list p_lost; omega
                    replace H := let_hid H
                    obtain ⟨t_52, ht_52, H⟩ := H
                    replace H := let_hid H
                    obtain ⟨t_53, ht_53, H⟩ := H
                    replace H := join_hid H
                    cases t_53 with
                    | false =>
                      replace H := ite_f H
                      replace H := app_hid H
                      replace H := ite_f H
                      replace H := join_hid H
                      cases seen_3l0 with
                      | false =>
                        replace H := ite_f H
                        replace H := idx_hid H
                        obtain ⟨nt_67, yt_67, et_67, lt_67, gt_67, H⟩ := H
                        obtain rfl : nt_52 = nt_67 := by omega
                        clear et_67
                        obtain rfl := Option.some.inj (gt_52.out.symm.trans gt_67.out)
                        clear gt_67 lt_67
                        replace H := let_hid H
                        obtain ⟨t_67, ht_67, H⟩ := H
                        obtain rfl := ht_52.symm.trans ht_67
                        replace H := let_hid H
                        obtain ⟨t_68, ht_68, H⟩ := H
                        replace H := app_hid H
                        replace H := let_hid H
                        obtain ⟨t_72, ht_72, H⟩ := H
                        replace H := app_hid H
                        go_wp2_with fail
                        go_roundg m0
                        case measure => omega
                        case rel => exact ⟨_, _, rfl, rfl, H, HBwr0, kp_0_0, kp_0_1, kp_0_2, kp_0_3, kp_0_4, kp_0_5⟩
                      | true =>
                        replace H := ite_t H
                        replace H := app_hid H
                        replace H := let_hid H
                        obtain ⟨t_72, ht_72, H⟩ := H
                        replace H := app_hid H
                        go_wp2_with fail
                        go_roundg m0
                        case measure => omega
                        case rel => exact ⟨_, _, rfl, rfl, H, HBwr0, kp_0_0, kp_0_1, kp_0_2, kp_0_3, kp_0_4, kp_0_5⟩
                    | true =>
                      replace H := ite_t H
                      replace H := idx_hid H
                      obtain ⟨nt_58, yt_58, et_58, lt_58, gt_58, H⟩ := H
                      obtain rfl : nt_52 = nt_58 := by omega
                      clear et_58
                      obtain rfl := Option.some.inj (gt_52.out.symm.trans gt_58.out)
                      clear gt_58 lt_58
                      replace H := let_hid H
                      obtain ⟨t_58, ht_58, H⟩ := H
                      obtain rfl := ht_52.symm.trans ht_58
                      replace H := let_hid H
                      obtain ⟨t_59, ht_59, H⟩ := H
                      replace H := app_hid H
                      cases t_59 with
                      | false =>
                        replace H := ite_f H
                        replace H := join_hid H
                        cases seen_3l0 with
                        | false =>
                          replace H := ite_f H
                          replace H := idx_hid H
                          obtain ⟨nt_67, yt_67, et_67, lt_67, gt_67, H⟩ := H
                          obtain rfl : nt_52 = nt_67 := by omega
                          clear et_67
                          obtain rfl := Option.some.inj (gt_52.out.symm.trans gt_67.out)
                          clear gt_67 lt_67
                          replace H := let_hid H
                          obtain ⟨t_67, ht_67, H⟩ := H
                          obtain rfl := ht_52.symm.trans ht_67
                          replace H := let_hid H
                          obtain ⟨t_68, ht_68, H⟩ := H
                          replace H := app_hid H
                          replace H := let_hid H
                          obtain ⟨t_72, ht_72, H⟩ := H
                          replace H := app_hid H
                          go_wp2_with fail
                          go_roundg m0
                          case measure => omega
                          case rel => exact ⟨_, _, rfl, rfl, H, HBwr0, kp_0_0, kp_0_1, kp_0_2, kp_0_3, kp_0_4, kp_0_5⟩
                        | true =>
                          replace H := ite_t H
                          replace H := app_hid H
                          replace H := let_hid H
                          obtain ⟨t_72, ht_72, H⟩ := H
                          replace H := app_hid H
                          go_wp2_with fail
                          go_roundg m0
                          case measure => omega
                          case rel => exact ⟨_, _, rfl, rfl, H, HBwr0, kp_0_0, kp_0_1, kp_0_2, kp_0_3, kp_0_4, kp_0_5⟩
                      | true =>
                        replace H := ite_t H
                        obtain rfl := ret_hid H
                        go_wp2_with fail
                        go_ret
                        exact ⟨rfl, HBwr0.out⟩
            | true =>
              have nht_39 : ¬ (p_lost.size = p_town.size) := by have := bne_iff_ne.1 ht_39; omega
              replace H := ite_t H
              obtain rfl := ret_hid H
              go_wp2_with fail
              go_ret
              exact ⟨rfl, HBwt_29.out⟩
end Go.Proofs.Ytgimcnpkngpmiaa.GsL11One

/- loop.example/g01062/impl.within as a plain function, and the contract of the program's: where the plain one has an answer, the program has it. Conditions: slices read as lists. -/
namespace Go.Proofs.Ytgimcnpkngpmiaa.GiWithin
set_option linter.unusedVariables false
set_option linter.unusedSimpArgs false
open Go.RowKit
open Go.Proofs.Ytgimcnpkngpmiaa.Rowed Go.Proofs.Ytgimcnpkngpmiaa.Turn Go.Proofs.Ytgimcnpkngpmiaa.Aid Go.Proofs.Ytgimcnpkngpmiaa.GoP Go.Proofs.Ytgimcnpkngpmiaa.GoM

def P (n_0 : Int) (low : Int) (high : Int) : Option (Bool) :=
  letK (decide (low ≤ n_0)) fun (t_3 : Bool) =>
  joinK (fun (t_8 : Bool) =>
  some t_8) fun jt_8 => iteK t_3 (letK (decide (n_0 ≤ high)) fun (t_7 : Bool) =>
  appK jt_8 t_7) (appK jt_8 false)

set_option maxRecDepth 100000 in
set_option maxHeartbeats 2000000 in
theorem C (n_0 : Int) (low : Int) (high : Int)   (w : World)   {r : Bool} (H : Hid (P n_0 low high = some r)) :
    Calls Try.prog 41 #[.int .i64 n_0, .int .i64 low, .int .i64 high] w (Gives (.bool r) w) := by
  have HB := Lib.hid (Below.refl w.heap.size w)
  unfold P at H
  go_enter Try.func41, Try.ntmps41
  replace H := let_hid H
  obtain ⟨t_3, ht_3, H⟩ := H
  replace H := join_hid H
  cases t_3 with
  | false =>
    replace H := ite_f H
    replace H := app_hid H
    obtain rfl := ret_hid H
    go_wp2_with fail
    go_ret
    exact ⟨rfl, HB.out⟩
  | true =>
    replace H := ite_t H
    replace H := let_hid H
    obtain ⟨t_7, ht_7, H⟩ := H
    replace H := app_hid H
    obtain rfl := ret_hid H
    go_wp2_with fail
    go_ret
    exact ⟨rfl, HB.out⟩

set_option maxRecDepth 100000 in
set_option maxHeartbeats 2000000 in
theorem C0 (n_0 : Int) (low : Int) (high : Int)   (w : World)   {r : Bool} (H : Hid (P n_0 low high = some r)) :
    Calls Try.prog 41 #[.int .i64 n_0, .int .i64 low, .int .i64 high] w (fun e w'' => e = .returned (.bool r) ∧ w'' = w) := by
  have HB := Lib.hid (Below.refl w.heap.size w)
  unfold P at H
  go_enter Try.func41, Try.ntmps41
  replace H := let_hid H
  obtain ⟨t_3, ht_3, H⟩ := H
  replace H := join_hid H
  cases t_3 with
  | false =>
    replace H := ite_f H
    replace H := app_hid H
    obtain rfl := ret_hid H
    go_wp2_with fail
    go_ret
    exact ⟨rfl, rfl⟩
  | true =>
    replace H := ite_t H
    replace H := let_hid H
    obtain ⟨t_7, ht_7, H⟩ := H
    replace H := app_hid H
    obtain rfl := ret_hid H
    go_wp2_with fail
    go_ret
    exact ⟨rfl, rfl⟩
end Go.Proofs.Ytgimcnpkngpmiaa.GiWithin

/- loop.example/g01062/impl.isLetter as a plain function, and the contract of the program's: where the plain one has an answer, the program has it. Conditions: slices read as lists. -/
namespace Go.Proofs.Ytgimcnpkngpmiaa.GiIsLetter
set_option linter.unusedVariables false
set_option linter.unusedSimpArgs false
open Go.RowKit
open Go.Proofs.Ytgimcnpkngpmiaa.Rowed Go.Proofs.Ytgimcnpkngpmiaa.Turn Go.Proofs.Ytgimcnpkngpmiaa.Aid Go.Proofs.Ytgimcnpkngpmiaa.GoP Go.Proofs.Ytgimcnpkngpmiaa.GoM

def P (c : Int) : Option (Bool) :=
  letK (decide (97 ≤ c)) fun (t_2 : Bool) =>
  joinK (fun (t_6 : Bool) =>
  some t_6) fun jt_6 => iteK t_2 (letK (decide (c ≤ 122)) fun (t_5 : Bool) =>
  appK jt_6 t_5) (appK jt_6 false)

set_option maxRecDepth 100000 in
set_option maxHeartbeats 2000000 in
theorem C (c : Int)   (w : World)   {r : Bool} (H : Hid (P c = some r)) :
    Calls Try.prog 75 #[.int .u8 c] w (Gives (.bool r) w) := by
  have HB := Lib.hid (Below.refl w.heap.size w)
  unfold P at H
  go_enter Try.func75, Try.ntmps75
  replace H := let_hid H
  obtain ⟨t_2, ht_2, H⟩ := H
  replace H := join_hid H
  cases t_2 with
  | false =>
    replace H := ite_f H
    replace H := app_hid H
    obtain rfl := ret_hid H
    go_wp2_with fail
    go_ret
    exact ⟨rfl, HB.out⟩
  | true =>
    replace H := ite_t H
    replace H := let_hid H
    obtain ⟨t_5, ht_5, H⟩ := H
    replace H := app_hid H
    obtain rfl := ret_hid H
    go_wp2_with fail
    go_ret
    exact ⟨rfl, HB.out⟩

set_option maxRecDepth 100000 in
set_option maxHeartbeats 2000000 in
theorem C0 (c : Int)   (w : World)   {r : Bool} (H : Hid (P c = some r)) :
    Calls Try.prog 75 #[.int .u8 c] w (fun e w'' => e = .returned (.bool r) ∧ w'' = w) := by
  have HB := Lib.hid (Below.refl w.heap.size w)
  unfold P at H
  go_enter Try.func75, Try.ntmps75
  replace H := let_hid H
  obtain ⟨t_2, ht_2, H⟩ := H
  replace H := join_hid H
  cases t_2 with
  | false =>
    replace H := ite_f H
    replace H := app_hid H
    obtain rfl := ret_hid H
    go_wp2_with fail
    go_ret
    exact ⟨rfl, rfl⟩
  | true =>
    replace H := ite_t H
    replace H := let_hid H
    obtain ⟨t_5, ht_5, H⟩ := H
    replace H := app_hid H
    obtain rfl := ret_hid H
    go_wp2_with fail
    go_ret
    exact ⟨rfl, rfl⟩
end Go.Proofs.Ytgimcnpkngpmiaa.GiIsLetter

