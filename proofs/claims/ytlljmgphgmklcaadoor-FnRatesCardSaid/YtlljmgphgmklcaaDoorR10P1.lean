/- Texts on which the proofs of several laws stand, one behind the other (1 of 10). No condition of their own. -/
import Derived.Lib.Hide
import Derived.Below
import Derived.Laws.OwnMore
import Derived.Laws.World
import Derived.Deep.Draws
import Derived.Lib.QuietBelow
import Derived.Lib.Strings
import Derived.OwnWalk
import Derived.Laws.Strings3
import Derived.Laws.AppendOwnNone
import Derived.Laws.DeepStrings4
import Derived.Laws.Slices
import Derived.Deep.Slices
import Derived.Laws.MakeOwn
import Derived.Maps.AppendAt
import Derived.Lib.LaidU8
import Derived.WalkKit
import Derived.WalkSpells
import Derived.Shelf.Small.Bits
import Derived.Shelf.Small.Wraps
import Derived.Shelf.Strconv.Itoa0
import Derived.Shelf.Strconv.Itoa1
import Derived.Shelf.LaysM
import Derived.Shelf.Strconv.Itoa2
import Derived.Shelf.Strconv.Itoa3
import Derived.Shelf.Sort.Plain
import Derived.Ground.Names2Prog
import Derived.Shelf.Slices.CompactI
import Derived.Shelf.Slices.SearchI
import Derived.Shelf.Slices.Cells
import Derived.Shelf.Slices.In.SortNone
import Derived.Test.YtlljmgphgmklcaaDoorProg
import Derived.Test.YtlljmgphgmklcaaDoorChecked
import Derived.Lib.AppendIntMem
/- Words in which a Go function is written as a plain function that either has an answer or has none (a panic, or a loop that does not end in time); and how such a sentence is taken apart. No condition. -/
namespace Go.Proofs.YtlljmgphgmklcaaDoor.GoP
set_option linter.unusedVariables false
open Go.RowKit

def idx {α : Type} (l : List α) (i : Int) : Option α := if 0 ≤ i then l[i.toNat]? else none
def letK {α ρ : Type} (x : α) (f : α → Option ρ) : Option ρ := f x
def iteK {ρ : Type} (c : Bool) (a b : Option ρ) : Option ρ := match c with | true => a | false => b
def joinK {γ : Type} {ρ : Type} (rest : γ) (f : γ → Option ρ) : Option ρ := f rest
def appK {α ρ : Type} (j : α → Option ρ) (x : α) : Option ρ := j x
def guardK {ρ : Type} (p : Prop) [Decidable p] (a : Option ρ) : Option ρ := if p then a else none
def bind2 {α β ρ : Type} (x : Option (α × β)) (f : α → β → Option ρ) : Option ρ := match x with | none => none | some (a, b) => f a b
def bind3 {α β γ ρ : Type} (x : Option (α × β × γ)) (f : α → β → γ → Option ρ) : Option ρ := match x with | none => none | some (a, b, c) => f a b c
def bind4 {α β γ δ ρ : Type} (x : Option (α × β × γ × δ)) (f : α → β → γ → δ → Option ρ) : Option ρ := match x with | none => none | some (a, b, c, d) => f a b c d
def unp2 {α β ρ : Type} (s : α × β) (f : α → β → Option ρ) : Option ρ := f s.1 s.2
def unp3 {α β γ ρ : Type} (s : α × β × γ) (f : α → β → γ → Option ρ) : Option ρ := f s.1 s.2.1 s.2.2
def unp4 {α β γ δ ρ : Type} (s : α × β × γ × δ) (f : α → β → γ → δ → Option ρ) : Option ρ := f s.1 s.2.1 s.2.2.1 s.2.2.2
/-- m rounds, counted from k on -/
def cntK {σ ρ : Type} (f : Nat → σ → (σ → Option ρ) → (σ → Option ρ) → Option ρ) : Nat → Nat → σ → (σ → Option ρ) → Option ρ
  | 0, _, s, fin => fin s
  | m + 1, k, s, fin => f k s (fun s' => cntK f m (k + 1) s' fin) fin
/-- rounds until one ends the loop, n at most -/
def loopK {σ ρ : Type} (f : σ → (σ → Option ρ) → (σ → Option ρ) → Option ρ) : Nat → σ → (σ → Option ρ) → Option ρ
  | 0, _, _ => none
  | n + 1, s, fin => f s (fun s' => loopK f n s' fin) fin

theorem let_hid {α ρ : Type} {x : α} {f : α → Option ρ} {r : ρ} (H : Hid (letK x f = some r)) : ∃ y, x = y ∧ Hid (f y = some r) := ⟨x, rfl, H⟩
theorem bind_hid {α ρ : Type} {x : Option α} {f : α → Option ρ} {r : ρ} (H : Hid (x.bind f = some r)) : ∃ y, Hid (x = some y) ∧ Hid (f y = some r) := by
  have h : x.bind f = some r := H
  cases x with
  | none => simp at h
  | some y => exact ⟨y, rfl, h⟩
theorem bind2_hid {α β ρ : Type} {x : Option (α × β)} {f : α → β → Option ρ} {r : ρ} (H : Hid (bind2 x f = some r)) : ∃ a b, Hid (x = some (a, b)) ∧ Hid (f a b = some r) := by
  have h : bind2 x f = some r := H
  cases x with
  | none => simp [bind2] at h
  | some y => exact ⟨y.1, y.2, rfl, h⟩
theorem bind3_hid {α β γ ρ : Type} {x : Option (α × β × γ)} {f : α → β → γ → Option ρ} {r : ρ} (H : Hid (bind3 x f = some r)) : ∃ a b c, Hid (x = some (a, b, c)) ∧ Hid (f a b c = some r) := by
  have h : bind3 x f = some r := H
  cases x with
  | none => simp [bind3] at h
  | some y => exact ⟨y.1, y.2.1, y.2.2, rfl, h⟩
theorem bind4_hid {α β γ δ ρ : Type} {x : Option (α × β × γ × δ)} {f : α → β → γ → δ → Option ρ} {r : ρ} (H : Hid (bind4 x f = some r)) : ∃ a b c d, Hid (x = some (a, b, c, d)) ∧ Hid (f a b c d = some r) := by
  have h : bind4 x f = some r := H
  cases x with
  | none => simp [bind4] at h
  | some y => exact ⟨y.1, y.2.1, y.2.2.1, y.2.2.2, rfl, h⟩
theorem ite_t {ρ : Type} {a b : Option ρ} {r : ρ} (H : Hid (iteK true a b = some r)) : Hid (a = some r) := H
theorem ite_f {ρ : Type} {a b : Option ρ} {r : ρ} (H : Hid (iteK false a b = some r)) : Hid (b = some r) := H
theorem join_hid {γ ρ : Type} {j : γ} {f : γ → Option ρ} {r : ρ} (H : Hid (joinK j f = some r)) : Hid (f j = some r) := H
theorem app_hid {α ρ : Type} {j : α → Option ρ} {x : α} {r : ρ} (H : Hid (appK j x = some r)) : Hid (j x = some r) := H
theorem guard_hid {ρ : Type} {p : Prop} [Decidable p] {a : Option ρ} {r : ρ} (H : Hid (guardK p a = some r)) : p ∧ Hid (a = some r) := by
  have h : guardK p a = some r := H
  unfold guardK at h
  by_cases hp : p
  · rw [if_pos hp] at h; exact ⟨hp, h⟩
  · rw [if_neg hp] at h; simp at h
theorem unp2_hid {α β ρ : Type} {a : α} {b : β} {f : α → β → Option ρ} {r : ρ} (H : Hid (unp2 (a, b) f = some r)) : Hid (f a b = some r) := H
theorem unp3_hid {α β γ ρ : Type} {a : α} {b : β} {c : γ} {f : α → β → γ → Option ρ} {r : ρ} (H : Hid (unp3 (a, b, c) f = some r)) : Hid (f a b c = some r) := H
theorem unp4_hid {α β γ δ ρ : Type} {a : α} {b : β} {c : γ} {d : δ} {f : α → β → γ → δ → Option ρ} {r : ρ} (H : Hid (unp4 (a, b, c, d) f = some r)) : Hid (f a b c d = some r) := H
theorem cnt_zero {σ ρ : Type} {f : Nat → σ → (σ → Option ρ) → (σ → Option ρ) → Option ρ} {k : Nat} {s : σ} {fin : σ → Option ρ} {r : ρ} (H : Hid (cntK f 0 k s fin = some r)) : Hid (fin s = some r) := H
theorem cnt_succ {σ ρ : Type} {f : Nat → σ → (σ → Option ρ) → (σ → Option ρ) → Option ρ} {m k : Nat} {s : σ} {fin : σ → Option ρ} {r : ρ} (H : Hid (cntK f (m + 1) k s fin = some r)) :
    Hid (f k s (fun s' => cntK f m (k + 1) s' fin) fin = some r) := H
theorem loop_zero {σ ρ : Type} {f : σ → (σ → Option ρ) → (σ → Option ρ) → Option ρ} {s : σ} {fin : σ → Option ρ} {r : ρ} (H : Hid (loopK f 0 s fin = some r)) : False := by
  have h : loopK f 0 s fin = some r := H
  simp [loopK] at h
theorem loop_succ {σ ρ : Type} {f : σ → (σ → Option ρ) → (σ → Option ρ) → Option ρ} {n : Nat} {s : σ} {fin : σ → Option ρ} {r : ρ} (H : Hid (loopK f (n + 1) s fin = some r)) :
    Hid (f s (fun s' => loopK f n s' fin) fin = some r) := H
theorem ret_hid {ρ : Type} {v r : ρ} (H : Hid (some v = some r)) : v = r := Option.some.inj H
theorem none_hid {ρ : Type} {r : ρ} (H : Hid ((none : Option ρ) = some r)) : False := by
  have h : (none : Option ρ) = some r := H
  simp at h
theorem idx_hid {α ρ : Type} {l : List α} {i : Int} {f : α → Option ρ} {r : ρ} (H : Hid ((idx l i).bind f = some r)) :
    ∃ (k : Nat) (x : α), i = (k : Int) ∧ k < l.length ∧ Hid (l[k]? = some x) ∧ Hid (f x = some r) := by
  have h : (idx l i).bind f = some r := H
  unfold idx at h
  by_cases hi : 0 ≤ i
  · rw [if_pos hi] at h
    cases hx : l[i.toNat]? with
    | none => rw [hx] at h; simp at h
    | some x =>
      rw [hx] at h
      exact ⟨i.toNat, x, (Int.toNat_of_nonneg hi).symm, (List.getElem?_eq_some_iff.1 hx).1, hx, h⟩
  · rw [if_neg hi] at h; simp at h
theorem idx_nat {α : Type} (l : List α) (k : Nat) : idx l (k : Int) = l[k]? := by unfold idx; rw [if_pos (by omega)]; simp
end Go.Proofs.YtlljmgphgmklcaaDoor.GoP

/- Words for a slice that reads as a list of values, nil and empty let in; for slices of strings; and what becomes of them in later worlds. No condition. -/
namespace Go.Proofs.YtlljmgphgmklcaaDoor.Rowed
set_option linter.unusedVariables false
open Go.RowKit

theorem add_block (a : Addr) (n : Nat) : (a.add n).block = a.block := by unfold Addr.add; split <;> rfl
theorem cell_lt {w : World} {a : Addr} {v : Value} (h : w.cell? a = some v) : a.block < w.heap.size := World.block_lt_of_cell? w a h
theorem cell_below {w w' : World} (hb : Below w.heap.size w w') {a : Addr} {v : Value} (hc : w.cell? a = some v) : w'.cell? a = some v := (hb.cell (cell_lt hc)).trans hc
theorem below_drewN (w : World) (m : Nat) : Below w.heap.size w (w.drewN m) := ⟨rfl, rfl, rfl, Nat.le_refl _, fun _ _ => rfl⟩
theorem Below.step {a b c : World} (h : Below a.heap.size a b) (k : Below b.heap.size b c) : Below a.heap.size a c := h.trans (k.mono h.size)

/-- the world has drawn, and nothing else has turned -/
def DrawnTo (w w' : World) : Prop := ∃ m, w' = w.drewN m
theorem DrawnTo.refl (w : World) : DrawnTo w w := ⟨0, rfl⟩
theorem DrawnTo.more {w w' : World} (h : DrawnTo w w') (n : Nat) : DrawnTo w (w'.drewN n) := let ⟨m, e⟩ := h; ⟨m + n, by rw [e, World.drewN_drewN]⟩
theorem DrawnTo.trans {a b c : World} (h : DrawnTo a b) (k : DrawnTo b c) : DrawnTo a c := by
  obtain ⟨m, rfl⟩ := h
  obtain ⟨n, rfl⟩ := k
  exact ⟨m + n, World.drewN_drewN ..⟩
theorem DrawnTo.cell {w w' : World} (h : DrawnTo w w') {a : Addr} {v : Value} (hc : w.cell? a = some v) : w'.cell? a = some v := by
  obtain ⟨m, rfl⟩ := h; exact hc
theorem DrawnTo.below {w w' : World} (h : DrawnTo w w') : Below w.heap.size w w' := by
  obtain ⟨m, rfl⟩ := h; exact below_drewN w m

/-- the slice 'A, n' reads as the cells xs (size cells each element) -/
def Cells (w : World) (size : Nat) (A : Option Addr) (n : Nat) (xs : List Value) : Prop :=
  xs.length = n * size ∧ (0 < xs.length → ∃ ad : Addr, A = some ad ∧ ∀ j u, xs[j]? = some u → w.cell? (ad.add j) = some u)

theorem Cells.below {w w' : World} {size n : Nat} {A : Option Addr} {xs : List Value} (h : Cells w size A n xs) (hb : Below w.heap.size w w') : Cells w' size A n xs :=
  ⟨h.1, fun hn => let ⟨ad, e, hc⟩ := h.2 hn; ⟨ad, e, fun j u hu => cell_below hb (hc j u hu)⟩⟩
theorem Cells.drewN {w : World} {size n : Nat} {A : Option Addr} {xs : List Value} (h : Cells w size A n xs) (m : Nat) : Cells (w.drewN m) size A n xs := h
theorem Cells.nil_ (w : World) (size : Nat) (A : Option Addr) : Cells w size A 0 [] := ⟨by simp, fun h => by simp at h⟩
theorem Cells.at_ {w : World} {n k : Nat} {A : Option Addr} {xs : List Value} (h : Cells w 1 A n xs) (hk : k < n) : ∃ ad u, A = some ad ∧ xs[k]? = some u ∧ w.cell? (ad.add k) = some u := by
  have hl : k < xs.length := by have := h.1; omega
  obtain ⟨ad, e, hc⟩ := h.2 (by omega)
  exact ⟨ad, xs[k], e, List.getElem?_eq_getElem hl, hc k _ (List.getElem?_eq_getElem hl)⟩
theorem Cells.of_own {w : World} {base size n c g : Nat} {e : TypeId} {xs : List Value} (h : w.ownsRow base e size (.slice (some ⟨g, 0, none⟩) n c) n xs) : Cells w size (some ⟨g, 0, none⟩) n xs :=
  ⟨h.1, fun _ => ⟨_, rfl, fun j u hu => h.cells (g := g) rfl j u hu⟩⟩

/-- a row that is filled from the left -/
def fill (a ys : List Value) (k : Nat) : List Value := a.take k ++ ys.drop k
theorem fill_zero (a ys : List Value) : fill a ys 0 = ys := by simp [fill]
theorem fill_all (a ys : List Value) (h : ys.length = a.length) : fill a ys a.length = a := by
  unfold fill; rw [List.take_of_length_le (Nat.le_refl _), ← h, List.drop_of_length_le (Nat.le_refl _), List.append_nil]
theorem fill_set (a ys : List Value) (k : Nat) (u : Value) (hk : k < ys.length) (hu : a[k]? = some u) : (fill a ys k).set k u = fill a ys (k + 1) := by
  have ha := (List.getElem?_eq_some_iff.1 hu).1
  have hau := (List.getElem?_eq_some_iff.1 hu).2
  unfold fill
  have hl : (a.take k).length = k := by rw [List.length_take]; omega
  rw [List.set_append_right _ _ (by omega), hl, Nat.sub_self, List.take_succ_eq_append_getElem ha, hau, List.drop_eq_getElem_cons hk, List.set_cons_zero, List.append_assoc]
  rfl
theorem fill_len (a ys : List Value) (k : Nat) (h : ys.length = a.length) : (fill a ys k).length = ys.length := by
  unfold fill; rw [List.length_append, List.length_take, List.length_drop]; omega

/-- the slice 'A, n' reads as the strings l -/
def Strs (w : World) (A : Option Addr) (n : Nat) (l : List ByteArray) : Prop := Cells w 1 A n (l.map Value.string)
theorem Strs.len {w : World} {A : Option Addr} {n : Nat} {l : List ByteArray} (h : Strs w A n l) : l.length = n := by have := h.1; simpa using this
theorem Strs.below {w w' : World} {A : Option Addr} {n : Nat} {l : List ByteArray} (h : Strs w A n l) (hb : Below w.heap.size w w') : Strs w' A n l := Cells.below h hb
theorem Strs.at_ {w : World} {A : Option Addr} {n k : Nat} {l : List ByteArray} (h : Strs w A n l) (hk : k < n) : ∃ ad x, A = some ad ∧ l[k]? = some x ∧ w.cell? (ad.add k) = some (.string x) := by
  obtain ⟨ad, u, e, hx, hc⟩ := Cells.at_ h hk
  rw [List.getElem?_map] at hx
  cases hl : l[k]? with
  | none => rw [hl] at hx; simp at hx
  | some x => rw [hl] at hx; obtain rfl : Value.string x = u := by simpa using hx
              exact ⟨ad, x, e, rfl, hc⟩

end Go.Proofs.YtlljmgphgmklcaaDoor.Rowed

/- Words on what may turn between two worlds: only the blocks of one span; and on rows that lie in a span of blocks, read or owned. No condition. -/
namespace Go.Proofs.YtlljmgphgmklcaaDoor.Turn
set_option linter.unusedVariables false
open Go.RowKit
open Go.Proofs.YtlljmgphgmklcaaDoor.Rowed

/-- of what was there, only blocks from lo on and below hi may have turned -/
structure Turned (lo hi : Nat) (w w' : World) : Prop where
  os : w'.os = w.os
  tape : w'.tape = w.tape
  output : w'.output = w.output
  size : w.heap.size ≤ w'.heap.size
  block : ∀ k, k < w.heap.size → ¬ (lo ≤ k ∧ k < hi) → w'.heap[k]? = w.heap[k]?
theorem Turned.of_grown {w w' : World} {lo hi : Nat} {r : Option Nat} (h : w.grownBy w' r) (hr : ∀ k, r = some k → lo ≤ k ∧ k < hi) : Turned lo hi w w' :=
  ⟨h.os, h.tape, h.output, h.size, fun k hk hn => h.block k hk (fun e => hn (hr k e.symm))⟩
theorem below_turned {w wr w' : World} {lo hi : Nat} (h : Below w.heap.size w wr) (t : Turned lo hi wr w') (hl : w.heap.size ≤ lo) : Below w.heap.size w w' :=
  ⟨t.os.trans h.os, t.tape.trans h.tape, t.output.trans h.output, Nat.le_trans h.size t.size, fun k hk => (t.block k (Nat.lt_of_lt_of_le hk h.size) (by omega)).trans (h.block k hk)⟩

/-- the slice 'A, n' reads as the cells xs, and they lie in blocks from lo on and below hi -/
structure Rd (w : World) (size lo hi : Nat) (A : Option Addr) (n : Nat) (xs : List Value) : Prop where
  cells : Cells w size A n xs
  span : ∀ ad, A = some ad → 0 < xs.length → lo ≤ ad.block ∧ ad.block < hi
  top : hi ≤ w.heap.size
theorem Rd.below {w w' : World} {size lo hi n : Nat} {A : Option Addr} {xs : List Value} (h : Rd w size lo hi A n xs) (hb : Below w.heap.size w w') : Rd w' size lo hi A n xs :=
  ⟨h.cells.below hb, h.span, Nat.le_trans h.top hb.size⟩
theorem Rd.turned {w w' : World} {size lo hi a b n : Nat} {A : Option Addr} {xs : List Value} (h : Rd w size lo hi A n xs) (t : Turned a b w w') (hd : hi ≤ a ∨ b ≤ lo) : Rd w' size lo hi A n xs :=
  ⟨⟨h.cells.1, fun hn => by
    obtain ⟨ad, e, hc⟩ := h.cells.2 hn
    have hs := h.span ad e hn
    have ht := h.top
    exact ⟨ad, e, fun j u hu => (World.cell?_of_block (by rw [add_block]; exact t.block _ (by omega) (by omega))).trans (hc j u hu)⟩⟩, h.span, Nat.le_trans h.top t.size⟩
/-- cells that came in -/
theorem Rd.came {w : World} {size n : Nat} {A : Option Addr} {xs : List Value} (h : Cells w size A n xs) : Rd w size 0 w.heap.size A n xs :=
  ⟨h, fun ad e hn => by
    obtain ⟨ad', e', hc⟩ := h.2 hn
    obtain rfl : ad = ad' := by rw [e] at e'; exact Option.some.inj e'
    have h0 := cell_lt (hc 0 _ (List.getElem?_eq_getElem hn))
    rw [add_block] at h0
    exact ⟨Nat.zero_le _, h0⟩, Nat.le_refl _⟩

/-- the slice 'A, n, c' is a row of the call's own with the cells xs, in a block from lo on and below hi -/
structure Ow (w : World) (T : TypeId) (size lo hi : Nat) (A : Option Addr) (n c : Nat) (xs : List Value) : Prop where
  own : w.ownsRow lo T size (.slice A n c) n xs
  span : ∀ q, (Value.slice A n c).ownBlock = some q → q < hi
  top : hi ≤ w.heap.size
theorem Ow.of {w : World} {T : TypeId} {size lo n c : Nat} {A : Option Addr} {xs : List Value} (h : w.ownsRow lo T size (.slice A n c) n xs) : Ow w T size lo w.heap.size A n c xs :=
  ⟨h, fun q hq => (h.lt q hq).2, Nat.le_refl _⟩
theorem Ow.kept {w w' : World} {T : TypeId} {size lo hi a b n c : Nat} {A : Option Addr} {xs : List Value} (h : Ow w T size lo hi A n c xs) (t : Turned a b w w') (hd : hi ≤ a ∨ b ≤ lo) : w'.ownsRow lo T size (.slice A n c) n xs := by
  refine ⟨h.own.1, ?_⟩
  rcases h.own.2 with h0 | ⟨g, cap, cur, hv, hb, hh, rest⟩
  · exact .inl h0
  · have hg : g < hi := h.span g (by rw [hv]; rfl)
    have ht := h.top
    exact .inr ⟨g, cap, cur, hv, hb, (t.block g (by omega) (by omega)).trans hh, rest⟩
theorem Ow.turned {w w' : World} {T : TypeId} {size lo hi a b n c : Nat} {A : Option Addr} {xs : List Value} (h : Ow w T size lo hi A n c xs) (t : Turned a b w w') (hd : hi ≤ a ∨ b ≤ lo) : Ow w' T size lo hi A n c xs :=
  ⟨h.kept t hd, h.span, Nat.le_trans h.top t.size⟩
theorem Turned.of_below {w w' : World} (h : Below w.heap.size w w') : Turned 0 0 w w' := ⟨h.os, h.tape, h.output, h.size, fun k hk _ => h.block k hk⟩
theorem Ow.below {w w' : World} {T : TypeId} {size lo hi n c : Nat} {A : Option Addr} {xs : List Value} (h : Ow w T size lo hi A n c xs) (hb : Below w.heap.size w w') : Ow w' T size lo hi A n c xs :=
  h.turned (Turned.of_below hb) (.inr (Nat.zero_le _))
theorem own_cells {w : World} {base n c size : Nat} {A : Option Addr} {e : TypeId} {xs : List Value} (h : w.ownsRow base e size (.slice A n c) n xs) : Cells w size A n xs := by
  rcases h.2 with ⟨hv, h0⟩ | ⟨g, cap, cur, hv, _⟩
  · subst h0
    have := h.1
    exact ⟨this, fun hn => by rw [Nat.zero_mul] at this; omega⟩
  · injection hv with e1 e2 e3
    subst e1
    exact Cells.of_own h
theorem Ow.cells {w : World} {T : TypeId} {size lo hi n c : Nat} {A : Option Addr} {xs : List Value} (h : Ow w T size lo hi A n c xs) : Cells w size A n xs := own_cells h.own
/-- what is read only -/
theorem Ow.rd {w : World} {T : TypeId} {size lo hi n c : Nat} {A : Option Addr} {xs : List Value} (h : Ow w T size lo hi A n c xs) : Rd w size lo hi A n xs :=
  ⟨h.cells, fun ad e hn => by
    rcases h.own.2 with ⟨hv, h0⟩ | ⟨g, cap, cur, hv, hb, _⟩
    · have := h.own.1
      rw [h0, Nat.zero_mul] at this
      omega
    · have hg : g < hi := h.span g (by rw [hv]; rfl)
      injection hv with e1 e2 e3
      subst e1
      obtain rfl := Option.some.inj e
      exact ⟨hb, hg⟩, h.top⟩
/-- a mark, or another writing of one row -/
theorem Ow.writes {w w' : World} {T : TypeId} {size lo hi n c : Nat} {A : Option Addr} {xs : List Value} (h : Ow w T size lo hi A n c xs) (hg : w.grownBy w' (Value.slice A n c).ownBlock) : Turned lo hi w w' :=
  Turned.of_grown hg (fun k hk => ⟨(h.own.lt k hk).1, h.span k hk⟩)
theorem Ow.written {w w' : World} {T : TypeId} {size lo hi n c : Nat} {A : Option Addr} {xs ys : List Value} (h : Ow w T size lo hi A n c xs) (hs : w.heap.size ≤ w'.heap.size) (ho : w'.ownsRow lo T size (.slice A n c) n ys) : Ow w' T size lo hi A n c ys :=
  ⟨ho, h.span, Nat.le_trans h.top hs⟩

/-- the answer has no memory, and nothing has turned -/
def Gives (v : Value) (w : World) (e : Ending) (w' : World) : Prop := e = .returned v ∧ Below w.heap.size w w'
end Go.Proofs.YtlljmgphgmklcaaDoor.Turn

/- Small words on types' facts, on classes of worlds, and on rows that are written. No condition. -/
namespace Go.Proofs.YtlljmgphgmklcaaDoor.Aid
set_option linter.unusedVariables false
open Go.RowKit
open Go.Proofs.YtlljmgphgmklcaaDoor.Rowed Go.Proofs.YtlljmgphgmklcaaDoor.Turn

theorem info_parts {P : Program} {T : TypeId} {z : Value} {s b : Nat} (h : (P.info? T).map (fun i => (i.zero, i.size, i.bytes)) = some (some z, s, b)) : ∃ i, P.info? T = some i ∧ i.zero = some z ∧ i.size = s ∧ i.bytes = b := by
  cases hi : P.info? T with
  | none => rw [hi] at h; simp at h
  | some i => rw [hi] at h; simp at h; exact ⟨i, rfl, h.1, h.2.1, h.2.2⟩
theorem below_class {X Y : World} (h : ∃ p : Regrown, Y = Go.Sort.grow (redrawn X p.d) p.os) : Below X.heap.size X Y := by
  obtain ⟨⟨d, os⟩, rfl⟩ := h; exact below_regrown _ _ _
theorem grown_of {W W' : World} (h : Below W.heap.size W W') : W.grownBy W' none := ⟨h.os, h.tape, h.output, h.size, fun k hk _ => h.block k hk⟩
theorem grown_weak {W W' : World} (h : W.grownBy W' none) (g : Nat) : W.grownBy W' (some g) := ⟨h.os, h.tape, h.output, h.size, fun k hk _ => h.block k hk (by simp)⟩
theorem grown_tr {a b c : World} {r : Option Nat} (h : a.grownBy b r) (k : b.grownBy c r) : a.grownBy c r :=
  ⟨k.os.trans h.os, k.tape.trans h.tape, k.output.trans h.output, Nat.le_trans h.size k.size, fun i hi hr => (k.block i (Nat.lt_of_lt_of_le hi h.size) hr).trans (h.block i hi hr)⟩
theorem grown_refl (w : World) (r : Option Nat) : w.grownBy w r := ⟨rfl, rfl, rfl, Nat.le_refl _, fun _ _ _ => rfl⟩
theorem ret_int {k : IntKind} {a b : Int} (h : a = b) : Ending.returned (.int k a) = .returned (.int k b) := by rw [h]
theorem ret_bool {a b : Bool} (h : a = b) : Ending.returned (.bool a) = .returned (.bool b) := by rw [h]
end Go.Proofs.YtlljmgphgmklcaaDoor.Aid

/- Words on memory for the contracts of plain functions. No condition. -/
namespace Go.Proofs.YtlljmgphgmklcaaDoor.GoM
set_option linter.unusedVariables false
open Go.RowKit
open Go.Proofs.YtlljmgphgmklcaaDoor.Rowed Go.Proofs.YtlljmgphgmklcaaDoor.Turn

theorem box_new (w : World) (cs : List Value) (T : TypeId) (j : Nat) (u : Value) (h : cs[j]? = some u) : (w.alloc (.cells ⟨cs⟩ T)).cell? ⟨w.heap.size, j, none⟩ = some u := by
  have hb : (w.alloc (.cells ⟨cs⟩ T)).heap[w.heap.size]? = some (.cells ⟨cs⟩ T) := heap_alloc_new w _
  unfold World.cell?
  rw [hb]
  simpa using h
theorem size_list (s : ByteArray) : s.toList.length = s.size := by rw [Lib.toList_data]; rfl
theorem byte_rule {s : ByteArray} {n : Nat} {y : UInt8} (l : n < s.toList.length) (g : s.toList[n]? = some y) : ∀ h : n < s.size, s[n]'h = y := by
  intro h
  have e := List.getElem?_eq_getElem l
  rw [g] at e
  have := Option.some.inj e
  rw [this]
  simp [Lib.toList_data]
  rfl
theorem own_empty {w wc : World} {T K : Nat} (h : w.heap.size ≤ wc.heap.size) : (wc.alloc (.cells #[] T)).ownsRow w.heap.size T K (.slice (some ⟨wc.heap.size, 0, none⟩) 0 0) 0 [] :=
  ⟨by simp, .inr ⟨wc.heap.size, 0, #[], rfl, h, heap_alloc_new wc _, Nat.le_refl _, by unfold maxLen; omega, by simp, by simp⟩⟩
theorem own_laid {w wc : World} {T K n : Nat} {cs : List Value} {xs : List Value} (h : w.heap.size ≤ wc.heap.size) (hx : cs = xs) (hl : cs.length = n * K) (hn : n ≤ maxLen) : (wc.alloc (.cells ⟨cs⟩ T)).ownsRow w.heap.size T K (.slice (some ⟨wc.heap.size, 0, none⟩) n n) n xs := by
  subst hx
  exact ⟨hl, .inr ⟨wc.heap.size, n, ⟨cs⟩, rfl, h, heap_alloc_new wc _, Nat.le_refl _, hn, by simpa using hl, by rw [← hl]; simp⟩⟩
theorem add_flat (b o n : Nat) : (⟨b, o, none⟩ : Addr).add n = ⟨b, o + n, none⟩ := by
  unfold Addr.add; split
  · rename_i h; subst h; rfl
  · rfl
theorem strs_at {w : World} {A : Option Addr} {n k : Nat} {l : List ByteArray} (h : Cells w 1 A n (l.map Value.string)) (hk : k < n) : ∃ (b o : Nat) (x : ByteArray), A = some ⟨b, o, none⟩ ∧ l[k]? = some x ∧ w.cell? ⟨b, o + k, none⟩ = some (.string x) := by
  have hl : k < l.length := by have := h.1; rw [List.length_map] at this; omega
  obtain ⟨⟨b, o, sp⟩, e, hc⟩ := h.2 (by rw [List.length_map]; omega)
  have h0 := hc 0 (.string l[0]) (by rw [List.getElem?_map, List.getElem?_eq_getElem (show 0 < l.length by omega)]; rfl)
  obtain rfl : sp = none := cell_spot (b := b) (o := o) h0
  have hs := List.getElem?_eq_getElem hl
  have := hc k (.string l[k]) (by rw [List.getElem?_map, hs]; rfl)
  rw [add_flat] at this
  exact ⟨b, o, l[k], e, hs, this⟩
theorem bools_at {w : World} {A : Option Addr} {n k : Nat} {l : List Bool} (h : Cells w 1 A n (l.map Value.bool)) (hk : k < n) : ∃ (b o : Nat) (x : Bool), A = some ⟨b, o, none⟩ ∧ l[k]? = some x ∧ w.cell? ⟨b, o + k, none⟩ = some (.bool x) := by
  have hl : k < l.length := by have := h.1; rw [List.length_map] at this; omega
  obtain ⟨⟨b, o, sp⟩, e, hc⟩ := h.2 (by rw [List.length_map]; omega)
  have h0 := hc 0 (.bool l[0]) (by rw [List.getElem?_map, List.getElem?_eq_getElem (show 0 < l.length by omega)]; rfl)
  obtain rfl : sp = none := cell_spot (b := b) (o := o) h0
  have hs := List.getElem?_eq_getElem hl
  have := hc k (.bool l[k]) (by rw [List.getElem?_map, hs]; rfl)
  rw [add_flat] at this
  exact ⟨b, o, l[k], e, hs, this⟩
theorem own_nil {w : World} {b T K : Nat} : w.ownsRow b T K (.slice none 0 0) 0 [] := ⟨by simp, .inl ⟨rfl, rfl⟩⟩
theorem own_lower {w : World} {b base n size : Nat} {v : Value} {e : TypeId} {xs : List Value} (h : w.ownsRow base e size v n xs) (hb : b ≤ base) : w.ownsRow b e size v n xs :=
  ⟨h.1, by
    rcases h.2 with h0 | ⟨g, cap, cur, hv, hb', rest⟩
    · exact .inl h0
    · exact .inr ⟨g, cap, cur, hv, Nat.le_trans hb hb', rest⟩⟩
theorem own_below {w w' : World} {base n size : Nat} {v : Value} {e : TypeId} {xs : List Value} (h : w.ownsRow base e size v n xs) (hb : Below w.heap.size w w') : w'.ownsRow base e size v n xs :=
  h.kept (Aid.grown_of hb) (by cases v.ownBlock <;> simp)
theorem own_push {α : Type} {f : List α → List Value} {cx : List Value} {l t : List α} {x : α} {w' : World} {b T K : Nat} {v' : Value} {n : Nat} (ht : l ++ [x] = t) (hf : f (l ++ [x]) = f l ++ cx) (hn : l.length = n) (h : w'.ownsRow b T K v' (n + 1) (f l ++ cx)) :
    ∃ g cap, v' = .slice (some ⟨g, 0, none⟩) t.length cap ∧ w'.ownsRow b T K (.slice (some ⟨g, 0, none⟩) t.length cap) t.length (f t) := by
  subst ht
  subst hn
  have el : (l ++ [x]).length = l.length + 1 := by simp
  obtain ⟨g, cap, rfl⟩ : ∃ g cap, v' = .slice (some ⟨g, 0, none⟩) (l.length + 1) cap := by
    rcases h.2 with ⟨_, h⟩ | ⟨g3, cap3, _, h, _⟩
    · omega
    · exact ⟨g3, cap3, h⟩
  exact ⟨g, cap, by rw [el], by rw [el, hf]; exact h⟩
theorem news_new {w w2 : World} {cs : List Value} {T : TypeId} (h : w.alloc (.cells ⟨cs⟩ T) = w2) : ∀ j u, cs[j]? = some u → w2.cell? ((⟨w.heap.size, 0, none⟩ : Addr).add j) = some u := by
  intro j u hu
  subst h
  have : (⟨w.heap.size, 0, none⟩ : Addr).add j = ⟨w.heap.size, j, none⟩ := by
    unfold Addr.add; split
    · rename_i hj; subst hj; rfl
    · simp
  rw [this]
  exact box_new w cs T j u hu
theorem one_cells {l : List Value} (h : l.all (fun u => u.oneCell') = true) : ∀ u ∈ l, u.oneCell' = true := fun u hu => List.all_eq_true.1 h u hu
theorem cat_rule {P : Program} {a b c : ByteArray} (h : a ++ b = c) (hl : a.size + b.size ≤ maxLen) : ∀ W, (Op.stringOp .add a b).run P W = .ok (.string c) W := by
  intro W
  rw [run_string_add_sum]
  · subst h; rfl
  · unfold maxLen at hl; omega
theorem slice_both {P : Program} {t : TypeId} {s c : ByteArray} {k k' : IntKind} {i j : Int} (hu : P.underlying t = some .string) (h : s.extract i.toNat j.toNat = c) (hl : 0 ≤ i ∧ i ≤ j ∧ j ≤ (s.size : Int)) :
    ∀ W, (Instr.slice t (.string s) (some (.int k i)) (some (.int k' j)) none).run P W = .ok (.string c) W := by
  intro W
  rw [run_slice_string_if _ _ _ _ _ _ _ hu, if_pos ⟨by omega, hl.2.2⟩, if_pos ⟨hl.1, hl.2.1⟩, h]
theorem slice_from {P : Program} {t : TypeId} {s c : ByteArray} {k : IntKind} {i : Int} (hu : P.underlying t = some .string) (h : s.extract i.toNat s.size = c) (hl : 0 ≤ i ∧ i ≤ (s.size : Int)) :
    ∀ W, (Instr.slice t (.string s) (some (.int k i)) none none).run P W = .ok (.string c) W := by
  intro W
  rw [run_slice_string_from_if _ _ _ _ _ hu, if_pos hl, h]
theorem slice_to {P : Program} {t : TypeId} {s c : ByteArray} {k : IntKind} {j : Int} (hu : P.underlying t = some .string) (h : s.extract 0 j.toNat = c) (hl : 0 ≤ j ∧ j ≤ (s.size : Int)) :
    ∀ W, (Instr.slice t (.string s) none (some (.int k j)) none).run P W = .ok (.string c) W := by
  intro W
  rw [run_slice_string_to_if _ _ _ _ _ hu, if_pos hl, h]
theorem results_tmp4 {fn : Func} {t u v x : Tmp} (h : fn.results = #[.tmp t, .tmp u, .tmp v, .tmp x]) (tmps : Array Value) (P : Program) (w : World) :
    (results fn tmps).run P w = .ok (.tuple #[tmps.getD t undef, tmps.getD u undef, tmps.getD v undef, tmps.getD x undef]) w := by
  simp [results, h]
/-- the walk stands here -/
def Stop (p : Prop) : Prop := p
theorem stop_in {p : Prop} (h : Stop p) : p := h
theorem stop_out {p : Prop} (h : p) : Stop p := h
/-- two rows lie in different blocks -/
def Apart (A B : Option Addr) : Prop := ∀ a b, A = some a → B = some b → a.block ≠ b.block
theorem Apart.symm {A B : Option Addr} (h : Apart A B) : Apart B A := fun a b ha hb e => h b a hb ha e.symm
theorem own_lt {w : World} {b T K n m c : Nat} {A : Option Addr} {xs : List Value} (h : w.ownsRow b T K (.slice A m c) n xs) (a : Addr) (ha : A = some a) : b ≤ a.block ∧ a.block < w.heap.size := by
  subst ha
  exact h.lt a.block rfl
theorem apart_fresh {w : World} {b T K n m c : Nat} {A : Option Addr} {xs : List Value} (h : w.ownsRow b T K (.slice A m c) n xs) : Apart (some ⟨w.heap.size, 0, none⟩) A := by
  intro a a' ha ha' e
  have := (own_lt h a' ha').2
  injection ha with ha
  subst ha
  simp at e
  omega
theorem apart_call {w w1 : World} {b T K n m c T' K' n' m' c' : Nat} {A B : Option Addr} {xs ys : List Value} (h1 : w1.ownsRow w.heap.size T K (.slice A m c) n xs) (h : w.ownsRow b T' K' (.slice B m' c') n' ys) : Apart A B := by
  intro a a' ha ha' e
  have := (own_lt h a' ha').2
  have := (own_lt h1 a ha).1
  omega
theorem apart_box {w : World} {g j : Nat} {v : Value} (h : w.cell? ⟨g, j, none⟩ = some v) : Apart (some ⟨w.heap.size, 0, none⟩) (some ⟨g, 0, none⟩) := by
  intro a a' ha ha' e
  have hl : g < w.heap.size := cell_lt h
  injection ha with ha
  injection ha' with ha'
  subst ha
  subst ha'
  simp at e
  omega
theorem apart_callbox {w w1 : World} {T K n m c g j : Nat} {A : Option Addr} {xs : List Value} {v : Value} (h1 : w1.ownsRow w.heap.size T K (.slice A m c) n xs) (h : w.cell? ⟨g, j, none⟩ = some v) : Apart A (some ⟨g, 0, none⟩) := by
  intro a a' ha ha' e
  have hl : g < w.heap.size := cell_lt h
  have := (own_lt h1 a ha).1
  injection ha' with ha'
  subst ha'
  simp at e
  omega
theorem apart_app {w : World} {n c n' c' : Nat} {A A' B : Option Addr} (hD : Apart A B) (hB : ∀ a, B = some a → a.block < w.heap.size) (h : (Value.slice A' n' c').ownBlock = (Value.slice A n c).ownBlock ∨ (Value.slice A' n' c').ownBlock = some w.heap.size) : Apart A' B := by
  intro a a' ha ha' e
  have hl := hB a' ha'
  subst ha
  rcases h with h | h
  · cases A with
    | none => simp [Value.ownBlock] at h
    | some x => simp only [Value.ownBlock, Option.some.injEq] at h; exact hD x a' rfl ha' (h ▸ e)
  · simp only [Value.ownBlock, Option.some.injEq] at h; omega
theorem own_other {w w' : World} {b T K n m c n' c' : Nat} {A B : Option Addr} {ys : List Value} (h : w.ownsRow b T K (.slice B m c) n ys) (hg : w.grownBy w' (Value.slice A n' c').ownBlock) (hD : Apart A B) : w'.ownsRow b T K (.slice B m c) n ys := by
  refine h.kept hg ?_
  cases B with
  | none => exact .inl rfl
  | some y =>
    refine .inr ?_
    cases A with
    | none => simp [Value.ownBlock]
    | some x => simp only [Value.ownBlock, ne_eq, Option.some.injEq]; exact fun e => hD x y rfl rfl e.symm
theorem cell_other {w w' : World} {n' c' : Nat} {A : Option Addr} {a : Addr} {v : Value} (h : w.cell? a = some v) (hg : w.grownBy w' (Value.slice A n' c').ownBlock) (hD : Apart A (some ⟨a.block, 0, none⟩)) : w'.cell? a = some v := by
  rw [World.cell?_of_block (hg.block a.block (cell_lt h) ?_)]
  · exact h
  · cases A with
    | none => simp [Value.ownBlock]
    | some x => simp only [Value.ownBlock, ne_eq, Option.some.injEq]; exact fun e => hD x _ rfl rfl e.symm
theorem apart_old {wr : World} {b T K n m c g : Nat} {A : Option Addr} {xs : List Value} (h : wr.ownsRow b T K (.slice A m c) n xs) (hg : g < b) : Apart A (some ⟨g, 0, none⟩) := by
  intro a a' ha ha' e
  have := (own_lt h a ha).1
  injection ha' with ha'
  subst ha'
  simp at e
  omega
theorem own_len {w : World} {b T K n m c : Nat} {A : Option Addr} {xs : List Value} (h : m = n) (hO : w.ownsRow b T K (.slice A n c) n xs) : w.ownsRow b T K (.slice A m c) m xs := by subst h; exact hO
theorem own_max {w : World} {b T K n c : Nat} {A : Option Addr} {xs : List Value} (h : w.ownsRow b T K (.slice A n c) n xs) : n ≤ 9223372036854775807 := by
  rcases h.2 with ⟨_, h0⟩ | ⟨g, cap, cur, hv, _, _, h1, h2, _⟩
  · omega
  · unfold maxLen at h2; omega
theorem grown_below {w wr w2 : World} {q : Option Nat} (h : w.grownBy wr q) (hb : Below wr.heap.size wr w2) : w.grownBy w2 q :=
  Aid.grown_tr h ⟨hb.os, hb.tape, hb.output, hb.size, fun k hk _ => hb.block k hk⟩
theorem own_some {w : World} {b T K n c : Nat} {A : Option Addr} {xs : List Value} (h : w.ownsRow b T K (.slice A n c) n xs) (hn : 0 < n) : ∃ g, A = some ⟨g, 0, none⟩ := by
  rcases h.2 with ⟨_, h0⟩ | ⟨g, cap, cur, hv, _⟩
  · omega
  · injection hv with e1; exact ⟨g, e1⟩
theorem own_stores {b T K n c g : Nat} (ps : List (Nat × Value)) : ∀ {w : World} {xs : List Value}, w.ownsRow b T K (.slice (some ⟨g, 0, none⟩) n c) n xs →
    (ps.foldl (fun w p => w.setCell ⟨g, p.1, none⟩ p.2) w).ownsRow b T K (.slice (some ⟨g, 0, none⟩) n c) n (ps.foldl (fun xs p => xs.set p.1 p.2) xs) ∧ w.grownBy (ps.foldl (fun w p => w.setCell ⟨g, p.1, none⟩ p.2) w) (some g) := by
  induction ps with
  | nil => intro w xs h; exact ⟨h, Aid.grown_refl _ _⟩
  | cons p ps ih =>
    intro w xs h
    have h1 := h.stored p.1 p.2
    have h2 := ih h1.1
    exact ⟨h2.1, Aid.grown_tr h1.2 h2.2⟩
theorem flat_set {α : Type} (f : α → List Value) (K : Nat) (hK : ∀ x, (f x).length = K) : ∀ (l : List α) (k j : Nat) (s1 s2 : α) (v : Value), k < l.length → j < K → (f s1).set j v = f s2 → ((l.set k s1).flatMap f).set (k * K + j) v = (l.set k s2).flatMap f := by
  intro l
  induction l with
  | nil => intro k j s1 s2 v hk; simp at hk
  | cons x l ih =>
    intro k j s1 s2 v hk hj hc
    cases k with
    | zero =>
      simp only [List.set_cons_zero, List.flatMap_cons, Nat.zero_mul, Nat.zero_add]
      rw [List.set_append_left _ _ (by rw [hK]; exact hj), hc]
    | succ k =>
      simp only [List.set_cons_succ, List.flatMap_cons]
      rw [List.set_append_right _ _ (by rw [hK, Nat.add_mul]; omega), hK, show (k + 1) * K + j - K = k * K + j by rw [Nat.add_mul]; omega, ih k j s1 s2 v (by simpa using hk) hj hc]
theorem set_self {α : Type} {l : List α} {k : Nat} {x : α} (h : l[k]? = some x) : l.set k x = l := by
  obtain ⟨hk, e⟩ := List.getElem?_eq_some_iff.1 h
  rw [← e]; simp
theorem map_flat {α : Type} (g : α → Value) (l : List α) : l.map g = l.flatMap (fun x => [g x]) := by
  induction l with
  | nil => rfl
  | cons x l ih => simp [List.flatMap_cons, ih]
theorem made_flat {α : Type} (f : α → List Value) (x0 : α) (z : Value) (K n : Nat) (hz : z.cells.toList = f x0) (hK : z.cells.size = K) (hp : 0 < K) : (madeCells z.cells (n * K)).toList = (List.replicate n x0).flatMap f := by
  have hl : (f x0).length = K := by rw [← hz, ← hK]; simp
  have hr : ∀ n, (List.range (n * K)).map (fun i => z.cells[i % z.cells.size]!) = (List.replicate n x0).flatMap f := by
    intro n
    induction n with
    | zero => simp
    | succ n ih =>
      rw [List.replicate_succ', List.flatMap_append, ← ih, Nat.add_mul, Nat.one_mul, List.range_add, List.map_append]
      congr 1
      simp only [List.map_map, List.flatMap_cons, List.flatMap_nil, List.append_nil]
      apply List.ext_getElem
      · simp [hl]
      · intro i h1 h2
        have hi : i < K := by simpa using h1
        simp only [List.getElem_map, List.getElem_range, Function.comp]
        rw [hK, Nat.add_comm, Nat.add_mul_mod_self_right, Nat.mod_eq_of_lt hi]
        have h3 : i < z.cells.size := by omega
        rw [getElem!_pos z.cells i h3]
        have : z.cells.toList[i]'(by simpa using h3) = z.cells[i] := by simp
        rw [← this]
        congr 1
  unfold madeCells
  rw [← hr n]
  simp
/-- a row is no longer than its room; nil has none -/
def Room (A : Option Addr) (n c : Nat) : Prop := n ≤ c ∧ (A = none → c = 0)
theorem own_room {w : World} {b T K n c : Nat} {A : Option Addr} {xs : List Value} (h : w.ownsRow b T K (.slice A n c) n xs) : Room A n c := by
  rcases h.2 with ⟨h1, h2⟩ | ⟨g, cap, cur, h1, _, _, hr, _⟩
  · simp only [Value.slice.injEq] at h1
    exact ⟨by omega, fun _ => by omega⟩
  · simp only [Value.slice.injEq] at h1
    exact ⟨by omega, fun e => by rw [h1.1] at e; simp at e⟩
theorem flat_drop {α : Type} (f : α → List Value) (K : Nat) (hK : ∀ x, (f x).length = K) : ∀ (l : List α) (j : Nat), (l.flatMap f).drop (j * K) = (l.drop j).flatMap f := by
  intro l
  induction l with
  | nil => intro j; simp
  | cons x l ih =>
    intro j
    cases j with
    | zero => simp
    | succ j =>
      have e : (j + 1) * K = (f x).length + j * K := by rw [hK x, Nat.add_mul]; omega
      rw [List.flatMap_cons, e, List.drop_append, List.drop_of_length_le (by omega), List.drop_succ_cons, ← ih j]
      simp
/-- s[lo:] of a row that came in -/
theorem slice_tail {P : Program} {t e : TypeId} {i : TypeInfo} {k : IntKind} {K n c : Nat} {A : Option Addr} {lo : Int} {w : World} {xs ys : List Value} {m : Nat}
    (ht : P.underlying t = some (.slice (P.elem t))) (he : P.elem t = e) (hi : P.info? e = some i) (hs : i.size = K) (hc : Cells w K A n xs) (hR : Room A n c) (hl : 0 ≤ lo ∧ lo ≤ (n : Int)) (hm : n - lo.toNat = m) (hd : xs.drop (lo.toNat * K) = ys) :
    ∃ A' c', (∀ W, (Instr.slice t (.slice A n c) (some (.int k lo)) none none).run P W = .ok (.slice A' m c') W) ∧ Cells w K A' m ys ∧ Room A' m c' := by
  subst hm; subst hd
  have hr := hR.1
  have hsz : ∀ W, (sizeOf (P.elem t)).run P W = .ok K W := by intro W; subst he; simp [sizeOf, typeInfo, hi, hs]
  refine ⟨if c = lo.toNat then A else A.map (·.add (lo.toNat * K)), c - lo.toNat, ?_, ?_, ⟨by omega, fun e => by
    have : A = none := by
      by_cases h : c = lo.toNat
      · rw [if_pos h] at e; exact e
      · rw [if_neg h] at e; simpa using e
    have := hR.2 this; omega⟩⟩
  · intro W
    rw [run_slice_l (P := P) W t A n c ht k lo hl.1 hl.2, hsz W]
    rfl
  · refine ⟨by rw [List.length_drop, hc.1, Nat.sub_mul], fun h0 => ?_⟩
    rw [List.length_drop] at h0
    obtain ⟨ad, rfl, h⟩ := hc.2 (by omega)
    have h1 := hc.1
    have hne : ¬ c = lo.toNat := by
      intro e2
      have : n = lo.toNat := by omega
      rw [h1, this] at h0; omega
    refine ⟨ad.add (lo.toNat * K), by rw [if_neg hne]; rfl, fun j u hu => ?_⟩
    rw [List.getElem?_drop] at hu
    have := h _ u hu
    rwa [Go.Deep.add_add]
theorem flat_take {α : Type} (f : α → List Value) (K : Nat) (hK : ∀ x, (f x).length = K) : ∀ (l : List α) (j : Nat), (l.flatMap f).take (j * K) = (l.take j).flatMap f := by
  intro l
  induction l with
  | nil => intro j; simp
  | cons x l ih =>
    intro j
    cases j with
    | zero => simp
    | succ j =>
      have e : (j + 1) * K = (f x).length + j * K := by rw [hK x, Nat.add_mul]; omega
      rw [List.flatMap_cons, e, List.take_append, List.take_of_length_le (by omega), List.take_succ_cons, List.flatMap_cons, ← ih j]
      simp
/-- s[:hi] of a row of its own -/
theorem slice_head {P : Program} {t e : TypeId} {i : TypeInfo} {k : IntKind} {K n c b : Nat} {A : Option Addr} {hi : Int} {w : World} {xs ys : List Value} {m : Nat}
    (ht : P.underlying t = some (.slice (P.elem t))) (he : P.elem t = e) (hi_ : P.info? e = some i) (hs : i.size = K) (h : w.ownsRow b e K (.slice A n c) n xs) (hl : 0 ≤ hi ∧ hi ≤ (n : Int)) (hm : hi.toNat = m) (hd : xs.take (hi.toNat * K) = ys) :
    (∀ W, (Instr.slice t (.slice A n c) none (some (.int k hi)) none).run P W = .ok (.slice A m c) W) ∧ w.ownsRow b e K (.slice A m c) m ys := by
  subst hm; subst hd
  have hR := own_room h
  have hsz : ∀ W, (sizeOf (P.elem t)).run P W = .ok K W := by intro W; subst he; simp [sizeOf, typeInfo, hi_, hs]
  have hz : ∀ a : Addr, a.add 0 = a := by intro a; unfold Addr.add; simp
  refine ⟨fun W => ?_, ?_, ?_⟩
  · rw [run_slice_h (P := P) W t A n c ht k hi hl.1 (by have := hR.1; omega), hsz W]
    cases A <;> simp [Result.andThen, sliced, hz]
  · rw [List.length_take, h.1]
    exact Nat.min_eq_left (Nat.mul_le_mul_right K (by omega))
  · rcases h.2 with ⟨h1, h2⟩ | ⟨g, cap, cur, h1, h2, h3, h4, h5, h6, h7⟩
    · simp only [Value.slice.injEq] at h1
      left
      have : hi.toNat = 0 := by omega
      exact ⟨by rw [h1.1, h1.2.2, this], this⟩
    · simp only [Value.slice.injEq] at h1
      right
      refine ⟨g, cap, cur, by rw [h1.1, h1.2.2], h2, h3, by omega, h5, h6, ?_⟩
      rw [← h7, List.take_take, Nat.min_eq_left (Nat.mul_le_mul_right K (by omega))]
/-- s[:hi] of a row that came in -/
theorem slice_headB {P : Program} {t e : TypeId} {i : TypeInfo} {k : IntKind} {K n c : Nat} {A : Option Addr} {hi : Int} {w : World} {xs ys : List Value} {m : Nat}
    (ht : P.underlying t = some (.slice (P.elem t))) (he : P.elem t = e) (hi_ : P.info? e = some i) (hs : i.size = K) (h : Cells w K A n xs) (hR : Room A n c) (hl : 0 ≤ hi ∧ hi ≤ (n : Int)) (hm : hi.toNat = m) (hd : xs.take (hi.toNat * K) = ys) :
    (∀ W, (Instr.slice t (.slice A n c) none (some (.int k hi)) none).run P W = .ok (.slice A m c) W) ∧ Cells w K A m ys ∧ Room A m c := by
  subst hm; subst hd
  have hsz : ∀ W, (sizeOf (P.elem t)).run P W = .ok K W := by intro W; subst he; simp [sizeOf, typeInfo, hi_, hs]
  have hz : ∀ a : Addr, a.add 0 = a := by intro a; unfold Addr.add; simp
  refine ⟨fun W => ?_, ⟨?_, fun h0 => ?_⟩, ⟨by have := hR.1; omega, hR.2⟩⟩
  · rw [run_slice_h (P := P) W t A n c ht k hi hl.1 (by have := hR.1; omega), hsz W]
    cases A <;> simp [Result.andThen, sliced, hz]
  · rw [List.length_take, h.1]
    exact Nat.min_eq_left (Nat.mul_le_mul_right K (by omega))
  · rw [List.length_take] at h0
    obtain ⟨ad, e, hc⟩ := h.2 (by omega)
    refine ⟨ad, e, fun j u hu => hc j u ?_⟩
    have := List.getElem?_take (l := xs) (i := hi.toNat * K) (j := j)
    rw [this] at hu
    split at hu
    · exact hu
    · cases hu
/-- append(a, b...) onto a row of its own -/
theorem append_spread {P : Program} {w : World} {ops : Array Oper} {rest : List Oper} {o : Oper} {a : Act} {Q : Exit → Act → World → Prop} (hgd : o.guard = none) (s x : Operand) (t : TypeId)
    (ho : o.op = .call { callee := .builtin .append, args := #[s, x], argTypes := #[t, t] })
    (base : Nat) (e : TypeId) (i : TypeInfo) (z : Value) (size bytes : Nat) (ht : P.underlying t = some (.slice e)) (hi : P.info? e = some i) (hz : i.zero = some z)
    (hsize : i.size = size) (hby : i.bytes = bytes) (hzs : z.cells.size = size) (hsz : 0 < size)
    (A1 : Option Addr) (c1 n : Nat) (xs : List Value) (hs : a.eval s = .slice A1 n c1) (hown : w.ownsRow base e size (.slice A1 n c1) n xs)
    (A : Option Addr) (m c : Nat) (news : List Value) (hx : a.eval x = .slice A m c) (hN : Room A m c) (hc : Cells w size A m news) (h1 : ∀ u ∈ news, u.oneCell' = true)
    (h63 : n + m ≤ maxLen) (hbytes : (n + m) * bytes ≤ 140737488355328) (hbase : base ≤ w.heap.size)
    (h : ∀ v' w', w'.ownsRow base e size v' (n + m) (xs ++ news) → w.grownBy w' (Value.slice A1 n c1).ownBlock → (v'.ownBlock = (Value.slice A1 n c1).ownBlock ∨ v'.ownBlock = some w.heap.size) → wpList P ops Q rest (a.put o.dst v') w') :
    wpList P ops Q (o :: rest) a w := by
  cases A with
  | some ad =>
    refine wpList_append_own_at w hgd s x t ho base e i z size bytes ht hi hz hsize hby hzs hsz _ n xs hs hown ad m c news hx hc.1 (fun j u hu => ?_) h1 h63 hbytes hbase (fun v' w' o1 g1 _ y1 => h v' w' o1 g1 y1)
    obtain ⟨ad', e', hcell⟩ := hc.2 (by have := (List.getElem?_eq_some_iff.1 hu).1; omega)
    obtain rfl : ad = ad' := Option.some.inj e'
    exact hcell j u hu
  | none =>
    have hm : m = 0 := by
      cases news with
      | nil =>
        have h0 : ([] : List Value).length = m * size := hc.1
        rw [List.length_nil] at h0
        rcases Nat.mul_eq_zero.1 h0.symm with h1 | h1 <;> omega
      | cons y l => obtain ⟨ad, e', _⟩ := hc.2 (by simp); simp at e'
    obtain rfl : c = 0 := hN.2 rfl
    subst hm
    have hn : news = [] := List.eq_nil_of_length_eq_zero (by have := hc.1; simpa using this)
    subst hn
    refine Go.wpList_append_own_none hgd s x t ho base e i size ht hi _ n xs hs hown hx ?_
    exact h _ w (by simpa using hown) (World.grownBy.refl w _) (.inl rfl)
theorem own_pushS {α : Type} {f : List α → List Value} {l b t : List α} {w' : World} {bs T K : Nat} {v' : Value} {n : Nat} (ht : l ++ b = t) (hf : f (l ++ b) = f l ++ f b) (hn : l.length = n) (h : w'.ownsRow bs T K v' (n + b.length) (f l ++ f b)) :
    ∃ A cap, v' = .slice A t.length cap ∧ w'.ownsRow bs T K (.slice A t.length cap) t.length (f t) := by
  subst ht
  subst hn
  rw [← List.length_append, ← hf] at h
  rcases h.2 with ⟨h1, h2⟩ | ⟨g3, cap3, _, h2, _⟩
  · have hv : v' = .slice none (l ++ b).length 0 := by rw [h1, h2]
    exact ⟨none, 0, hv, hv ▸ h⟩
  · exact ⟨_, _, h2, h2 ▸ h⟩
/-- w' is w but for two rows and for new blocks -/
structure Grown2 (w w' : World) (A1 A2 : Option Addr) : Prop where
  os : w'.os = w.os
  tape : w'.tape = w.tape
  output : w'.output = w.output
  size : w.heap.size ≤ w'.heap.size
  block : ∀ k, k < w.heap.size → (∀ a, A1 = some a → a.block ≠ k) → (∀ a, A2 = some a → a.block ≠ k) → w'.heap[k]? = w.heap[k]?
theorem grown2_refl (w : World) (A1 A2 : Option Addr) : Grown2 w w A1 A2 := ⟨rfl, rfl, rfl, Nat.le_refl _, fun _ _ _ _ => rfl⟩
theorem grown2_below {w wr w2 : World} {A1 A2 : Option Addr} (h : Grown2 w wr A1 A2) (hb : Below wr.heap.size wr w2) : Grown2 w w2 A1 A2 :=
  ⟨hb.os.trans h.os, hb.tape.trans h.tape, hb.output.trans h.output, Nat.le_trans h.size hb.size, fun k hk h1 h2 => (hb.block k (Nat.lt_of_lt_of_le hk h.size)).trans (h.block k hk h1 h2)⟩
theorem grown2_l {w wr w2 : World} {A1 A2 : Option Addr} {n c : Nat} (h : Grown2 w wr A1 A2) (hg : wr.grownBy w2 (Value.slice A1 n c).ownBlock) : Grown2 w w2 A1 A2 :=
  ⟨hg.os.trans h.os, hg.tape.trans h.tape, hg.output.trans h.output, Nat.le_trans h.size hg.size, fun k hk h1 h2 => (hg.block k (Nat.lt_of_lt_of_le hk h.size) (by
    cases A1 with
    | none => simp [Value.ownBlock]
    | some a => simp only [Value.ownBlock, ne_eq, Option.some.injEq]; exact fun e => h1 a rfl e.symm)).trans (h.block k hk h1 h2)⟩
theorem grown2_r {w wr w2 : World} {A1 A2 : Option Addr} {n c : Nat} (h : Grown2 w wr A1 A2) (hg : wr.grownBy w2 (Value.slice A2 n c).ownBlock) : Grown2 w w2 A1 A2 :=
  ⟨hg.os.trans h.os, hg.tape.trans h.tape, hg.output.trans h.output, Nat.le_trans h.size hg.size, fun k hk h1 h2 => (hg.block k (Nat.lt_of_lt_of_le hk h.size) (by
    cases A2 with
    | none => simp [Value.ownBlock]
    | some a => simp only [Value.ownBlock, ne_eq, Option.some.injEq]; exact fun e => h2 a rfl e.symm)).trans (h.block k hk h1 h2)⟩
theorem below2 {w wr w2 : World} {B : Nat} {A1 A2 : Option Addr} (h : Below B w wr) (hg : Grown2 wr w2 A1 A2) (hB : B ≤ wr.heap.size) (h1 : ∀ a, A1 = some a → B ≤ a.block) (h2 : ∀ a, A2 = some a → B ≤ a.block) : Below B w w2 :=
  ⟨hg.os.trans h.os, hg.tape.trans h.tape, hg.output.trans h.output, Nat.le_trans h.size hg.size, fun k hk => (hg.block k (Nat.lt_of_lt_of_le hk hB) (fun a e e2 => by have := h1 a e; omega) (fun a e e2 => by have := h2 a e; omega)).trans (h.block k hk)⟩
theorem own_other2 {w w' : World} {b T K n m c : Nat} {A1 A2 B : Option Addr} {ys : List Value} (h : w.ownsRow b T K (.slice B m c) n ys) (hg : Grown2 w w' A1 A2) (h1 : Apart A1 B) (h2 : Apart A2 B) : w'.ownsRow b T K (.slice B m c) n ys := by
  refine ⟨h.1, ?_⟩
  rcases h.2 with hn | ⟨g, cap, cur, hv, hb, hgg, rest⟩
  · exact .inl hn
  · have hlt := (h.lt g (by rw [hv]; rfl)).2
    have hB : B = some ⟨g, 0, none⟩ := by simp only [Value.slice.injEq] at hv; exact hv.1
    refine .inr ⟨g, cap, cur, hv, hb, ?_, rest⟩
    rw [hg.block g hlt (fun a e e2 => h1 a _ e hB e2) (fun a e e2 => h2 a _ e hB e2)]
    exact hgg
theorem cell_other2 {w w' : World} {A1 A2 : Option Addr} {a : Addr} {v : Value} (h : w.cell? a = some v) (hg : Grown2 w w' A1 A2) (h1 : Apart A1 (some ⟨a.block, 0, none⟩)) (h2 : Apart A2 (some ⟨a.block, 0, none⟩)) : w'.cell? a = some v := by
  rw [World.cell?_of_block (hg.block a.block (cell_lt h) (fun x e e2 => h1 x _ e rfl e2) (fun x e e2 => h2 x _ e rfl e2))]
  exact h
theorem own_ge2 {w : World} {b T K n m c : Nat} {A : Option Addr} {xs : List Value} (h : w.ownsRow b T K (.slice A m c) n xs) : ∀ a, A = some a → b ≤ a.block := fun a e => (own_lt h a e).1
end Go.Proofs.YtlljmgphgmklcaaDoor.GoM

/-
  The contracts of the library functions that this program calls, laid at its own numbers by the shelf of the guide. No condition of their own: each theorem states its premises.
-/
namespace Go.Proofs
open Go.Shelf
def Tryd.lays128_ren : Go.Shelf.Ren := ⟨fun | 128 => 74 | n => n, fun | 51 => 87 | 3 => 3 | 4 => 4 | 46 => 70 | 5 => 5 | 9 => 9 | n => n, fun | n => n⟩
theorem Tryd.lays128 : Go.Proofs.Lays.n128 Tryd.prog Tryd.lays128_ren := {
  mixed := by kernel_rfl
  f128 := Tryd.func74.trans (congrArg some (by kernel_rfl))
  t3 := Tryd.underlying3
  a3 := Tryd.isAgg3
  z3 := Tryd.sizeOf3
  v3 := Tryd.zeroValue3
  t4 := Tryd.underlying4
  a4 := Tryd.isAgg4
  z4 := Tryd.sizeOf4
  v4 := Tryd.zeroValue4
  t5 := Tryd.underlying5
  a5 := Tryd.isAgg5
  z5 := Tryd.sizeOf5
  v5 := Tryd.zeroValue5
  t9 := Tryd.underlying9
  a9 := Tryd.isAgg9
  z9 := Tryd.sizeOf9
  v9 := Tryd.zeroValue9
  t46 := Tryd.underlying70
  a46 := Tryd.isAgg70
  z46 := Tryd.sizeOf70
  v46 := Tryd.zeroValue70
  t51 := Tryd.underlying87
  a51 := Tryd.isAgg87
  z51 := Tryd.sizeOf87
  v51 := Tryd.zeroValue87 }
/-- bits.Len32: "Len32 returns the minimum number of bits required to represent x; the result is 0 for x == 0.": IT RETURNS 'Lib.bitLen x'; the world is as it was. ('h0', 'h1': x is a uint32.) (LAID: no walk: one application.) -/
theorem Tryd.bits_Len32 (x : Int) (w : World) (h0 : 0 ≤ x) (h1 : x ≤ 4294967295) :
    Calls Tryd.prog 74 #[.int .u32 x] w fun e w' => e = .returned (.int .i64 (Lib.bitLen x.toNat)) ∧ w' = w := Any.bits_Len32 Tryd.lays128 x w h0 h1
def Tryd.lays125_ren : Go.Shelf.Ren := ⟨fun | 125 => 60 | 128 => 74 | 129 => 75 | n => n, fun | 46 => 70 | 3 => 3 | 51 => 87 | 53 => 44 | 4 => 4 | 5 => 5 | 9 => 9 | n => n, fun | n => n⟩
theorem Tryd.lays125 : Go.Proofs.Lays.n125 Tryd.prog Tryd.lays125_ren := {
  mixed := by kernel_rfl
  f125 := Tryd.func60.trans (congrArg some (by kernel_rfl))
  f128 := Tryd.func74.trans (congrArg some (by kernel_rfl))
  f129 := Tryd.func75.trans (congrArg some (by kernel_rfl))
  t3 := Tryd.underlying3
  a3 := Tryd.isAgg3
  z3 := Tryd.sizeOf3
  v3 := Tryd.zeroValue3
  t4 := Tryd.underlying4
  a4 := Tryd.isAgg4
  z4 := Tryd.sizeOf4
  v4 := Tryd.zeroValue4
  t5 := Tryd.underlying5
  a5 := Tryd.isAgg5
  z5 := Tryd.sizeOf5
  v5 := Tryd.zeroValue5
  t9 := Tryd.underlying9
  a9 := Tryd.isAgg9
  z9 := Tryd.sizeOf9
  v9 := Tryd.zeroValue9
  t46 := Tryd.underlying70
  a46 := Tryd.isAgg70
  z46 := Tryd.sizeOf70
  v46 := Tryd.zeroValue70
  t51 := Tryd.underlying87
  a51 := Tryd.isAgg87
  z51 := Tryd.sizeOf87
  v51 := Tryd.zeroValue87
  t53 := Tryd.underlying44
  a53 := Tryd.isAgg44
  z53 := Tryd.sizeOf44
  v53 := Tryd.zeroValue44 }
/-- bits.Len: "Len returns the minimum number of bits required to represent x; the result is 0 for x == 0.": IT RETURNS 'Lib.bitLen x'; the world is as it was. (A uint has 64 bits in the model.) ITS CALLEE bits.Len64 IS MET BY ITS OWN CONTRACT OFF THE SHELF (lay that first). (LAID: no walk: one application.) -/
theorem Tryd.bits_Len (x : Int) (w : World) (h0 : 0 ≤ x) (h1 : x ≤ 18446744073709551615) :
    Calls Tryd.prog 60 #[.int .u64 x] w fun e w' => e = .returned (.int .i64 (Lib.bitLen x.toNat)) ∧ w' = w := Any.bits_Len Tryd.lays125 x w h0 h1
def Tryd.lays215_ren : Go.Shelf.Ren := ⟨fun | 215 => 57 | n => n, fun | 3 => 3 | 4 => 4 | n => n, fun | n => n⟩
theorem Tryd.lays215 : Go.Proofs.Lays.n215 Tryd.prog Tryd.lays215_ren := {
  mixed := by kernel_rfl
  f215 := Tryd.func57.trans (congrArg some (by kernel_rfl))
  t3 := Tryd.underlying3
  a3 := Tryd.isAgg3
  z3 := Tryd.sizeOf3
  v3 := Tryd.zeroValue3
  t4 := Tryd.underlying4
  a4 := Tryd.isAgg4
  z4 := Tryd.sizeOf4
  v4 := Tryd.zeroValue4 }
open Go.RowKit in
/-- cmp.isNaN at int: 'x != x': false. (LAID: no walk: one application.) -/
theorem Tryd.cmp_isNaN_int (x : Int) (w : World) :
    Calls Tryd.prog 57 #[.int .i64 x] w fun e w' => e = .returned (.bool false) ∧ w' = w := Any.cmp_isNaN_int Tryd.lays215 x w
def Tryd.lays122_ren : Go.Shelf.Ren := ⟨fun | 122 => 51 | 215 => 57 | n => n, fun | 3 => 3 | 4 => 4 | n => n, fun | n => n⟩
theorem Tryd.lays122 : Go.Proofs.Lays.n122 Tryd.prog Tryd.lays122_ren := {
  mixed := by kernel_rfl
  f122 := Tryd.func51.trans (congrArg some (by kernel_rfl))
  f215 := Tryd.func57.trans (congrArg some (by kernel_rfl))
  t3 := Tryd.underlying3
  a3 := Tryd.isAgg3
  z3 := Tryd.sizeOf3
  v3 := Tryd.zeroValue3
  t4 := Tryd.underlying4
  a4 := Tryd.isAgg4
  z4 := Tryd.sizeOf4
  v4 := Tryd.zeroValue4 }
open Go.RowKit in
/-- cmp.Compare at int: "Compare returns -1 if x is less than y, 0 if x equals y, +1 if x is greater than y.": IT RETURNS 'Lib.compareInt x y'; the world is as it was. (LAID: no walk: one application.) -/
theorem Tryd.cmp_Compare_int (x y : Int) (w : World) :
    Calls Tryd.prog 51 #[.int .i64 x, .int .i64 y] w fun e w' => e = .returned (.int .i64 (Lib.compareInt x y)) ∧ w' = w := Any.cmp_Compare_int Tryd.lays122 x y w
def Tryd.lays129_ren : Go.Shelf.Ren := ⟨fun | 129 => 75 | n => n, fun | 53 => 44 | 3 => 3 | 4 => 4 | 46 => 70 | 5 => 5 | 9 => 9 | n => n, fun | n => n⟩
theorem Tryd.lays129 : Go.Proofs.Lays.n129 Tryd.prog Tryd.lays129_ren := {
  mixed := by kernel_rfl
  f129 := Tryd.func75.trans (congrArg some (by kernel_rfl))
  t3 := Tryd.underlying3
  a3 := Tryd.isAgg3
  z3 := Tryd.sizeOf3
  v3 := Tryd.zeroValue3
  t4 := Tryd.underlying4
  a4 := Tryd.isAgg4
  z4 := Tryd.sizeOf4
  v4 := Tryd.zeroValue4
  t5 := Tryd.underlying5
  a5 := Tryd.isAgg5
  z5 := Tryd.sizeOf5
  v5 := Tryd.zeroValue5
  t9 := Tryd.underlying9
  a9 := Tryd.isAgg9
  z9 := Tryd.sizeOf9
  v9 := Tryd.zeroValue9
  t46 := Tryd.underlying70
  a46 := Tryd.isAgg70
  z46 := Tryd.sizeOf70
  v46 := Tryd.zeroValue70
  t53 := Tryd.underlying44
  a53 := Tryd.isAgg44
  z53 := Tryd.sizeOf44
  v53 := Tryd.zeroValue44 }
/-- bits.Len64: "Len64 returns the minimum number of bits required to represent x; the result is 0 for x == 0.": IT RETURNS 'Lib.bitLen x'; the world is as it was. ('h0', 'h1': x is a uint64.) (LAID: no walk: one application.) -/
theorem Tryd.bits_Len64 (x : Int) (w : World) (h0 : 0 ≤ x) (h1 : x ≤ 18446744073709551615) :
    Calls Tryd.prog 75 #[.int .u64 x] w fun e w' => e = .returned (.int .i64 (Lib.bitLen x.toNat)) ∧ w' = w := Any.bits_Len64 Tryd.lays129 x w h0 h1
def Tryd.lays317_ren : Go.Shelf.Ren := ⟨fun | 317 => 76 | n => n, fun | 3 => 3 | 46 => 70 | n => n, fun | n => n⟩
theorem Tryd.lays317 : Go.Proofs.Lays.n317 Tryd.prog Tryd.lays317_ren := {
  mixed := by kernel_rfl
  f317 := Tryd.func76.trans (congrArg some (by kernel_rfl))
  t3 := Tryd.underlying3
  a3 := Tryd.isAgg3
  z3 := Tryd.sizeOf3
  v3 := Tryd.zeroValue3
  t46 := Tryd.underlying70
  a46 := Tryd.isAgg70
  z46 := Tryd.sizeOf70
  v46 := Tryd.zeroValue70 }
open Go.Lib in
/-- internal/strconv.log10Pow2: "log10Pow2(x) returns ⌊log₁₀ 2**x⌋ = ⌊x * log₁₀ 2⌋.": '(x * 78913) >> 18', at an x up to 64 (a length in bits). The world is as it was. (LAID: no walk: one application.) -/
theorem Tryd.internal_strconv_log10Pow2 (x : Nat) (h : x ≤ 64) (w : World) :
    Calls Tryd.prog 76 #[.int .i64 x] w fun e w' => e = .returned (.int .i64 (Lib.l10 x)) ∧ w' = w := Any.internal_strconv_log10Pow2 Tryd.lays317 x h w
def Tryd.lays318_ren : Go.Shelf.Ren := ⟨fun | 318 => 77 | n => n, fun | 3 => 3 | 4 => 4 | n => n, fun | n => n⟩
theorem Tryd.lays318 : Go.Proofs.Lays.n318 Tryd.prog Tryd.lays318_ren := {
  mixed := by kernel_rfl
  f318 := Tryd.func77.trans (congrArg some (by kernel_rfl))
  t3 := Tryd.underlying3
  a3 := Tryd.isAgg3
  z3 := Tryd.sizeOf3
  v3 := Tryd.zeroValue3
  t4 := Tryd.underlying4
  a4 := Tryd.isAgg4
  z4 := Tryd.sizeOf4
  v4 := Tryd.zeroValue4 }
open Go.Lib in
/-- internal/strconv.bool2: "bool2 converts b to an integer: 1 for true, 0 for false." The world is as it was. (LAID: no walk: one application.) -/
theorem Tryd.internal_strconv_bool2_int (b : Bool) (w : World) :
    Calls Tryd.prog 77 #[.bool b] w fun e w' => e = .returned (.int .i64 (if b then 1 else 0)) ∧ w' = w := Any.internal_strconv_bool2_int Tryd.lays318 b w
def Tryd.lays283_ren : Go.Shelf.Ren := ⟨fun | 283 => 61 | n => n, fun | 3 => 3 | 9 => 9 | 4 => 4 | n => n, fun | n => n⟩
theorem Tryd.lays283 : Go.Proofs.Lays.n283 Tryd.prog Tryd.lays283_ren := {
  mixed := by kernel_rfl
  f283 := Tryd.func61.trans (congrArg some (by kernel_rfl))
  t3 := Tryd.underlying3
  a3 := Tryd.isAgg3
  z3 := Tryd.sizeOf3
  v3 := Tryd.zeroValue3
  t4 := Tryd.underlying4
  a4 := Tryd.isAgg4
  z4 := Tryd.sizeOf4
  v4 := Tryd.zeroValue4
  t9 := Tryd.underlying9
  a9 := Tryd.isAgg9
  z9 := Tryd.sizeOf9
  v9 := Tryd.zeroValue9 }
open Go.Lib in
/-- internal/strconv.small: "small returns the string for an i with 0 <= i < nSmalls.": i's decimal numeral. The world is as it was. (LAID: no walk: one application.) -/
theorem Tryd.internal_strconv_small (i : Nat) (h : i < 100) (w : World) :
    Calls Tryd.prog 61 #[.int .i64 i] w fun e w' => e = .returned (.string ⟨(Lib.decDigits i).toArray⟩) ∧ w' = w := Any.internal_strconv_small Tryd.lays283 i h w
def Tryd.laysM284_ren : Go.Shelf.Ren := ⟨fun | 284 => 62 | 129 => 75 | 317 => 76 | 318 => 77 | n => n, fun | 53 => 44 | 3 => 3 | 212 => 89 | 0 => 0 | 4 => 4 | 46 => 70 | 5 => 5 | 9 => 9 | n => n, fun | 17 => 0 | n => n⟩
theorem Tryd.laysM284 : Go.Proofs.LaysM.n284 Tryd.prog Tryd.laysM284_ren := {
  mixed := by kernel_rfl
  f129 := Tryd.func75.trans (congrArg some (by kernel_rfl))
  f284 := Tryd.func62.trans (congrArg some (by kernel_rfl))
  f317 := Tryd.func76.trans (congrArg some (by kernel_rfl))
  f318 := Tryd.func77.trans (congrArg some (by kernel_rfl))
  t0 := Tryd.underlying0
  a0 := Tryd.isAgg0
  z0 := Tryd.sizeOf0
  v0 := Tryd.zeroValue0
  t3 := Tryd.underlying3
  a3 := Tryd.isAgg3
  z3 := Tryd.sizeOf3
  v3 := Tryd.zeroValue3
  t4 := Tryd.underlying4
  a4 := Tryd.isAgg4
  z4 := Tryd.sizeOf4
  v4 := Tryd.zeroValue4
  t5 := Tryd.underlying5
  a5 := Tryd.isAgg5
  z5 := Tryd.sizeOf5
  v5 := Tryd.zeroValue5
  t9 := Tryd.underlying9
  a9 := Tryd.isAgg9
  z9 := Tryd.sizeOf9
  v9 := Tryd.zeroValue9
  t46 := Tryd.underlying70
  a46 := Tryd.isAgg70
  z46 := Tryd.sizeOf70
  v46 := Tryd.zeroValue70
  t53 := Tryd.underlying44
  a53 := Tryd.isAgg44
  z53 := Tryd.sizeOf44
  v53 := Tryd.zeroValue44
  t212 := Tryd.underlying89
  a212 := Tryd.isAgg89
  z212 := Tryd.sizeOf89
  v212 := Tryd.zeroValue89
  g17 := by kernel_rfl
  i0 := by kernel_rfl
  i3 := by kernel_rfl
  i4 := by kernel_rfl
  i5 := by kernel_rfl
  i9 := by kernel_rfl
  i46 := by kernel_rfl
  i53 := by kernel_rfl
  i212 := by kernel_rfl
  m17 := by kernel_rfl }
open Go.Lib in
/-- internal/strconv.numDigits, at a d that is not 0: THE NUMBER OF d's DECIMAL DIGITS. The world is as it was. (LAID: no walk: one application.) -/
theorem Tryd.internal_strconv_numDigits (u : Nat) (h1 : 1 ≤ u) (h2 : u < 18446744073709551616) (w : World) (htab : Lib.TabIs Tryd.prog w "internal/strconv.uint64pow10" .u64 Lib.pow10Tab) :
    Calls Tryd.prog 62 #[.int .u64 u] w fun e w' => e = .returned (.int .i64 (Lib.nDigits u)) ∧ w' = w := Any.internal_strconv_numDigits Tryd.laysM284 u h1 h2 w htab
def Tryd.lays285_ren : Go.Shelf.Ren := ⟨fun | 285 => 63 | n => n, fun | 37 => 22 | 53 => 44 | 3 => 3 | 4 => 4 | 51 => 87 | 9 => 9 | 5 => 5 | 0 => 0 | n => n, fun | n => n⟩
theorem Tryd.lays285 : Go.Proofs.Lays.n285 Tryd.prog Tryd.lays285_ren := {
  mixed := by kernel_rfl
  f285 := Tryd.func63.trans (congrArg some (by kernel_rfl))
  t0 := Tryd.underlying0
  a0 := Tryd.isAgg0
  z0 := Tryd.sizeOf0
  v0 := Tryd.zeroValue0
  t3 := Tryd.underlying3
  a3 := Tryd.isAgg3
  z3 := Tryd.sizeOf3
  v3 := Tryd.zeroValue3
  t4 := Tryd.underlying4
  a4 := Tryd.isAgg4
  z4 := Tryd.sizeOf4
  v4 := Tryd.zeroValue4
  t5 := Tryd.underlying5
  a5 := Tryd.isAgg5
  z5 := Tryd.sizeOf5
  v5 := Tryd.zeroValue5
  t9 := Tryd.underlying9
  a9 := Tryd.isAgg9
  z9 := Tryd.sizeOf9
  v9 := Tryd.zeroValue9
  t37 := Tryd.underlying22
  a37 := Tryd.isAgg22
  z37 := Tryd.sizeOf22
  v37 := Tryd.zeroValue22
  t51 := Tryd.underlying87
  a51 := Tryd.isAgg87
  z51 := Tryd.sizeOf87
  v51 := Tryd.zeroValue87
  t53 := Tryd.underlying44
  a53 := Tryd.isAgg44
  z53 := Tryd.sizeOf44
  v53 := Tryd.zeroValue44 }
open Go.RowKit Go.Sort Go.Lib in
/-- internal/strconv.formatBase10: "formatBase10 formats the decimal representation of u into a. The caller is responsible for ensuring that a is big enough to hold u. If a is too big, leading zeros will be filled in as needed.": THE ROW HOLDS u's DIGITS ('FmtInv .. 0 ..': every place t holds 'dg u (len - 1 - t)'); all else is as it was but for the count of draws. (LAID: no walk: one application.) -/
theorem Tryd.internal_strconv_formatBase10 (blk off cap : Nat) (u : Nat) (d : Array UInt8) (w : World) (hH : Holds (fun (b : UInt8) => Value.int .u8 (b.toNat : Int)) w blk off d) (hu : u < 10 ^ d.size) (hu64 : u < 18446744073709551616) (hsz : d.size < 4611686018427387904) :
    Calls Tryd.prog 63 #[.slice (some ⟨blk, off, none⟩) d.size cap, .int .u64 u] w fun e w' =>
      e = .returned (.tuple #[]) ∧ ∃ (n v' : Nat) (dk : Array UInt8), w' = (putRow (fun (b : UInt8) => Value.int .u8 (b.toNat : Int)) w blk off dk).drewN n ∧ FmtInv d.size u 0 v' dk := Any.internal_strconv_formatBase10 Tryd.lays285 blk off cap u d w hH hu hu64 hsz
def Tryd.laysM246_ren : Go.Shelf.Ren := ⟨fun | 246 => 58 | 283 => 61 | 284 => 62 | 285 => 63 | 286 => 64 | 129 => 75 | 317 => 76 | 318 => 77 | 319 => 78 | 320 => 79 | 337 => 85 | 338 => 86 | n => n, fun | 2 => 2 | 3 => 3 | 9 => 9 | 4 => 4 | 171 => 73 | 0 => 0 | 53 => 44 | 37 => 22 | 5 => 5 | 173 => 76 | 212 => 89 | 51 => 87 | 20 => 20 | 213 => 90 | 46 => 70 | 232 => 100 | 233 => 101 | n => n, fun | 17 => 0 | 18 => 1 | 19 => 2 | n => n⟩
theorem Tryd.laysM246 : Go.Proofs.LaysM.n246 Tryd.prog Tryd.laysM246_ren := {
  mixed := by kernel_rfl
  f129 := Tryd.func75.trans (congrArg some (by kernel_rfl))
  f246 := Tryd.func58.trans (congrArg some (by kernel_rfl))
  f283 := Tryd.func61.trans (congrArg some (by kernel_rfl))
  f284 := Tryd.func62.trans (congrArg some (by kernel_rfl))
  f285 := Tryd.func63.trans (congrArg some (by kernel_rfl))
  f286 := Tryd.func64.trans (congrArg some (by kernel_rfl))
  f317 := Tryd.func76.trans (congrArg some (by kernel_rfl))
  f318 := Tryd.func77.trans (congrArg some (by kernel_rfl))
  f319 := Tryd.func78.trans (congrArg some (by kernel_rfl))
  f320 := Tryd.func79.trans (congrArg some (by kernel_rfl))
  f337 := Tryd.func85.trans (congrArg some (by kernel_rfl))
  f338 := Tryd.func86.trans (congrArg some (by kernel_rfl))
  t0 := Tryd.underlying0
  a0 := Tryd.isAgg0
  z0 := Tryd.sizeOf0
  v0 := Tryd.zeroValue0
  t2 := Tryd.underlying2
  a2 := Tryd.isAgg2
  z2 := Tryd.sizeOf2
  v2 := Tryd.zeroValue2
  t3 := Tryd.underlying3
  a3 := Tryd.isAgg3
  z3 := Tryd.sizeOf3
  v3 := Tryd.zeroValue3
  t4 := Tryd.underlying4
  a4 := Tryd.isAgg4
  z4 := Tryd.sizeOf4
  v4 := Tryd.zeroValue4
  t5 := Tryd.underlying5
  a5 := Tryd.isAgg5
  z5 := Tryd.sizeOf5
  v5 := Tryd.zeroValue5
  t9 := Tryd.underlying9
  a9 := Tryd.isAgg9
  z9 := Tryd.sizeOf9
  v9 := Tryd.zeroValue9
  t20 := Tryd.underlying20
  a20 := Tryd.isAgg20
  z20 := Tryd.sizeOf20
  v20 := Tryd.zeroValue20
  t37 := Tryd.underlying22
  a37 := Tryd.isAgg22
  z37 := Tryd.sizeOf22
  v37 := Tryd.zeroValue22
  t46 := Tryd.underlying70
  a46 := Tryd.isAgg70
  z46 := Tryd.sizeOf70
  v46 := Tryd.zeroValue70
  t51 := Tryd.underlying87
  a51 := Tryd.isAgg87
  z51 := Tryd.sizeOf87
  v51 := Tryd.zeroValue87
  t53 := Tryd.underlying44
  a53 := Tryd.isAgg44
  z53 := Tryd.sizeOf44
  v53 := Tryd.zeroValue44
  t171 := Tryd.underlying73
  a171 := Tryd.isAgg73
  z171 := Tryd.sizeOf73
  v171 := Tryd.zeroValue73
  t173 := Tryd.underlying76
  a173 := Tryd.isAgg76
  z173 := Tryd.sizeOf76
  v173 := Tryd.zeroValue76
  t212 := Tryd.underlying89
  a212 := Tryd.isAgg89
  z212 := Tryd.sizeOf89
  v212 := Tryd.zeroValue89
  t213 := Tryd.underlying90
  a213 := Tryd.isAgg90
  z213 := Tryd.sizeOf90
  t232 := Tryd.underlying100
  a232 := Tryd.isAgg100
  z232 := Tryd.sizeOf100
  v232 := Tryd.zeroValue100
  t233 := Tryd.underlying101
  a233 := Tryd.isAgg101
  z233 := Tryd.sizeOf101
  v233 := Tryd.zeroValue101
  g17 := by kernel_rfl
  g18 := by kernel_rfl
  g19 := by kernel_rfl
  i0 := by kernel_rfl
  i2 := by kernel_rfl
  i3 := by kernel_rfl
  i4 := by kernel_rfl
  i5 := by kernel_rfl
  i9 := by kernel_rfl
  i20 := by kernel_rfl
  i37 := by kernel_rfl
  i46 := by kernel_rfl
  i51 := by kernel_rfl
  i53 := by kernel_rfl
  i171 := by kernel_rfl
  i173 := by kernel_rfl
  i212 := by kernel_rfl
  i232 := by kernel_rfl
  i233 := by kernel_rfl
  m17 := by kernel_rfl
  m18 := by kernel_rfl
  m19 := by kernel_rfl }
open Go.RowKit Go.Sort Go.Lib in
/-- internal/strconv.FormatInt: "FormatInt returns the string representation of i in the given base": AT BASE 10: i's decimal numeral, for every int64. The world behind the call: the world before it, new blocks behind the heap, draws. (LAID: no walk: one application.) -/
theorem Tryd.internal_strconv_FormatInt_10 (n : Int) (h0 : -9223372036854775808 ≤ n) (h1 : n ≤ 9223372036854775807) (w : World) (htab : Lib.TabIs Tryd.prog w "internal/strconv.uint64pow10" .u64 Lib.pow10Tab) :
    Calls Tryd.prog 58 #[.int .i64 n, .int .i64 10] w fun e w' => e = .returned (.string ⟨(Lib.itoa n).toArray⟩) ∧ ∃ k os, w' = grow (w.drewN k) os := Any.internal_strconv_FormatInt_10 Tryd.laysM246 n h0 h1 w htab
def Tryd.lays246_ren : Go.Shelf.Ren := ⟨fun | 246 => 58 | 283 => 61 | 284 => 62 | 285 => 63 | 286 => 64 | 129 => 75 | 317 => 76 | 318 => 77 | 319 => 78 | 320 => 79 | 337 => 85 | 338 => 86 | n => n, fun | 2 => 2 | 3 => 3 | 9 => 9 | 4 => 4 | 171 => 73 | 0 => 0 | 53 => 44 | 37 => 22 | 5 => 5 | 173 => 76 | 212 => 89 | 51 => 87 | 20 => 20 | 213 => 90 | 46 => 70 | 232 => 100 | 233 => 101 | n => n, fun | 17 => 0 | 18 => 1 | 19 => 2 | n => n⟩
theorem Tryd.lays246 : Go.Proofs.Lays.n246 Tryd.prog Tryd.lays246_ren := {
  mixed := by kernel_rfl
  f129 := Tryd.func75.trans (congrArg some (by kernel_rfl))
  f246 := Tryd.func58.trans (congrArg some (by kernel_rfl))
  f283 := Tryd.func61.trans (congrArg some (by kernel_rfl))
  f284 := Tryd.func62.trans (congrArg some (by kernel_rfl))
  f285 := Tryd.func63.trans (congrArg some (by kernel_rfl))
  f286 := Tryd.func64.trans (congrArg some (by kernel_rfl))
  f317 := Tryd.func76.trans (congrArg some (by kernel_rfl))
  f318 := Tryd.func77.trans (congrArg some (by kernel_rfl))
  f319 := Tryd.func78.trans (congrArg some (by kernel_rfl))
  f320 := Tryd.func79.trans (congrArg some (by kernel_rfl))
  f337 := Tryd.func85.trans (congrArg some (by kernel_rfl))
  f338 := Tryd.func86.trans (congrArg some (by kernel_rfl))
  t0 := Tryd.underlying0
  a0 := Tryd.isAgg0
  z0 := Tryd.sizeOf0
  v0 := Tryd.zeroValue0
  t2 := Tryd.underlying2
  a2 := Tryd.isAgg2
  z2 := Tryd.sizeOf2
  v2 := Tryd.zeroValue2
  t3 := Tryd.underlying3
  a3 := Tryd.isAgg3
  z3 := Tryd.sizeOf3
  v3 := Tryd.zeroValue3
  t4 := Tryd.underlying4
  a4 := Tryd.isAgg4
  z4 := Tryd.sizeOf4
  v4 := Tryd.zeroValue4
  t5 := Tryd.underlying5
  a5 := Tryd.isAgg5
  z5 := Tryd.sizeOf5
  v5 := Tryd.zeroValue5
  t9 := Tryd.underlying9
  a9 := Tryd.isAgg9
  z9 := Tryd.sizeOf9
  v9 := Tryd.zeroValue9
  t20 := Tryd.underlying20
  a20 := Tryd.isAgg20
  z20 := Tryd.sizeOf20
  v20 := Tryd.zeroValue20
  t37 := Tryd.underlying22
  a37 := Tryd.isAgg22
  z37 := Tryd.sizeOf22
  v37 := Tryd.zeroValue22
  t46 := Tryd.underlying70
  a46 := Tryd.isAgg70
  z46 := Tryd.sizeOf70
  v46 := Tryd.zeroValue70
  t51 := Tryd.underlying87
  a51 := Tryd.isAgg87
  z51 := Tryd.sizeOf87
  v51 := Tryd.zeroValue87
  t53 := Tryd.underlying44
  a53 := Tryd.isAgg44
  z53 := Tryd.sizeOf44
  v53 := Tryd.zeroValue44
  t171 := Tryd.underlying73
  a171 := Tryd.isAgg73
  z171 := Tryd.sizeOf73
  v171 := Tryd.zeroValue73
  t173 := Tryd.underlying76
  a173 := Tryd.isAgg76
  z173 := Tryd.sizeOf76
  v173 := Tryd.zeroValue76
  t212 := Tryd.underlying89
  a212 := Tryd.isAgg89
  z212 := Tryd.sizeOf89
  v212 := Tryd.zeroValue89
  t213 := Tryd.underlying90
  a213 := Tryd.isAgg90
  z213 := Tryd.sizeOf90
  t232 := Tryd.underlying100
  a232 := Tryd.isAgg100
  z232 := Tryd.sizeOf100
  v232 := Tryd.zeroValue100
  t233 := Tryd.underlying101
  a233 := Tryd.isAgg101
  z233 := Tryd.sizeOf101
  v233 := Tryd.zeroValue101
  g17 := by kernel_rfl
  g18 := by kernel_rfl
  g19 := by kernel_rfl }
open Go.RowKit Go.Sort Go.Lib in
/-- THE ROAD WITHOUT THE TABLE: 0 <= i < 100: two constants are read, nothing is laid: no premise on the world, and the world is as it was. (LAID: no walk: one application.) -/
theorem Tryd.internal_strconv_FormatInt_10_small (i : Nat) (hi : i < 100) (w : World) :
    Calls Tryd.prog 58 #[.int .i64 i, .int .i64 10] w fun e w' => e = .returned (.string ⟨(Lib.decDigits i).toArray⟩) ∧ w' = w := Any.internal_strconv_FormatInt_10_small Tryd.lays246 i hi w
def Tryd.laysM243_ren : Go.Shelf.Ren := ⟨fun | 243 => 52 | 246 => 58 | 283 => 61 | 284 => 62 | 285 => 63 | 286 => 64 | 129 => 75 | 317 => 76 | 318 => 77 | 319 => 78 | 320 => 79 | 337 => 85 | 338 => 86 | n => n, fun | 3 => 3 | 9 => 9 | 2 => 2 | 4 => 4 | 171 => 73 | 0 => 0 | 53 => 44 | 37 => 22 | 5 => 5 | 173 => 76 | 212 => 89 | 51 => 87 | 20 => 20 | 213 => 90 | 46 => 70 | 232 => 100 | 233 => 101 | n => n, fun | 17 => 0 | 18 => 1 | 19 => 2 | n => n⟩
theorem Tryd.laysM243 : Go.Proofs.LaysM.n243 Tryd.prog Tryd.laysM243_ren := {
  mixed := by kernel_rfl
  f129 := Tryd.func75.trans (congrArg some (by kernel_rfl))
  f243 := Tryd.func52.trans (congrArg some (by kernel_rfl))
  f246 := Tryd.func58.trans (congrArg some (by kernel_rfl))
  f283 := Tryd.func61.trans (congrArg some (by kernel_rfl))
  f284 := Tryd.func62.trans (congrArg some (by kernel_rfl))
  f285 := Tryd.func63.trans (congrArg some (by kernel_rfl))
  f286 := Tryd.func64.trans (congrArg some (by kernel_rfl))
  f317 := Tryd.func76.trans (congrArg some (by kernel_rfl))
  f318 := Tryd.func77.trans (congrArg some (by kernel_rfl))
  f319 := Tryd.func78.trans (congrArg some (by kernel_rfl))
  f320 := Tryd.func79.trans (congrArg some (by kernel_rfl))
  f337 := Tryd.func85.trans (congrArg some (by kernel_rfl))
  f338 := Tryd.func86.trans (congrArg some (by kernel_rfl))
  t0 := Tryd.underlying0
  a0 := Tryd.isAgg0
  z0 := Tryd.sizeOf0
  v0 := Tryd.zeroValue0
  t2 := Tryd.underlying2
  a2 := Tryd.isAgg2
  z2 := Tryd.sizeOf2
  v2 := Tryd.zeroValue2
  t3 := Tryd.underlying3
  a3 := Tryd.isAgg3
  z3 := Tryd.sizeOf3
  v3 := Tryd.zeroValue3
  t4 := Tryd.underlying4
  a4 := Tryd.isAgg4
  z4 := Tryd.sizeOf4
  v4 := Tryd.zeroValue4
  t5 := Tryd.underlying5
  a5 := Tryd.isAgg5
  z5 := Tryd.sizeOf5
  v5 := Tryd.zeroValue5
  t9 := Tryd.underlying9
  a9 := Tryd.isAgg9
  z9 := Tryd.sizeOf9
  v9 := Tryd.zeroValue9
  t20 := Tryd.underlying20
  a20 := Tryd.isAgg20
  z20 := Tryd.sizeOf20
  v20 := Tryd.zeroValue20
  t37 := Tryd.underlying22
  a37 := Tryd.isAgg22
  z37 := Tryd.sizeOf22
  v37 := Tryd.zeroValue22
  t46 := Tryd.underlying70
  a46 := Tryd.isAgg70
  z46 := Tryd.sizeOf70
  v46 := Tryd.zeroValue70
  t51 := Tryd.underlying87
  a51 := Tryd.isAgg87
  z51 := Tryd.sizeOf87
  v51 := Tryd.zeroValue87
  t53 := Tryd.underlying44
  a53 := Tryd.isAgg44
  z53 := Tryd.sizeOf44
  v53 := Tryd.zeroValue44
  t171 := Tryd.underlying73
  a171 := Tryd.isAgg73
  z171 := Tryd.sizeOf73
  v171 := Tryd.zeroValue73
  t173 := Tryd.underlying76
  a173 := Tryd.isAgg76
  z173 := Tryd.sizeOf76
  v173 := Tryd.zeroValue76
  t212 := Tryd.underlying89
  a212 := Tryd.isAgg89
  z212 := Tryd.sizeOf89
  v212 := Tryd.zeroValue89
  t213 := Tryd.underlying90
  a213 := Tryd.isAgg90
  z213 := Tryd.sizeOf90
  t232 := Tryd.underlying100
  a232 := Tryd.isAgg100
  z232 := Tryd.sizeOf100
  v232 := Tryd.zeroValue100
  t233 := Tryd.underlying101
  a233 := Tryd.isAgg101
  z233 := Tryd.sizeOf101
  v233 := Tryd.zeroValue101
  g17 := by kernel_rfl
  g18 := by kernel_rfl
  g19 := by kernel_rfl
  i0 := by kernel_rfl
  i2 := by kernel_rfl
  i3 := by kernel_rfl
  i4 := by kernel_rfl
  i5 := by kernel_rfl
  i9 := by kernel_rfl
  i20 := by kernel_rfl
  i37 := by kernel_rfl
  i46 := by kernel_rfl
  i51 := by kernel_rfl
  i53 := by kernel_rfl
  i171 := by kernel_rfl
  i173 := by kernel_rfl
  i212 := by kernel_rfl
  i232 := by kernel_rfl
  i233 := by kernel_rfl
  m17 := by kernel_rfl
  m18 := by kernel_rfl
  m19 := by kernel_rfl }
open Go.RowKit Go.Sort Go.Lib in
/-- internal/strconv.Itoa: "Itoa is equivalent to FormatInt(int64(i), 10).": i's decimal numeral, for every int. (LAID: no walk: one application.) -/
theorem Tryd.internal_strconv_Itoa (n : Int) (h0 : -9223372036854775808 ≤ n) (h1 : n ≤ 9223372036854775807) (w : World) (htab : Lib.TabIs Tryd.prog w "internal/strconv.uint64pow10" .u64 Lib.pow10Tab) :
    Calls Tryd.prog 52 #[.int .i64 n] w fun e w' => e = .returned (.string ⟨(Lib.itoa n).toArray⟩) ∧ ∃ k os, w' = grow (w.drewN k) os := Any.internal_strconv_Itoa Tryd.laysM243 n h0 h1 w htab
def Tryd.lays243_ren : Go.Shelf.Ren := ⟨fun | 243 => 52 | 246 => 58 | 283 => 61 | 284 => 62 | 285 => 63 | 286 => 64 | 129 => 75 | 317 => 76 | 318 => 77 | 319 => 78 | 320 => 79 | 337 => 85 | 338 => 86 | n => n, fun | 3 => 3 | 9 => 9 | 2 => 2 | 4 => 4 | 171 => 73 | 0 => 0 | 53 => 44 | 37 => 22 | 5 => 5 | 173 => 76 | 212 => 89 | 51 => 87 | 20 => 20 | 213 => 90 | 46 => 70 | 232 => 100 | 233 => 101 | n => n, fun | 17 => 0 | 18 => 1 | 19 => 2 | n => n⟩
theorem Tryd.lays243 : Go.Proofs.Lays.n243 Tryd.prog Tryd.lays243_ren := {
  mixed := by kernel_rfl
  f129 := Tryd.func75.trans (congrArg some (by kernel_rfl))
  f243 := Tryd.func52.trans (congrArg some (by kernel_rfl))
  f246 := Tryd.func58.trans (congrArg some (by kernel_rfl))
  f283 := Tryd.func61.trans (congrArg some (by kernel_rfl))
  f284 := Tryd.func62.trans (congrArg some (by kernel_rfl))
  f285 := Tryd.func63.trans (congrArg some (by kernel_rfl))
  f286 := Tryd.func64.trans (congrArg some (by kernel_rfl))
  f317 := Tryd.func76.trans (congrArg some (by kernel_rfl))
  f318 := Tryd.func77.trans (congrArg some (by kernel_rfl))
  f319 := Tryd.func78.trans (congrArg some (by kernel_rfl))
  f320 := Tryd.func79.trans (congrArg some (by kernel_rfl))
  f337 := Tryd.func85.trans (congrArg some (by kernel_rfl))
  f338 := Tryd.func86.trans (congrArg some (by kernel_rfl))
  t0 := Tryd.underlying0
  a0 := Tryd.isAgg0
  z0 := Tryd.sizeOf0
  v0 := Tryd.zeroValue0
  t2 := Tryd.underlying2
  a2 := Tryd.isAgg2
  z2 := Tryd.sizeOf2
  v2 := Tryd.zeroValue2
  t3 := Tryd.underlying3
  a3 := Tryd.isAgg3
  z3 := Tryd.sizeOf3
  v3 := Tryd.zeroValue3
  t4 := Tryd.underlying4
  a4 := Tryd.isAgg4
  z4 := Tryd.sizeOf4
  v4 := Tryd.zeroValue4
  t5 := Tryd.underlying5
  a5 := Tryd.isAgg5
  z5 := Tryd.sizeOf5
  v5 := Tryd.zeroValue5
  t9 := Tryd.underlying9
  a9 := Tryd.isAgg9
  z9 := Tryd.sizeOf9
  v9 := Tryd.zeroValue9
  t20 := Tryd.underlying20
  a20 := Tryd.isAgg20
  z20 := Tryd.sizeOf20
  v20 := Tryd.zeroValue20
  t37 := Tryd.underlying22
  a37 := Tryd.isAgg22
  z37 := Tryd.sizeOf22
  v37 := Tryd.zeroValue22
  t46 := Tryd.underlying70
  a46 := Tryd.isAgg70
  z46 := Tryd.sizeOf70
  v46 := Tryd.zeroValue70
  t51 := Tryd.underlying87
  a51 := Tryd.isAgg87
  z51 := Tryd.sizeOf87
  v51 := Tryd.zeroValue87
  t53 := Tryd.underlying44
  a53 := Tryd.isAgg44
  z53 := Tryd.sizeOf44
  v53 := Tryd.zeroValue44
  t171 := Tryd.underlying73
  a171 := Tryd.isAgg73
  z171 := Tryd.sizeOf73
  v171 := Tryd.zeroValue73
  t173 := Tryd.underlying76
  a173 := Tryd.isAgg76
  z173 := Tryd.sizeOf76
  v173 := Tryd.zeroValue76
  t212 := Tryd.underlying89
  a212 := Tryd.isAgg89
  z212 := Tryd.sizeOf89
  v212 := Tryd.zeroValue89
  t213 := Tryd.underlying90
  a213 := Tryd.isAgg90
  z213 := Tryd.sizeOf90
  t232 := Tryd.underlying100
  a232 := Tryd.isAgg100
  z232 := Tryd.sizeOf100
  v232 := Tryd.zeroValue100
  t233 := Tryd.underlying101
  a233 := Tryd.isAgg101
  z233 := Tryd.sizeOf101
  v233 := Tryd.zeroValue101
  g17 := by kernel_rfl
  g18 := by kernel_rfl
  g19 := by kernel_rfl }
open Go.RowKit Go.Sort Go.Lib in
/-- THE ROAD WITHOUT THE TABLE: 0 <= i < 100. (LAID: no walk: one application.) -/
theorem Tryd.internal_strconv_Itoa_small (i : Nat) (hi : i < 100) (w : World) :
    Calls Tryd.prog 52 #[.int .i64 i] w fun e w' => e = .returned (.string ⟨(Lib.decDigits i).toArray⟩) ∧ w' = w := Any.internal_strconv_Itoa_small Tryd.lays243 i hi w
def Tryd.laysM171_ren : Go.Shelf.Ren := ⟨fun | 171 => 39 | 243 => 52 | 246 => 58 | 283 => 61 | 284 => 62 | 285 => 63 | 286 => 64 | 129 => 75 | 317 => 76 | 318 => 77 | 319 => 78 | 320 => 79 | 337 => 85 | 338 => 86 | n => n, fun | 3 => 3 | 9 => 9 | 2 => 2 | 4 => 4 | 171 => 73 | 0 => 0 | 53 => 44 | 37 => 22 | 5 => 5 | 173 => 76 | 212 => 89 | 51 => 87 | 20 => 20 | 213 => 90 | 46 => 70 | 232 => 100 | 233 => 101 | n => n, fun | 17 => 0 | 18 => 1 | 19 => 2 | n => n⟩
theorem Tryd.laysM171 : Go.Proofs.LaysM.n171 Tryd.prog Tryd.laysM171_ren := {
  mixed := by kernel_rfl
  f129 := Tryd.func75.trans (congrArg some (by kernel_rfl))
  f171 := Tryd.func39.trans (congrArg some (by kernel_rfl))
  f243 := Tryd.func52.trans (congrArg some (by kernel_rfl))
  f246 := Tryd.func58.trans (congrArg some (by kernel_rfl))
  f283 := Tryd.func61.trans (congrArg some (by kernel_rfl))
  f284 := Tryd.func62.trans (congrArg some (by kernel_rfl))
  f285 := Tryd.func63.trans (congrArg some (by kernel_rfl))
  f286 := Tryd.func64.trans (congrArg some (by kernel_rfl))
  f317 := Tryd.func76.trans (congrArg some (by kernel_rfl))
  f318 := Tryd.func77.trans (congrArg some (by kernel_rfl))
  f319 := Tryd.func78.trans (congrArg some (by kernel_rfl))
  f320 := Tryd.func79.trans (congrArg some (by kernel_rfl))
  f337 := Tryd.func85.trans (congrArg some (by kernel_rfl))
  f338 := Tryd.func86.trans (congrArg some (by kernel_rfl))
  t0 := Tryd.underlying0
  a0 := Tryd.isAgg0
  z0 := Tryd.sizeOf0
  v0 := Tryd.zeroValue0
  t2 := Tryd.underlying2
  a2 := Tryd.isAgg2
  z2 := Tryd.sizeOf2
  v2 := Tryd.zeroValue2
  t3 := Tryd.underlying3
  a3 := Tryd.isAgg3
  z3 := Tryd.sizeOf3
  v3 := Tryd.zeroValue3
  t4 := Tryd.underlying4
  a4 := Tryd.isAgg4
  z4 := Tryd.sizeOf4
  v4 := Tryd.zeroValue4
  t5 := Tryd.underlying5
  a5 := Tryd.isAgg5
  z5 := Tryd.sizeOf5
  v5 := Tryd.zeroValue5
  t9 := Tryd.underlying9
  a9 := Tryd.isAgg9
  z9 := Tryd.sizeOf9
  v9 := Tryd.zeroValue9
  t20 := Tryd.underlying20
  a20 := Tryd.isAgg20
  z20 := Tryd.sizeOf20
  v20 := Tryd.zeroValue20
  t37 := Tryd.underlying22
  a37 := Tryd.isAgg22
  z37 := Tryd.sizeOf22
  v37 := Tryd.zeroValue22
  t46 := Tryd.underlying70
  a46 := Tryd.isAgg70
  z46 := Tryd.sizeOf70
  v46 := Tryd.zeroValue70
  t51 := Tryd.underlying87
  a51 := Tryd.isAgg87
  z51 := Tryd.sizeOf87
  v51 := Tryd.zeroValue87
  t53 := Tryd.underlying44
  a53 := Tryd.isAgg44
  z53 := Tryd.sizeOf44
  v53 := Tryd.zeroValue44
  t171 := Tryd.underlying73
  a171 := Tryd.isAgg73
  z171 := Tryd.sizeOf73
  v171 := Tryd.zeroValue73
  t173 := Tryd.underlying76
  a173 := Tryd.isAgg76
  z173 := Tryd.sizeOf76
  v173 := Tryd.zeroValue76
  t212 := Tryd.underlying89
  a212 := Tryd.isAgg89
  z212 := Tryd.sizeOf89
  v212 := Tryd.zeroValue89
  t213 := Tryd.underlying90
  a213 := Tryd.isAgg90
  z213 := Tryd.sizeOf90
  t232 := Tryd.underlying100
  a232 := Tryd.isAgg100
  z232 := Tryd.sizeOf100
  v232 := Tryd.zeroValue100
  t233 := Tryd.underlying101
  a233 := Tryd.isAgg101
  z233 := Tryd.sizeOf101
  v233 := Tryd.zeroValue101
  g17 := by kernel_rfl
  g18 := by kernel_rfl
  g19 := by kernel_rfl
  i0 := by kernel_rfl
  i2 := by kernel_rfl
  i3 := by kernel_rfl
  i4 := by kernel_rfl
  i5 := by kernel_rfl
  i9 := by kernel_rfl
  i20 := by kernel_rfl
  i37 := by kernel_rfl
  i46 := by kernel_rfl
  i51 := by kernel_rfl
  i53 := by kernel_rfl
  i171 := by kernel_rfl
  i173 := by kernel_rfl
  i212 := by kernel_rfl
  i232 := by kernel_rfl
  i233 := by kernel_rfl
  m17 := by kernel_rfl
  m18 := by kernel_rfl
  m19 := by kernel_rfl }
open Go.RowKit Go.Sort Go.Lib in
/-- strconv.Itoa: "Itoa is equivalent to FormatInt(int64(i), 10).": i's DECIMAL NUMERAL ('Lib.itoa': a '-' where i is negative, then the digits), FOR EVERY int. The world behind the call: the world before it, new blocks behind the heap (the library's 'var a [24]byte'), draws. (LAID: no walk: one application.) -/
theorem Tryd.strconv_Itoa (n : Int) (h0 : -9223372036854775808 ≤ n) (h1 : n ≤ 9223372036854775807) (w : World) (htab : Lib.TabIs Tryd.prog w "internal/strconv.uint64pow10" .u64 Lib.pow10Tab) :
    Calls Tryd.prog 39 #[.int .i64 n] w fun e w' => e = .returned (.string ⟨(Lib.itoa n).toArray⟩) ∧ ∃ k os, w' = grow (w.drewN k) os := Any.strconv_Itoa Tryd.laysM171 n h0 h1 w htab
def Tryd.lays171_ren : Go.Shelf.Ren := ⟨fun | 171 => 39 | 243 => 52 | 246 => 58 | 283 => 61 | 284 => 62 | 285 => 63 | 286 => 64 | 129 => 75 | 317 => 76 | 318 => 77 | 319 => 78 | 320 => 79 | 337 => 85 | 338 => 86 | n => n, fun | 3 => 3 | 9 => 9 | 2 => 2 | 4 => 4 | 171 => 73 | 0 => 0 | 53 => 44 | 37 => 22 | 5 => 5 | 173 => 76 | 212 => 89 | 51 => 87 | 20 => 20 | 213 => 90 | 46 => 70 | 232 => 100 | 233 => 101 | n => n, fun | 17 => 0 | 18 => 1 | 19 => 2 | n => n⟩
theorem Tryd.lays171 : Go.Proofs.Lays.n171 Tryd.prog Tryd.lays171_ren := {
  mixed := by kernel_rfl
  f129 := Tryd.func75.trans (congrArg some (by kernel_rfl))
  f171 := Tryd.func39.trans (congrArg some (by kernel_rfl))
  f243 := Tryd.func52.trans (congrArg some (by kernel_rfl))
  f246 := Tryd.func58.trans (congrArg some (by kernel_rfl))
  f283 := Tryd.func61.trans (congrArg some (by kernel_rfl))
  f284 := Tryd.func62.trans (congrArg some (by kernel_rfl))
  f285 := Tryd.func63.trans (congrArg some (by kernel_rfl))
  f286 := Tryd.func64.trans (congrArg some (by kernel_rfl))
  f317 := Tryd.func76.trans (congrArg some (by kernel_rfl))
  f318 := Tryd.func77.trans (congrArg some (by kernel_rfl))
  f319 := Tryd.func78.trans (congrArg some (by kernel_rfl))
  f320 := Tryd.func79.trans (congrArg some (by kernel_rfl))
  f337 := Tryd.func85.trans (congrArg some (by kernel_rfl))
  f338 := Tryd.func86.trans (congrArg some (by kernel_rfl))
  t0 := Tryd.underlying0
  a0 := Tryd.isAgg0
  z0 := Tryd.sizeOf0
  v0 := Tryd.zeroValue0
  t2 := Tryd.underlying2
  a2 := Tryd.isAgg2
  z2 := Tryd.sizeOf2
  v2 := Tryd.zeroValue2
  t3 := Tryd.underlying3
  a3 := Tryd.isAgg3
  z3 := Tryd.sizeOf3
  v3 := Tryd.zeroValue3
  t4 := Tryd.underlying4
  a4 := Tryd.isAgg4
  z4 := Tryd.sizeOf4
  v4 := Tryd.zeroValue4
  t5 := Tryd.underlying5
  a5 := Tryd.isAgg5
  z5 := Tryd.sizeOf5
  v5 := Tryd.zeroValue5
  t9 := Tryd.underlying9
  a9 := Tryd.isAgg9
  z9 := Tryd.sizeOf9
  v9 := Tryd.zeroValue9
  t20 := Tryd.underlying20
  a20 := Tryd.isAgg20
  z20 := Tryd.sizeOf20
  v20 := Tryd.zeroValue20
  t37 := Tryd.underlying22
  a37 := Tryd.isAgg22
  z37 := Tryd.sizeOf22
  v37 := Tryd.zeroValue22
  t46 := Tryd.underlying70
  a46 := Tryd.isAgg70
  z46 := Tryd.sizeOf70
  v46 := Tryd.zeroValue70
  t51 := Tryd.underlying87
  a51 := Tryd.isAgg87
  z51 := Tryd.sizeOf87
  v51 := Tryd.zeroValue87
  t53 := Tryd.underlying44
  a53 := Tryd.isAgg44
  z53 := Tryd.sizeOf44
  v53 := Tryd.zeroValue44
  t171 := Tryd.underlying73
  a171 := Tryd.isAgg73
  z171 := Tryd.sizeOf73
  v171 := Tryd.zeroValue73
  t173 := Tryd.underlying76
  a173 := Tryd.isAgg76
  z173 := Tryd.sizeOf76
  v173 := Tryd.zeroValue76
  t212 := Tryd.underlying89
  a212 := Tryd.isAgg89
  z212 := Tryd.sizeOf89
  v212 := Tryd.zeroValue89
  t213 := Tryd.underlying90
  a213 := Tryd.isAgg90
  z213 := Tryd.sizeOf90
  t232 := Tryd.underlying100
  a232 := Tryd.isAgg100
  z232 := Tryd.sizeOf100
  v232 := Tryd.zeroValue100
  t233 := Tryd.underlying101
  a233 := Tryd.isAgg101
  z233 := Tryd.sizeOf101
  v233 := Tryd.zeroValue101
  g17 := by kernel_rfl
  g18 := by kernel_rfl
  g19 := by kernel_rfl }
open Go.RowKit Go.Sort Go.Lib in
/-- THE ROAD WITHOUT THE TABLE: 0 <= i < 100: NO PREMISE ON THE WORLD, AND THE WORLD IS AS IT WAS: a row that keeps its argument in that range need list no table ('laid = []'). (LAID: no walk: one application.) -/
theorem Tryd.strconv_Itoa_small (i : Nat) (hi : i < 100) (w : World) :
    Calls Tryd.prog 39 #[.int .i64 i] w fun e w' => e = .returned (.string ⟨(Lib.decDigits i).toArray⟩) ∧ w' = w := Any.strconv_Itoa_small Tryd.lays171 i hi w
def Tryd.lays189_ren : Go.Shelf.Ren := ⟨fun | 189 => 55 | 125 => 60 | 257 => 59 | 128 => 74 | 129 => 75 | 294 => 65 | 295 => 66 | 296 => 67 | 297 => 68 | 298 => 69 | 299 => 70 | 216 => 71 | 300 => 72 | 301 => 73 | 328 => 80 | 329 => 81 | 330 => 82 | 331 => 83 | 332 => 84 | 215 => 57 | 343 => 87 | n => n, fun | 28 => 49 | 3 => 3 | 46 => 70 | 0 => 0 | 51 => 87 | 53 => 44 | 4 => 4 | 183 => 80 | 182 => 79 | 131 => 32 | 5 => 5 | 9 => 9 | 218 => 91 | 222 => 95 | 228 => 97 | 229 => 98 | n => n, fun | n => n⟩
theorem Tryd.lays189 : Go.Proofs.Lays.n189 Tryd.prog Tryd.lays189_ren := {
  mixed := by kernel_rfl
  f125 := Tryd.func60.trans (congrArg some (by kernel_rfl))
  f128 := Tryd.func74.trans (congrArg some (by kernel_rfl))
  f129 := Tryd.func75.trans (congrArg some (by kernel_rfl))
  f189 := Tryd.func55.trans (congrArg some (by kernel_rfl))
  f215 := Tryd.func57.trans (congrArg some (by kernel_rfl))
  f216 := Tryd.func71.trans (congrArg some (by kernel_rfl))
  f257 := Tryd.func59.trans (congrArg some (by kernel_rfl))
  f294 := Tryd.func65.trans (congrArg some (by kernel_rfl))
  f295 := Tryd.func66.trans (congrArg some (by kernel_rfl))
  f296 := Tryd.func67.trans (congrArg some (by kernel_rfl))
  f297 := Tryd.func68.trans (congrArg some (by kernel_rfl))
  f298 := Tryd.func69.trans (congrArg some (by kernel_rfl))
  f299 := Tryd.func70.trans (congrArg some (by kernel_rfl))
  f300 := Tryd.func72.trans (congrArg some (by kernel_rfl))
  f301 := Tryd.func73.trans (congrArg some (by kernel_rfl))
  f328 := Tryd.func80.trans (congrArg some (by kernel_rfl))
  f329 := Tryd.func81.trans (congrArg some (by kernel_rfl))
  f330 := Tryd.func82.trans (congrArg some (by kernel_rfl))
  f331 := Tryd.func83.trans (congrArg some (by kernel_rfl))
  f332 := Tryd.func84.trans (congrArg some (by kernel_rfl))
  f343 := Tryd.func87.trans (congrArg some (by kernel_rfl))
  t0 := Tryd.underlying0
  a0 := Tryd.isAgg0
  z0 := Tryd.sizeOf0
  v0 := Tryd.zeroValue0
  t3 := Tryd.underlying3
  a3 := Tryd.isAgg3
  z3 := Tryd.sizeOf3
  v3 := Tryd.zeroValue3
  t4 := Tryd.underlying4
  a4 := Tryd.isAgg4
  z4 := Tryd.sizeOf4
  v4 := Tryd.zeroValue4
  t5 := Tryd.underlying5
  a5 := Tryd.isAgg5
  z5 := Tryd.sizeOf5
  v5 := Tryd.zeroValue5
  t9 := Tryd.underlying9
  a9 := Tryd.isAgg9
  z9 := Tryd.sizeOf9
  v9 := Tryd.zeroValue9
  t28 := Tryd.underlying49
  a28 := Tryd.isAgg49
  z28 := Tryd.sizeOf49
  v28 := Tryd.zeroValue49
  t46 := Tryd.underlying70
  a46 := Tryd.isAgg70
  z46 := Tryd.sizeOf70
  v46 := Tryd.zeroValue70
  t51 := Tryd.underlying87
  a51 := Tryd.isAgg87
  z51 := Tryd.sizeOf87
  v51 := Tryd.zeroValue87
  t53 := Tryd.underlying44
  a53 := Tryd.isAgg44
  z53 := Tryd.sizeOf44
  v53 := Tryd.zeroValue44
  t131 := Tryd.underlying32
  a131 := Tryd.isAgg32
  z131 := Tryd.sizeOf32
  v131 := Tryd.zeroValue32
  t182 := Tryd.underlying79
  a182 := Tryd.isAgg79
  z182 := Tryd.sizeOf79
  v182 := Tryd.zeroValue79
  t183 := Tryd.underlying80
  a183 := Tryd.isAgg80
  z183 := Tryd.sizeOf80
  v183 := Tryd.zeroValue80
  t218 := Tryd.underlying91
  a218 := Tryd.isAgg91
  z218 := Tryd.sizeOf91
  v218 := Tryd.zeroValue91
  t222 := Tryd.underlying95
  a222 := Tryd.isAgg95
  z222 := Tryd.sizeOf95
  v222 := Tryd.zeroValue95
  t228 := Tryd.underlying97
  a228 := Tryd.isAgg97
  z228 := Tryd.sizeOf97
  v228 := Tryd.zeroValue97
  t229 := Tryd.underlying98
  a229 := Tryd.isAgg98
  z229 := Tryd.sizeOf98
  v229 := Tryd.zeroValue98 }
open Go.Sort Go.RowKit in
theorem Tryd.slices_Sort_int (blk off cap : Nat) (zs : List Int) (w : World) (hH : Holds (Value.int .i64) w blk off zs.toArray) (hblk : blk < w.heap.size) (hsz : zs.length < 4611686018427387904) :
    Calls Tryd.prog 55 #[.slice (some ⟨blk, off, none⟩) zs.length cap] w fun e w' =>
      e = .returned (.tuple #[]) ∧ ∃ n os, w' = grow (putRow (Value.int .i64) (Sort.ahead w n) blk off (zs.mergeSort fun x y => decide (x ≤ y)).toArray) os := Any.slices_Sort_int Tryd.lays189 blk off cap zs w hH hblk hsz
def Tryd.laysNm220_ren : Go.Shelf.Ren := ⟨fun | 20 => 56 | n => n, fun | 22 => 49 | 3 => 3 | 4 => 4 | 0 => 0 | n => n, fun | n => n⟩
theorem Tryd.laysNm220 : Go.Proofs.Lays2.n20 Tryd.prog Tryd.laysNm220_ren := {
  mixed := by kernel_rfl
  f20 := Tryd.func56.trans (congrArg some (by kernel_rfl))
  t0 := Tryd.underlying0
  a0 := Tryd.isAgg0
  z0 := Tryd.sizeOf0
  v0 := Tryd.zeroValue0
  t3 := Tryd.underlying3
  a3 := Tryd.isAgg3
  z3 := Tryd.sizeOf3
  v3 := Tryd.zeroValue3
  t4 := Tryd.underlying4
  a4 := Tryd.isAgg4
  z4 := Tryd.sizeOf4
  v4 := Tryd.zeroValue4
  t22 := Tryd.underlying49
  a22 := Tryd.isAgg49
  z22 := Tryd.sizeOf49
  v22 := Tryd.zeroValue49
  i3 := by kernel_rfl }
open Go.RowKit Go.Lib Go.Sort in
/-- slices.Compact at []int, over an array: the library's two loops are walked. (LAID: no walk: one application.) -/
theorem Tryd.slices_Compact_int_arr (blk off cap : Nat) (d : Array Int) (w : World) (hH : Holds encI w blk off d) (hsz : d.size ≤ 9223372036854775807) (hcap : d.size ≤ cap) :
    Calls Tryd.prog 56 #[.slice (some ⟨blk, off, none⟩) d.size cap] w fun e w' => e = .returned (.slice (some ⟨blk, off, none⟩) (compactUpTo d d.size).length cap) ∧ ∃ q, w' = putRow encI (Sort.ahead w q) blk off (compactUpTo d d.size ++ List.replicate (d.size - (compactUpTo d d.size).length) 0).toArray := Any.slices_Compact_int_arr Tryd.laysNm220 blk off cap d w hH hsz hcap
open Go.RowKit Go.Lib Go.Sort in
/-- slices.Compact at []int: "Compact replaces consecutive runs of equal elements with a single copy. This is like the uniq command found on Unix. Compact modifies the contents of the slice s and returns the modified slice, which may have a smaller length. Compact zeroes the elements between the new length and the original length. The result preserves the nilness of s.": IT RETURNS THE SLICE CUT TO 'Lib.compact zs'; ITS CELLS HOLD 'Lib.compact zs', THEN ZERO VALUES up to the old length; all else is as it was, but for the count of draws. IN THE WORDS OF slices.Sort's CONTRACT ('Holds', 'putRow'): so the everyday 'slices.Sort(xs); xs = slices.Compact(xs)' goes from the one contract to the other. It asks 'zs.length ≤ cap' (every slice's: the reslicing 's[:k]' looks at it). Length 0, nil: '.._empty'. (LAID: no walk: one application.) -/
theorem Tryd.slices_Compact_int (blk off cap : Nat) (zs : List Int) (w : World) (hH : Holds (Value.int .i64) w blk off zs.toArray) (hsz : zs.length ≤ 9223372036854775807) (hcap : zs.length ≤ cap) :
    Calls Tryd.prog 56 #[.slice (some ⟨blk, off, none⟩) zs.length cap] w fun e w' => e = .returned (.slice (some ⟨blk, off, none⟩) (Lib.compact zs).length cap) ∧ ∃ q, w' = putRow (Value.int .i64) (Sort.ahead w q) blk off (Lib.compact zs ++ List.replicate (zs.length - (Lib.compact zs).length) 0).toArray := Any.slices_Compact_int Tryd.laysNm220 blk off cap zs w hH hsz hcap
open Go.RowKit Go.Lib Go.Sort in
/-- The same at a slice of length 0, a nil one too: it comes back as it is. (LAID: no walk: one application.) -/
theorem Tryd.slices_Compact_int_empty (a : Option Addr) (cap : Nat) (w : World) :
    Calls Tryd.prog 56 #[.slice a 0 cap] w fun e w' => e = .returned (.slice a 0 cap) ∧ w' = w := Any.slices_Compact_int_empty Tryd.laysNm220 a cap w
def Tryd.laysNm237_ren : Go.Shelf.Ren := ⟨fun | 37 => 57 | n => n, fun | 3 => 3 | 4 => 4 | n => n, fun | n => n⟩
theorem Tryd.laysNm237 : Go.Proofs.Lays2.n37 Tryd.prog Tryd.laysNm237_ren := {
  mixed := by kernel_rfl
  f37 := Tryd.func57.trans (congrArg some (by kernel_rfl))
  t3 := Tryd.underlying3
  a3 := Tryd.isAgg3
  z3 := Tryd.sizeOf3
  v3 := Tryd.zeroValue3
  t4 := Tryd.underlying4
  a4 := Tryd.isAgg4
  z4 := Tryd.sizeOf4
  v4 := Tryd.zeroValue4 }
open Go.RowKit Go.Lib in
/-- cmp.isNaN[int]: 'x != x': false. (LAID: no walk: one application.) -/
theorem Tryd.cmp_isNaN_int2 (x : Int) (w : World) :
    Calls Tryd.prog 57 #[.int .i64 x] w fun e w' => e = .returned (.bool false) ∧ w' = w := Any.cmp_isNaN_int2 Tryd.laysNm237 x w
def Tryd.laysNm231_ren : Go.Shelf.Ren := ⟨fun | 31 => 71 | 37 => 57 | n => n, fun | 3 => 3 | 4 => 4 | n => n, fun | n => n⟩
theorem Tryd.laysNm231 : Go.Proofs.Lays2.n31 Tryd.prog Tryd.laysNm231_ren := {
  mixed := by kernel_rfl
  f31 := Tryd.func71.trans (congrArg some (by kernel_rfl))
  f37 := Tryd.func57.trans (congrArg some (by kernel_rfl))
  t3 := Tryd.underlying3
  a3 := Tryd.isAgg3
  z3 := Tryd.sizeOf3
  v3 := Tryd.zeroValue3
  t4 := Tryd.underlying4
  a4 := Tryd.isAgg4
  z4 := Tryd.sizeOf4
  v4 := Tryd.zeroValue4 }
open Go.RowKit Go.Lib in
/-- cmp.Less[int]: "Less reports whether x is less than y.": 'x < y'; the world is as it was. (LAID: no walk: one application.) -/
theorem Tryd.cmp_Less_int2 (x y : Int) (w : World) :
    Calls Tryd.prog 71 #[.int .i64 x, .int .i64 y] w fun e w' => e = .returned (.bool (decide (x < y))) ∧ w' = w := Any.cmp_Less_int2 Tryd.laysNm231 x y w
open Go.RowKit Go.Lib Go.Sort in
/-- slices.Compact at []int, of an argument: the slice cut to 'Lib.compact (elements)'; the n cells hold that, then zeros. (LAID: no walk: one application.) -/
theorem Tryd.slices_Compact_int_cells (b off n c : Nat) (zs : List Int) (w : World) (hz : n ≤ zs.length) (hbig : n ≤ 9223372036854775807) (hcap : n ≤ c) (hc : ∀ j, j < zs.length → w.cell? ⟨b, off + j, none⟩ = some (.int .i64 (zs.getD j 0))) (hf : ∀ j, j < n → w.frozen? ⟨b, off + j, none⟩ = false) :
    Calls Tryd.prog 56 #[.slice (some ⟨b, off, none⟩) n c] w fun e w' => e = .returned (.slice (some ⟨b, off, none⟩) (Lib.compact (zs.take n)).length c) ∧ ∃ q, w' = (w.drewN q).setCells b off ((Lib.compact (zs.take n) ++ List.replicate (n - (Lib.compact (zs.take n)).length) 0).map (Value.int .i64)) := Any.slices_Compact_int_cells Tryd.laysNm220 b off n c zs w hz hbig hcap hc hf
open Go.RowKit Go.Sort in
/-- .. and plain. (LAID: no walk: one application.) -/
theorem Tryd.slices_Sort_int_none (p : Option Addr) (cap : Nat) (w : World) :
    Calls Tryd.prog 55 #[.slice p 0 cap] w fun e w' => e = .returned (.tuple #[]) ∧ w' = w := Any.slices_Sort_int_none Tryd.lays189 p cap w
end Go.Proofs

/- The contract of strconv.Itoa in the words of the other contracts, and joins of texts. Condition of Itoa's: the library's table of powers of ten is as the library lays it. -/
namespace Go.Proofs.YtlljmgphgmklcaaDoor.Tab
set_option linter.unusedVariables false
open Go.RowKit
open Go.Proofs.YtlljmgphgmklcaaDoor.Rowed Go.Proofs.YtlljmgphgmklcaaDoor.Turn

abbrev Tab (w : World) : Prop := Lib.TabIs Tryd.prog w "internal/strconv.uint64pow10" .u64 Lib.pow10Tab
theorem var_below {W W' : World} {n : String} {cs : Array Value} (h : Below W.heap.size W W') (hv : W.var? Tryd.prog n = some cs) : W'.var? Tryd.prog n = some cs := by
  unfold World.var? at hv ⊢
  cases hg : Tryd.prog.globalNamed n with
  | none => simp [hg] at hv
  | some g =>
    simp only [hg, Option.bind_some] at hv ⊢
    by_cases hlt : g < W.heap.size
    · rw [h.block g hlt]; exact hv
    · rw [Array.getElem?_eq_none (by omega)] at hv; simp at hv
theorem tab_below {W W' : World} (h : Below W.heap.size W W') (ht : Hid (Tab W)) : Hid (Tab W') := var_below h ht

def str (l : List UInt8) : ByteArray := ⟨l.toArray⟩
theorem itoa_any (n : Int) (h0 : -9223372036854775808 ≤ n) (h1 : n ≤ 9223372036854775807) (w : World) (ht : Hid (Tab w)) :
    Calls Tryd.prog 39 #[.int .i64 n] w fun e w' => e = .returned (.string ⟨(Lib.itoa n).toArray⟩) ∧ Below w.heap.size w w' := by
  refine (Tryd.strconv_Itoa n h0 h1 _ ht.out).mono ?_
  rintro e w' ⟨rfl, m, os, rfl⟩
  exact ⟨rfl, Lib.below_grow _ _ (Nat.le_refl _) m os⟩
/-- '+' on two texts -/
theorem cat {P : Program} (a b : ByteArray) (l : List UInt8) (h : a.data.toList ++ b.data.toList = l) (hl : l.length ≤ 9223372036854775807) (W : World) :
    (Op.stringOp .add a b).run P W = .ok (.string ⟨l.toArray⟩) W := by
  have e1 : a.data.toList.length = a.size := by simp
  have e2 : b.data.toList.length = b.size := by simp
  rw [← h, List.length_append, e1, e2] at hl
  rw [run_string_add_sum]
  · congr 2
    apply ByteArray.ext
    rw [← h]
    apply Array.ext'
    simp
  · exact hl
theorem size_mk (l : List UInt8) : (⟨l.toArray⟩ : ByteArray).size = l.length := by show l.toArray.size = l.length; simp
theorem list_mk (l : List UInt8) : (⟨l.toArray⟩ : ByteArray).data.toList = l := rfl
theorem str_of {c : ByteArray} {l : List UInt8} (h : c.data.toList = l) : c = str l := by
  apply ByteArray.ext
  unfold str
  rw [← h]
/-- '+' on two texts: the sum under a name of its own -/
theorem join {P : Program} (a b : ByteArray) (h : a.size + b.size ≤ 9223372036854775807) :
    ∃ c : ByteArray, c.size = a.size + b.size ∧ Hid (c.data.toList = a.data.toList ++ b.data.toList) ∧ ∀ W, (Op.stringOp .add a b).run P W = .ok (.string c) W := by
  have e1 : a.data.toList.length = a.size := by simp
  have e2 : b.data.toList.length = b.size := by simp
  refine ⟨⟨(a.data.toList ++ b.data.toList).toArray⟩, by rw [size_mk, List.length_append, e1, e2], Lib.hid (list_mk _), fun W => cat a b _ rfl (by rw [List.length_append, e1, e2]; exact h) W⟩
end Go.Proofs.YtlljmgphgmklcaaDoor.Tab

/- Plain words on the arrays of 3 numbers: the cells, a list of them as cells one after the other. No condition. -/
namespace Go.Proofs.YtlljmgphgmklcaaDoor.PIntA3
set_option linter.unusedVariables false
set_option maxRecDepth 100000

structure IntA3 where
  x0 : Int
  x1 : Int
  x2 : Int
def IntA3.cells (s : IntA3) : List Value := [.int .i64 s.x0, .int .i64 s.x1, .int .i64 s.x2]
def IntA3.val (s : IntA3) : Value := .agg #[.int .i64 s.x0, .int .i64 s.x1, .int .i64 s.x2]
def IntA3.list (s : IntA3) : List Int := [s.x0, s.x1, s.x2]
/-- the array with v at j -/
def IntA3.put (s : IntA3) (j v : Int) : IntA3 := if j = 0 then ⟨v, s.x1, s.x2⟩ else if j = 1 then ⟨s.x0, v, s.x2⟩ else ⟨s.x0, s.x1, v⟩
theorem cells_put (s : IntA3) {n : Nat} (h : n < 3) (v : Int) : s.cells.set n (.int .i64 v) = (s.put (n : Int) v).cells := by
  rcases n with _ | _ | _ | n
  · rfl
  · rfl
  · rfl
  · omega
theorem cell_at {w : World} {b q : Nat} {x0 x1 x2 y : Int} {n : Nat} (h0 : w.cell? ⟨b, q, none⟩ = some (.int .i64 x0)) (h1 : w.cell? ⟨b, q + 1, none⟩ = some (.int .i64 x1)) (h2 : w.cell? ⟨b, q + 2, none⟩ = some (.int .i64 x2)) (g : [x0, x1, x2][n]? = some y) : w.cell? ⟨b, q + n, none⟩ = some (.int .i64 y) := by
  rcases n with _ | _ | _ | n
  · obtain rfl := Option.some.inj g; exact h0
  · obtain rfl := Option.some.inj g; exact h1
  · obtain rfl := Option.some.inj g; exact h2
  · simp at g
/-- the cells of a list of arrays, one after the other -/
def flat (l : List IntA3) : List Value := l.flatMap IntA3.cells
theorem flat_nil : flat [] = [] := rfl
theorem flat_cons (s : IntA3) (l : List IntA3) : flat (s :: l) = s.cells ++ flat l := by simp [flat]
theorem flat_snoc (l : List IntA3) (s : IntA3) : flat (l ++ [s]) = flat l ++ s.cells := by simp [flat]
theorem flat_len (l : List IntA3) : (flat l).length = l.length * 3 := by
  induction l with
  | nil => rfl
  | cons s l ih => rw [flat_cons, List.length_append, ih]; simp [IntA3.cells]; omega
theorem flat_at : ∀ (l : List IntA3) (k : Nat) (s : IntA3), l[k]? = some s → ∀ j, j < 3 → (flat l)[k * 3 + j]? = s.cells[j]?
  | [], k, s, h, _, _ => by simp at h
  | r :: l, 0, s, h, j, hj => by
    obtain rfl : r = s := by simpa using h
    rw [flat_cons, List.getElem?_append_left (by simp [IntA3.cells]; omega)]; simp
  | r :: l, k + 1, s, h, j, hj => by
    rw [flat_cons, List.getElem?_append_right (by simp [IntA3.cells]; omega), show (k + 1) * 3 + j - r.cells.length = k * 3 + j by simp [IntA3.cells]; omega]
    exact flat_at l k s (by simpa using h) j hj
end Go.Proofs.YtlljmgphgmklcaaDoor.PIntA3

/- A record IntA3 opened into its fields. No condition. -/
namespace Go.Proofs.YtlljmgphgmklcaaDoor.GoP
set_option linter.unusedVariables false
open Go.RowKit
def unIntA3 {ρ : Type} (s : Go.Proofs.YtlljmgphgmklcaaDoor.PIntA3.IntA3) (f : Int → Int → Int → Option ρ) : Option ρ := f s.x0 s.x1 s.x2
theorem unIntA3_hid {ρ : Type} {x0 : Int} {x1 : Int} {x2 : Int} {f : Int → Int → Int → Option ρ} {r : ρ} (H : Hid (unIntA3 ⟨x0, x1, x2⟩ f = some r)) : Hid (f x0 x1 x2 = some r) := H
end Go.Proofs.YtlljmgphgmklcaaDoor.GoP

/- Plain words on the record Rate: its fields, its cells, a list of it as cells one after the other. No condition. -/
namespace Go.Proofs.YtlljmgphgmklcaaDoor.PRate
set_option linter.unusedVariables false
set_option maxRecDepth 100000

structure Rate where
  zone : Int
  grams : Int
  from_ : Int
  until_ : Int
  cents : Int
def Rate.cells (s : Rate) : List Value := [.int .i64 s.zone, .int .i64 s.grams, .int .i64 s.from_, .int .i64 s.until_, .int .i64 s.cents]
def Rate.val (s : Rate) : Value := .agg #[.int .i64 s.zone, .int .i64 s.grams, .int .i64 s.from_, .int .i64 s.until_, .int .i64 s.cents]
/-- each field fits -/
def Rate.fits (s : Rate) : Prop := (Lit.int .i64 s.zone).wf = true ∧ (Lit.int .i64 s.grams).wf = true ∧ (Lit.int .i64 s.from_).wf = true ∧ (Lit.int .i64 s.until_).wf = true ∧ (Lit.int .i64 s.cents).wf = true
def zero : Rate := ⟨0, 0, 0, 0, 0⟩
/-- the letters of its texts -/
def Rate.wt (s : Rate) : Nat := 0
def wts (l : List Rate) : Nat := (l.map Rate.wt).sum
theorem wts_snoc (l : List Rate) (s : Rate) : wts (l ++ [s]) = wts l + s.wt := by unfold wts; simp [List.sum_append]
theorem wts_succ {l : List Rate} {k : Nat} {s : Rate} (h : l[k]? = some s) : wts (l.take (k + 1)) = wts (l.take k) + s.wt := by
  have hk := List.getElem?_eq_some_iff.1 h
  rw [List.take_succ_eq_append_getElem hk.1, hk.2, wts_snoc]
theorem wts_take (l : List Rate) (k : Nat) : wts (l.take k) ≤ wts l := by
  have : wts l = wts (l.take k) + wts (l.drop k) := by
    unfold wts; rw [← List.sum_append, ← List.map_append, List.take_append_drop]
  omega
theorem wts_all (l : List Rate) : wts (l.take l.length) = wts l := by rw [List.take_of_length_le (Nat.le_refl _)]

/-- the cells of a list of records, one after the other -/
def flat (l : List Rate) : List Value := l.flatMap Rate.cells
theorem flat_nil : flat [] = [] := rfl
theorem flat_cons (s : Rate) (l : List Rate) : flat (s :: l) = s.cells ++ flat l := by simp [flat]
theorem flat_snoc (l : List Rate) (s : Rate) : flat (l ++ [s]) = flat l ++ s.cells := by simp [flat]
theorem flat_len (l : List Rate) : (flat l).length = l.length * 5 := by
  induction l with
  | nil => rfl
  | cons s l ih => rw [flat_cons, List.length_append, ih]; simp [Rate.cells]; omega
theorem flat_at : ∀ (l : List Rate) (k : Nat) (s : Rate), l[k]? = some s → ∀ j, j < 5 → (flat l)[k * 5 + j]? = s.cells[j]?
  | [], k, s, h, _, _ => by simp at h
  | r :: l, 0, s, h, j, hj => by
    obtain rfl : r = s := by simpa using h
    rw [flat_cons, List.getElem?_append_left (by simp [Rate.cells]; omega)]; simp
  | r :: l, k + 1, s, h, j, hj => by
    rw [flat_cons, List.getElem?_append_right (by simp [Rate.cells]; omega), show (k + 1) * 5 + j - r.cells.length = k * 5 + j by simp [Rate.cells]; omega]
    exact flat_at l k s (by simpa using h) j hj
end Go.Proofs.YtlljmgphgmklcaaDoor.PRate

/- A record Rate opened into its fields. No condition. -/
namespace Go.Proofs.YtlljmgphgmklcaaDoor.GoP
set_option linter.unusedVariables false
open Go.RowKit
def unRate {ρ : Type} (s : Go.Proofs.YtlljmgphgmklcaaDoor.PRate.Rate) (f : Int → Int → Int → Int → Int → Option ρ) : Option ρ := f s.zone s.grams s.from_ s.until_ s.cents
theorem unRate_hid {ρ : Type} {x0 : Int} {x1 : Int} {x2 : Int} {x3 : Int} {x4 : Int} {f : Int → Int → Int → Int → Int → Option ρ} {r : ρ} (H : Hid (unRate ⟨x0, x1, x2, x3, x4⟩ f = some r)) : Hid (f x0 x1 x2 x3 x4 = some r) := H
end Go.Proofs.YtlljmgphgmklcaaDoor.GoP

