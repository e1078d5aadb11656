/- The texts on which the proof of FnExactIsCover stands, one behind the other (1 of 2). No condition of their own. -/
import Derived.Lib.Hide
import Derived.Below
import Derived.Laws.OwnMore
import Derived.Laws.World
import Derived.Deep.Draws
import Derived.Lib.QuietBelow
import Derived.Lib.Strings
import Derived.OwnWalk
import Derived.Laws.Strings3
import Derived.Laws.AppendOwnNone
import Derived.Laws.DeepStrings4
import Derived.Laws.Slices
import Derived.Deep.Slices
import Derived.Laws.MakeOwn
import Derived.Maps.AppendAt
import Derived.Lib.LaidU8
import Derived.WalkKit
import Derived.WalkSpells
import Derived.Test.YtlljmgphgmklcaaChecked
import Derived.WalkLawsBesides
import Derived.BigQuiet
import Derived.Deep.LoopGhost
import Derived.Deep.QuietTactic
import Derived.IntWalk
import Derived.Outline
/- Words in which a Go function is written as a plain function that either has an answer or has none (a panic, or a loop that does not end in time); and how such a sentence is taken apart. No condition. -/
namespace Go.Proofs.Ytlljmgphgmklcaa.GoP
set_option linter.unusedVariables false
open Go.RowKit

def idx {α : Type} (l : List α) (i : Int) : Option α := if 0 ≤ i then l[i.toNat]? else none
def letK {α ρ : Type} (x : α) (f : α → Option ρ) : Option ρ := f x
def iteK {ρ : Type} (c : Bool) (a b : Option ρ) : Option ρ := match c with | true => a | false => b
def joinK {γ : Type} {ρ : Type} (rest : γ) (f : γ → Option ρ) : Option ρ := f rest
def appK {α ρ : Type} (j : α → Option ρ) (x : α) : Option ρ := j x
def guardK {ρ : Type} (p : Prop) [Decidable p] (a : Option ρ) : Option ρ := if p then a else none
def bind2 {α β ρ : Type} (x : Option (α × β)) (f : α → β → Option ρ) : Option ρ := match x with | none => none | some (a, b) => f a b
def bind3 {α β γ ρ : Type} (x : Option (α × β × γ)) (f : α → β → γ → Option ρ) : Option ρ := match x with | none => none | some (a, b, c) => f a b c
def bind4 {α β γ δ ρ : Type} (x : Option (α × β × γ × δ)) (f : α → β → γ → δ → Option ρ) : Option ρ := match x with | none => none | some (a, b, c, d) => f a b c d
def unp2 {α β ρ : Type} (s : α × β) (f : α → β → Option ρ) : Option ρ := f s.1 s.2
def unp3 {α β γ ρ : Type} (s : α × β × γ) (f : α → β → γ → Option ρ) : Option ρ := f s.1 s.2.1 s.2.2
def unp4 {α β γ δ ρ : Type} (s : α × β × γ × δ) (f : α → β → γ → δ → Option ρ) : Option ρ := f s.1 s.2.1 s.2.2.1 s.2.2.2
/-- m rounds, counted from k on -/
def cntK {σ ρ : Type} (f : Nat → σ → (σ → Option ρ) → (σ → Option ρ) → Option ρ) : Nat → Nat → σ → (σ → Option ρ) → Option ρ
  | 0, _, s, fin => fin s
  | m + 1, k, s, fin => f k s (fun s' => cntK f m (k + 1) s' fin) fin
/-- rounds until one ends the loop, n at most -/
def loopK {σ ρ : Type} (f : σ → (σ → Option ρ) → (σ → Option ρ) → Option ρ) : Nat → σ → (σ → Option ρ) → Option ρ
  | 0, _, _ => none
  | n + 1, s, fin => f s (fun s' => loopK f n s' fin) fin

theorem let_hid {α ρ : Type} {x : α} {f : α → Option ρ} {r : ρ} (H : Hid (letK x f = some r)) : ∃ y, x = y ∧ Hid (f y = some r) := ⟨x, rfl, H⟩
theorem bind_hid {α ρ : Type} {x : Option α} {f : α → Option ρ} {r : ρ} (H : Hid (x.bind f = some r)) : ∃ y, Hid (x = some y) ∧ Hid (f y = some r) := by
  have h : x.bind f = some r := H
  cases x with
  | none => simp at h
  | some y => exact ⟨y, rfl, h⟩
theorem bind2_hid {α β ρ : Type} {x : Option (α × β)} {f : α → β → Option ρ} {r : ρ} (H : Hid (bind2 x f = some r)) : ∃ a b, Hid (x = some (a, b)) ∧ Hid (f a b = some r) := by
  have h : bind2 x f = some r := H
  cases x with
  | none => simp [bind2] at h
  | some y => exact ⟨y.1, y.2, rfl, h⟩
theorem bind3_hid {α β γ ρ : Type} {x : Option (α × β × γ)} {f : α → β → γ → Option ρ} {r : ρ} (H : Hid (bind3 x f = some r)) : ∃ a b c, Hid (x = some (a, b, c)) ∧ Hid (f a b c = some r) := by
  have h : bind3 x f = some r := H
  cases x with
  | none => simp [bind3] at h
  | some y => exact ⟨y.1, y.2.1, y.2.2, rfl, h⟩
theorem bind4_hid {α β γ δ ρ : Type} {x : Option (α × β × γ × δ)} {f : α → β → γ → δ → Option ρ} {r : ρ} (H : Hid (bind4 x f = some r)) : ∃ a b c d, Hid (x = some (a, b, c, d)) ∧ Hid (f a b c d = some r) := by
  have h : bind4 x f = some r := H
  cases x with
  | none => simp [bind4] at h
  | some y => exact ⟨y.1, y.2.1, y.2.2.1, y.2.2.2, rfl, h⟩
theorem ite_t {ρ : Type} {a b : Option ρ} {r : ρ} (H : Hid (iteK true a b = some r)) : Hid (a = some r) := H
theorem ite_f {ρ : Type} {a b : Option ρ} {r : ρ} (H : Hid (iteK false a b = some r)) : Hid (b = some r) := H
theorem join_hid {γ ρ : Type} {j : γ} {f : γ → Option ρ} {r : ρ} (H : Hid (joinK j f = some r)) : Hid (f j = some r) := H
theorem app_hid {α ρ : Type} {j : α → Option ρ} {x : α} {r : ρ} (H : Hid (appK j x = some r)) : Hid (j x = some r) := H
theorem guard_hid {ρ : Type} {p : Prop} [Decidable p] {a : Option ρ} {r : ρ} (H : Hid (guardK p a = some r)) : p ∧ Hid (a = some r) := by
  have h : guardK p a = some r := H
  unfold guardK at h
  by_cases hp : p
  · rw [if_pos hp] at h; exact ⟨hp, h⟩
  · rw [if_neg hp] at h; simp at h
theorem unp2_hid {α β ρ : Type} {a : α} {b : β} {f : α → β → Option ρ} {r : ρ} (H : Hid (unp2 (a, b) f = some r)) : Hid (f a b = some r) := H
theorem unp3_hid {α β γ ρ : Type} {a : α} {b : β} {c : γ} {f : α → β → γ → Option ρ} {r : ρ} (H : Hid (unp3 (a, b, c) f = some r)) : Hid (f a b c = some r) := H
theorem unp4_hid {α β γ δ ρ : Type} {a : α} {b : β} {c : γ} {d : δ} {f : α → β → γ → δ → Option ρ} {r : ρ} (H : Hid (unp4 (a, b, c, d) f = some r)) : Hid (f a b c d = some r) := H
theorem cnt_zero {σ ρ : Type} {f : Nat → σ → (σ → Option ρ) → (σ → Option ρ) → Option ρ} {k : Nat} {s : σ} {fin : σ → Option ρ} {r : ρ} (H : Hid (cntK f 0 k s fin = some r)) : Hid (fin s = some r) := H
theorem cnt_succ {σ ρ : Type} {f : Nat → σ → (σ → Option ρ) → (σ → Option ρ) → Option ρ} {m k : Nat} {s : σ} {fin : σ → Option ρ} {r : ρ} (H : Hid (cntK f (m + 1) k s fin = some r)) :
    Hid (f k s (fun s' => cntK f m (k + 1) s' fin) fin = some r) := H
theorem loop_zero {σ ρ : Type} {f : σ → (σ → Option ρ) → (σ → Option ρ) → Option ρ} {s : σ} {fin : σ → Option ρ} {r : ρ} (H : Hid (loopK f 0 s fin = some r)) : False := by
  have h : loopK f 0 s fin = some r := H
  simp [loopK] at h
theorem loop_succ {σ ρ : Type} {f : σ → (σ → Option ρ) → (σ → Option ρ) → Option ρ} {n : Nat} {s : σ} {fin : σ → Option ρ} {r : ρ} (H : Hid (loopK f (n + 1) s fin = some r)) :
    Hid (f s (fun s' => loopK f n s' fin) fin = some r) := H
theorem ret_hid {ρ : Type} {v r : ρ} (H : Hid (some v = some r)) : v = r := Option.some.inj H
theorem none_hid {ρ : Type} {r : ρ} (H : Hid ((none : Option ρ) = some r)) : False := by
  have h : (none : Option ρ) = some r := H
  simp at h
theorem idx_hid {α ρ : Type} {l : List α} {i : Int} {f : α → Option ρ} {r : ρ} (H : Hid ((idx l i).bind f = some r)) :
    ∃ (k : Nat) (x : α), i = (k : Int) ∧ k < l.length ∧ Hid (l[k]? = some x) ∧ Hid (f x = some r) := by
  have h : (idx l i).bind f = some r := H
  unfold idx at h
  by_cases hi : 0 ≤ i
  · rw [if_pos hi] at h
    cases hx : l[i.toNat]? with
    | none => rw [hx] at h; simp at h
    | some x =>
      rw [hx] at h
      exact ⟨i.toNat, x, (Int.toNat_of_nonneg hi).symm, (List.getElem?_eq_some_iff.1 hx).1, hx, h⟩
  · rw [if_neg hi] at h; simp at h
theorem idx_nat {α : Type} (l : List α) (k : Nat) : idx l (k : Int) = l[k]? := by unfold idx; rw [if_pos (by omega)]; simp
end Go.Proofs.Ytlljmgphgmklcaa.GoP

/- Words for a slice that reads as a list of values, nil and empty let in; for slices of strings; and what becomes of them in later worlds. No condition. -/
namespace Go.Proofs.Ytlljmgphgmklcaa.Rowed
set_option linter.unusedVariables false
open Go.RowKit

theorem add_block (a : Addr) (n : Nat) : (a.add n).block = a.block := by unfold Addr.add; split <;> rfl
theorem cell_lt {w : World} {a : Addr} {v : Value} (h : w.cell? a = some v) : a.block < w.heap.size := World.block_lt_of_cell? w a h
theorem cell_below {w w' : World} (hb : Below w.heap.size w w') {a : Addr} {v : Value} (hc : w.cell? a = some v) : w'.cell? a = some v := (hb.cell (cell_lt hc)).trans hc
theorem below_drewN (w : World) (m : Nat) : Below w.heap.size w (w.drewN m) := ⟨rfl, rfl, rfl, Nat.le_refl _, fun _ _ => rfl⟩
theorem Below.step {a b c : World} (h : Below a.heap.size a b) (k : Below b.heap.size b c) : Below a.heap.size a c := h.trans (k.mono h.size)

/-- the world has drawn, and nothing else has turned -/
def DrawnTo (w w' : World) : Prop := ∃ m, w' = w.drewN m
theorem DrawnTo.refl (w : World) : DrawnTo w w := ⟨0, rfl⟩
theorem DrawnTo.more {w w' : World} (h : DrawnTo w w') (n : Nat) : DrawnTo w (w'.drewN n) := let ⟨m, e⟩ := h; ⟨m + n, by rw [e, World.drewN_drewN]⟩
theorem DrawnTo.trans {a b c : World} (h : DrawnTo a b) (k : DrawnTo b c) : DrawnTo a c := by
  obtain ⟨m, rfl⟩ := h
  obtain ⟨n, rfl⟩ := k
  exact ⟨m + n, World.drewN_drewN ..⟩
theorem DrawnTo.cell {w w' : World} (h : DrawnTo w w') {a : Addr} {v : Value} (hc : w.cell? a = some v) : w'.cell? a = some v := by
  obtain ⟨m, rfl⟩ := h; exact hc
theorem DrawnTo.below {w w' : World} (h : DrawnTo w w') : Below w.heap.size w w' := by
  obtain ⟨m, rfl⟩ := h; exact below_drewN w m

/-- the slice 'A, n' reads as the cells xs (size cells each element) -/
def Cells (w : World) (size : Nat) (A : Option Addr) (n : Nat) (xs : List Value) : Prop :=
  xs.length = n * size ∧ (0 < xs.length → ∃ ad : Addr, A = some ad ∧ ∀ j u, xs[j]? = some u → w.cell? (ad.add j) = some u)

theorem Cells.below {w w' : World} {size n : Nat} {A : Option Addr} {xs : List Value} (h : Cells w size A n xs) (hb : Below w.heap.size w w') : Cells w' size A n xs :=
  ⟨h.1, fun hn => let ⟨ad, e, hc⟩ := h.2 hn; ⟨ad, e, fun j u hu => cell_below hb (hc j u hu)⟩⟩
theorem Cells.drewN {w : World} {size n : Nat} {A : Option Addr} {xs : List Value} (h : Cells w size A n xs) (m : Nat) : Cells (w.drewN m) size A n xs := h
theorem Cells.nil_ (w : World) (size : Nat) (A : Option Addr) : Cells w size A 0 [] := ⟨by simp, fun h => by simp at h⟩
theorem Cells.at_ {w : World} {n k : Nat} {A : Option Addr} {xs : List Value} (h : Cells w 1 A n xs) (hk : k < n) : ∃ ad u, A = some ad ∧ xs[k]? = some u ∧ w.cell? (ad.add k) = some u := by
  have hl : k < xs.length := by have := h.1; omega
  obtain ⟨ad, e, hc⟩ := h.2 (by omega)
  exact ⟨ad, xs[k], e, List.getElem?_eq_getElem hl, hc k _ (List.getElem?_eq_getElem hl)⟩
theorem Cells.of_own {w : World} {base size n c g : Nat} {e : TypeId} {xs : List Value} (h : w.ownsRow base e size (.slice (some ⟨g, 0, none⟩) n c) n xs) : Cells w size (some ⟨g, 0, none⟩) n xs :=
  ⟨h.1, fun _ => ⟨_, rfl, fun j u hu => h.cells (g := g) rfl j u hu⟩⟩

/-- a row that is filled from the left -/
def fill (a ys : List Value) (k : Nat) : List Value := a.take k ++ ys.drop k
theorem fill_zero (a ys : List Value) : fill a ys 0 = ys := by simp [fill]
theorem fill_all (a ys : List Value) (h : ys.length = a.length) : fill a ys a.length = a := by
  unfold fill; rw [List.take_of_length_le (Nat.le_refl _), ← h, List.drop_of_length_le (Nat.le_refl _), List.append_nil]
theorem fill_set (a ys : List Value) (k : Nat) (u : Value) (hk : k < ys.length) (hu : a[k]? = some u) : (fill a ys k).set k u = fill a ys (k + 1) := by
  have ha := (List.getElem?_eq_some_iff.1 hu).1
  have hau := (List.getElem?_eq_some_iff.1 hu).2
  unfold fill
  have hl : (a.take k).length = k := by rw [List.length_take]; omega
  rw [List.set_append_right _ _ (by omega), hl, Nat.sub_self, List.take_succ_eq_append_getElem ha, hau, List.drop_eq_getElem_cons hk, List.set_cons_zero, List.append_assoc]
  rfl
theorem fill_len (a ys : List Value) (k : Nat) (h : ys.length = a.length) : (fill a ys k).length = ys.length := by
  unfold fill; rw [List.length_append, List.length_take, List.length_drop]; omega

/-- the slice 'A, n' reads as the strings l -/
def Strs (w : World) (A : Option Addr) (n : Nat) (l : List ByteArray) : Prop := Cells w 1 A n (l.map Value.string)
theorem Strs.len {w : World} {A : Option Addr} {n : Nat} {l : List ByteArray} (h : Strs w A n l) : l.length = n := by have := h.1; simpa using this
theorem Strs.below {w w' : World} {A : Option Addr} {n : Nat} {l : List ByteArray} (h : Strs w A n l) (hb : Below w.heap.size w w') : Strs w' A n l := Cells.below h hb
theorem Strs.at_ {w : World} {A : Option Addr} {n k : Nat} {l : List ByteArray} (h : Strs w A n l) (hk : k < n) : ∃ ad x, A = some ad ∧ l[k]? = some x ∧ w.cell? (ad.add k) = some (.string x) := by
  obtain ⟨ad, u, e, hx, hc⟩ := Cells.at_ h hk
  rw [List.getElem?_map] at hx
  cases hl : l[k]? with
  | none => rw [hl] at hx; simp at hx
  | some x => rw [hl] at hx; obtain rfl : Value.string x = u := by simpa using hx
              exact ⟨ad, x, e, rfl, hc⟩

end Go.Proofs.Ytlljmgphgmklcaa.Rowed

/- Words on what may turn between two worlds: only the blocks of one span; and on rows that lie in a span of blocks, read or owned. No condition. -/
namespace Go.Proofs.Ytlljmgphgmklcaa.Turn
set_option linter.unusedVariables false
open Go.RowKit
open Go.Proofs.Ytlljmgphgmklcaa.Rowed

/-- of what was there, only blocks from lo on and below hi may have turned -/
structure Turned (lo hi : Nat) (w w' : World) : Prop where
  os : w'.os = w.os
  tape : w'.tape = w.tape
  output : w'.output = w.output
  size : w.heap.size ≤ w'.heap.size
  block : ∀ k, k < w.heap.size → ¬ (lo ≤ k ∧ k < hi) → w'.heap[k]? = w.heap[k]?
theorem Turned.of_grown {w w' : World} {lo hi : Nat} {r : Option Nat} (h : w.grownBy w' r) (hr : ∀ k, r = some k → lo ≤ k ∧ k < hi) : Turned lo hi w w' :=
  ⟨h.os, h.tape, h.output, h.size, fun k hk hn => h.block k hk (fun e => hn (hr k e.symm))⟩
theorem below_turned {w wr w' : World} {lo hi : Nat} (h : Below w.heap.size w wr) (t : Turned lo hi wr w') (hl : w.heap.size ≤ lo) : Below w.heap.size w w' :=
  ⟨t.os.trans h.os, t.tape.trans h.tape, t.output.trans h.output, Nat.le_trans h.size t.size, fun k hk => (t.block k (Nat.lt_of_lt_of_le hk h.size) (by omega)).trans (h.block k hk)⟩

/-- the slice 'A, n' reads as the cells xs, and they lie in blocks from lo on and below hi -/
structure Rd (w : World) (size lo hi : Nat) (A : Option Addr) (n : Nat) (xs : List Value) : Prop where
  cells : Cells w size A n xs
  span : ∀ ad, A = some ad → 0 < xs.length → lo ≤ ad.block ∧ ad.block < hi
  top : hi ≤ w.heap.size
theorem Rd.below {w w' : World} {size lo hi n : Nat} {A : Option Addr} {xs : List Value} (h : Rd w size lo hi A n xs) (hb : Below w.heap.size w w') : Rd w' size lo hi A n xs :=
  ⟨h.cells.below hb, h.span, Nat.le_trans h.top hb.size⟩
theorem Rd.turned {w w' : World} {size lo hi a b n : Nat} {A : Option Addr} {xs : List Value} (h : Rd w size lo hi A n xs) (t : Turned a b w w') (hd : hi ≤ a ∨ b ≤ lo) : Rd w' size lo hi A n xs :=
  ⟨⟨h.cells.1, fun hn => by
    obtain ⟨ad, e, hc⟩ := h.cells.2 hn
    have hs := h.span ad e hn
    have ht := h.top
    exact ⟨ad, e, fun j u hu => (World.cell?_of_block (by rw [add_block]; exact t.block _ (by omega) (by omega))).trans (hc j u hu)⟩⟩, h.span, Nat.le_trans h.top t.size⟩
/-- cells that came in -/
theorem Rd.came {w : World} {size n : Nat} {A : Option Addr} {xs : List Value} (h : Cells w size A n xs) : Rd w size 0 w.heap.size A n xs :=
  ⟨h, fun ad e hn => by
    obtain ⟨ad', e', hc⟩ := h.2 hn
    obtain rfl : ad = ad' := by rw [e] at e'; exact Option.some.inj e'
    have h0 := cell_lt (hc 0 _ (List.getElem?_eq_getElem hn))
    rw [add_block] at h0
    exact ⟨Nat.zero_le _, h0⟩, Nat.le_refl _⟩

/-- the slice 'A, n, c' is a row of the call's own with the cells xs, in a block from lo on and below hi -/
structure Ow (w : World) (T : TypeId) (size lo hi : Nat) (A : Option Addr) (n c : Nat) (xs : List Value) : Prop where
  own : w.ownsRow lo T size (.slice A n c) n xs
  span : ∀ q, (Value.slice A n c).ownBlock = some q → q < hi
  top : hi ≤ w.heap.size
theorem Ow.of {w : World} {T : TypeId} {size lo n c : Nat} {A : Option Addr} {xs : List Value} (h : w.ownsRow lo T size (.slice A n c) n xs) : Ow w T size lo w.heap.size A n c xs :=
  ⟨h, fun q hq => (h.lt q hq).2, Nat.le_refl _⟩
theorem Ow.kept {w w' : World} {T : TypeId} {size lo hi a b n c : Nat} {A : Option Addr} {xs : List Value} (h : Ow w T size lo hi A n c xs) (t : Turned a b w w') (hd : hi ≤ a ∨ b ≤ lo) : w'.ownsRow lo T size (.slice A n c) n xs := by
  refine ⟨h.own.1, ?_⟩
  rcases h.own.2 with h0 | ⟨g, cap, cur, hv, hb, hh, rest⟩
  · exact .inl h0
  · have hg : g < hi := h.span g (by rw [hv]; rfl)
    have ht := h.top
    exact .inr ⟨g, cap, cur, hv, hb, (t.block g (by omega) (by omega)).trans hh, rest⟩
theorem Ow.turned {w w' : World} {T : TypeId} {size lo hi a b n c : Nat} {A : Option Addr} {xs : List Value} (h : Ow w T size lo hi A n c xs) (t : Turned a b w w') (hd : hi ≤ a ∨ b ≤ lo) : Ow w' T size lo hi A n c xs :=
  ⟨h.kept t hd, h.span, Nat.le_trans h.top t.size⟩
theorem Turned.of_below {w w' : World} (h : Below w.heap.size w w') : Turned 0 0 w w' := ⟨h.os, h.tape, h.output, h.size, fun k hk _ => h.block k hk⟩
theorem Ow.below {w w' : World} {T : TypeId} {size lo hi n c : Nat} {A : Option Addr} {xs : List Value} (h : Ow w T size lo hi A n c xs) (hb : Below w.heap.size w w') : Ow w' T size lo hi A n c xs :=
  h.turned (Turned.of_below hb) (.inr (Nat.zero_le _))
theorem own_cells {w : World} {base n c size : Nat} {A : Option Addr} {e : TypeId} {xs : List Value} (h : w.ownsRow base e size (.slice A n c) n xs) : Cells w size A n xs := by
  rcases h.2 with ⟨hv, h0⟩ | ⟨g, cap, cur, hv, _⟩
  · subst h0
    have := h.1
    exact ⟨this, fun hn => by rw [Nat.zero_mul] at this; omega⟩
  · injection hv with e1 e2 e3
    subst e1
    exact Cells.of_own h
theorem Ow.cells {w : World} {T : TypeId} {size lo hi n c : Nat} {A : Option Addr} {xs : List Value} (h : Ow w T size lo hi A n c xs) : Cells w size A n xs := own_cells h.own
/-- what is read only -/
theorem Ow.rd {w : World} {T : TypeId} {size lo hi n c : Nat} {A : Option Addr} {xs : List Value} (h : Ow w T size lo hi A n c xs) : Rd w size lo hi A n xs :=
  ⟨h.cells, fun ad e hn => by
    rcases h.own.2 with ⟨hv, h0⟩ | ⟨g, cap, cur, hv, hb, _⟩
    · have := h.own.1
      rw [h0, Nat.zero_mul] at this
      omega
    · have hg : g < hi := h.span g (by rw [hv]; rfl)
      injection hv with e1 e2 e3
      subst e1
      obtain rfl := Option.some.inj e
      exact ⟨hb, hg⟩, h.top⟩
/-- a mark, or another writing of one row -/
theorem Ow.writes {w w' : World} {T : TypeId} {size lo hi n c : Nat} {A : Option Addr} {xs : List Value} (h : Ow w T size lo hi A n c xs) (hg : w.grownBy w' (Value.slice A n c).ownBlock) : Turned lo hi w w' :=
  Turned.of_grown hg (fun k hk => ⟨(h.own.lt k hk).1, h.span k hk⟩)
theorem Ow.written {w w' : World} {T : TypeId} {size lo hi n c : Nat} {A : Option Addr} {xs ys : List Value} (h : Ow w T size lo hi A n c xs) (hs : w.heap.size ≤ w'.heap.size) (ho : w'.ownsRow lo T size (.slice A n c) n ys) : Ow w' T size lo hi A n c ys :=
  ⟨ho, h.span, Nat.le_trans h.top hs⟩

/-- the answer has no memory, and nothing has turned -/
def Gives (v : Value) (w : World) (e : Ending) (w' : World) : Prop := e = .returned v ∧ Below w.heap.size w w'
end Go.Proofs.Ytlljmgphgmklcaa.Turn

/- Small words on types' facts, on classes of worlds, and on rows that are written. No condition. -/
namespace Go.Proofs.Ytlljmgphgmklcaa.Aid
set_option linter.unusedVariables false
open Go.RowKit
open Go.Proofs.Ytlljmgphgmklcaa.Rowed Go.Proofs.Ytlljmgphgmklcaa.Turn

theorem info_parts {P : Program} {T : TypeId} {z : Value} {s b : Nat} (h : (P.info? T).map (fun i => (i.zero, i.size, i.bytes)) = some (some z, s, b)) : ∃ i, P.info? T = some i ∧ i.zero = some z ∧ i.size = s ∧ i.bytes = b := by
  cases hi : P.info? T with
  | none => rw [hi] at h; simp at h
  | some i => rw [hi] at h; simp at h; exact ⟨i, rfl, h.1, h.2.1, h.2.2⟩
theorem below_class {X Y : World} (h : ∃ p : Regrown, Y = Go.Sort.grow (redrawn X p.d) p.os) : Below X.heap.size X Y := by
  obtain ⟨⟨d, os⟩, rfl⟩ := h; exact below_regrown _ _ _
theorem grown_of {W W' : World} (h : Below W.heap.size W W') : W.grownBy W' none := ⟨h.os, h.tape, h.output, h.size, fun k hk _ => h.block k hk⟩
theorem grown_weak {W W' : World} (h : W.grownBy W' none) (g : Nat) : W.grownBy W' (some g) := ⟨h.os, h.tape, h.output, h.size, fun k hk _ => h.block k hk (by simp)⟩
theorem grown_tr {a b c : World} {r : Option Nat} (h : a.grownBy b r) (k : b.grownBy c r) : a.grownBy c r :=
  ⟨k.os.trans h.os, k.tape.trans h.tape, k.output.trans h.output, Nat.le_trans h.size k.size, fun i hi hr => (k.block i (Nat.lt_of_lt_of_le hi h.size) hr).trans (h.block i hi hr)⟩
theorem grown_refl (w : World) (r : Option Nat) : w.grownBy w r := ⟨rfl, rfl, rfl, Nat.le_refl _, fun _ _ _ => rfl⟩
theorem ret_int {k : IntKind} {a b : Int} (h : a = b) : Ending.returned (.int k a) = .returned (.int k b) := by rw [h]
theorem ret_bool {a b : Bool} (h : a = b) : Ending.returned (.bool a) = .returned (.bool b) := by rw [h]
end Go.Proofs.Ytlljmgphgmklcaa.Aid

/- Words on memory for the contracts of plain functions. No condition. -/
namespace Go.Proofs.Ytlljmgphgmklcaa.GoM
set_option linter.unusedVariables false
open Go.RowKit
open Go.Proofs.Ytlljmgphgmklcaa.Rowed Go.Proofs.Ytlljmgphgmklcaa.Turn

theorem box_new (w : World) (cs : List Value) (T : TypeId) (j : Nat) (u : Value) (h : cs[j]? = some u) : (w.alloc (.cells ⟨cs⟩ T)).cell? ⟨w.heap.size, j, none⟩ = some u := by
  have hb : (w.alloc (.cells ⟨cs⟩ T)).heap[w.heap.size]? = some (.cells ⟨cs⟩ T) := heap_alloc_new w _
  unfold World.cell?
  rw [hb]
  simpa using h
theorem size_list (s : ByteArray) : s.toList.length = s.size := by rw [Lib.toList_data]; rfl
theorem byte_rule {s : ByteArray} {n : Nat} {y : UInt8} (l : n < s.toList.length) (g : s.toList[n]? = some y) : ∀ h : n < s.size, s[n]'h = y := by
  intro h
  have e := List.getElem?_eq_getElem l
  rw [g] at e
  have := Option.some.inj e
  rw [this]
  simp [Lib.toList_data]
  rfl
theorem own_empty {w wc : World} {T K : Nat} (h : w.heap.size ≤ wc.heap.size) : (wc.alloc (.cells #[] T)).ownsRow w.heap.size T K (.slice (some ⟨wc.heap.size, 0, none⟩) 0 0) 0 [] :=
  ⟨by simp, .inr ⟨wc.heap.size, 0, #[], rfl, h, heap_alloc_new wc _, Nat.le_refl _, by unfold maxLen; omega, by simp, by simp⟩⟩
theorem own_laid {w wc : World} {T K n : Nat} {cs : List Value} {xs : List Value} (h : w.heap.size ≤ wc.heap.size) (hx : cs = xs) (hl : cs.length = n * K) (hn : n ≤ maxLen) : (wc.alloc (.cells ⟨cs⟩ T)).ownsRow w.heap.size T K (.slice (some ⟨wc.heap.size, 0, none⟩) n n) n xs := by
  subst hx
  exact ⟨hl, .inr ⟨wc.heap.size, n, ⟨cs⟩, rfl, h, heap_alloc_new wc _, Nat.le_refl _, hn, by simpa using hl, by rw [← hl]; simp⟩⟩
theorem add_flat (b o n : Nat) : (⟨b, o, none⟩ : Addr).add n = ⟨b, o + n, none⟩ := by
  unfold Addr.add; split
  · rename_i h; subst h; rfl
  · rfl
theorem strs_at {w : World} {A : Option Addr} {n k : Nat} {l : List ByteArray} (h : Cells w 1 A n (l.map Value.string)) (hk : k < n) : ∃ (b o : Nat) (x : ByteArray), A = some ⟨b, o, none⟩ ∧ l[k]? = some x ∧ w.cell? ⟨b, o + k, none⟩ = some (.string x) := by
  have hl : k < l.length := by have := h.1; rw [List.length_map] at this; omega
  obtain ⟨⟨b, o, sp⟩, e, hc⟩ := h.2 (by rw [List.length_map]; omega)
  have h0 := hc 0 (.string l[0]) (by rw [List.getElem?_map, List.getElem?_eq_getElem (show 0 < l.length by omega)]; rfl)
  obtain rfl : sp = none := cell_spot (b := b) (o := o) h0
  have hs := List.getElem?_eq_getElem hl
  have := hc k (.string l[k]) (by rw [List.getElem?_map, hs]; rfl)
  rw [add_flat] at this
  exact ⟨b, o, l[k], e, hs, this⟩
theorem bools_at {w : World} {A : Option Addr} {n k : Nat} {l : List Bool} (h : Cells w 1 A n (l.map Value.bool)) (hk : k < n) : ∃ (b o : Nat) (x : Bool), A = some ⟨b, o, none⟩ ∧ l[k]? = some x ∧ w.cell? ⟨b, o + k, none⟩ = some (.bool x) := by
  have hl : k < l.length := by have := h.1; rw [List.length_map] at this; omega
  obtain ⟨⟨b, o, sp⟩, e, hc⟩ := h.2 (by rw [List.length_map]; omega)
  have h0 := hc 0 (.bool l[0]) (by rw [List.getElem?_map, List.getElem?_eq_getElem (show 0 < l.length by omega)]; rfl)
  obtain rfl : sp = none := cell_spot (b := b) (o := o) h0
  have hs := List.getElem?_eq_getElem hl
  have := hc k (.bool l[k]) (by rw [List.getElem?_map, hs]; rfl)
  rw [add_flat] at this
  exact ⟨b, o, l[k], e, hs, this⟩
theorem own_nil {w : World} {b T K : Nat} : w.ownsRow b T K (.slice none 0 0) 0 [] := ⟨by simp, .inl ⟨rfl, rfl⟩⟩
theorem own_lower {w : World} {b base n size : Nat} {v : Value} {e : TypeId} {xs : List Value} (h : w.ownsRow base e size v n xs) (hb : b ≤ base) : w.ownsRow b e size v n xs :=
  ⟨h.1, by
    rcases h.2 with h0 | ⟨g, cap, cur, hv, hb', rest⟩
    · exact .inl h0
    · exact .inr ⟨g, cap, cur, hv, Nat.le_trans hb hb', rest⟩⟩
theorem own_below {w w' : World} {base n size : Nat} {v : Value} {e : TypeId} {xs : List Value} (h : w.ownsRow base e size v n xs) (hb : Below w.heap.size w w') : w'.ownsRow base e size v n xs :=
  h.kept (Aid.grown_of hb) (by cases v.ownBlock <;> simp)
theorem own_push {α : Type} {f : List α → List Value} {cx : List Value} {l t : List α} {x : α} {w' : World} {b T K : Nat} {v' : Value} {n : Nat} (ht : l ++ [x] = t) (hf : f (l ++ [x]) = f l ++ cx) (hn : l.length = n) (h : w'.ownsRow b T K v' (n + 1) (f l ++ cx)) :
    ∃ g cap, v' = .slice (some ⟨g, 0, none⟩) t.length cap ∧ w'.ownsRow b T K (.slice (some ⟨g, 0, none⟩) t.length cap) t.length (f t) := by
  subst ht
  subst hn
  have el : (l ++ [x]).length = l.length + 1 := by simp
  obtain ⟨g, cap, rfl⟩ : ∃ g cap, v' = .slice (some ⟨g, 0, none⟩) (l.length + 1) cap := by
    rcases h.2 with ⟨_, h⟩ | ⟨g3, cap3, _, h, _⟩
    · omega
    · exact ⟨g3, cap3, h⟩
  exact ⟨g, cap, by rw [el], by rw [el, hf]; exact h⟩
theorem news_new {w w2 : World} {cs : List Value} {T : TypeId} (h : w.alloc (.cells ⟨cs⟩ T) = w2) : ∀ j u, cs[j]? = some u → w2.cell? ((⟨w.heap.size, 0, none⟩ : Addr).add j) = some u := by
  intro j u hu
  subst h
  have : (⟨w.heap.size, 0, none⟩ : Addr).add j = ⟨w.heap.size, j, none⟩ := by
    unfold Addr.add; split
    · rename_i hj; subst hj; rfl
    · simp
  rw [this]
  exact box_new w cs T j u hu
theorem one_cells {l : List Value} (h : l.all (fun u => u.oneCell') = true) : ∀ u ∈ l, u.oneCell' = true := fun u hu => List.all_eq_true.1 h u hu
theorem cat_rule {P : Program} {a b c : ByteArray} (h : a ++ b = c) (hl : a.size + b.size ≤ maxLen) : ∀ W, (Op.stringOp .add a b).run P W = .ok (.string c) W := by
  intro W
  rw [run_string_add_sum]
  · subst h; rfl
  · unfold maxLen at hl; omega
theorem slice_both {P : Program} {t : TypeId} {s c : ByteArray} {k k' : IntKind} {i j : Int} (hu : P.underlying t = some .string) (h : s.extract i.toNat j.toNat = c) (hl : 0 ≤ i ∧ i ≤ j ∧ j ≤ (s.size : Int)) :
    ∀ W, (Instr.slice t (.string s) (some (.int k i)) (some (.int k' j)) none).run P W = .ok (.string c) W := by
  intro W
  rw [run_slice_string_if _ _ _ _ _ _ _ hu, if_pos ⟨by omega, hl.2.2⟩, if_pos ⟨hl.1, hl.2.1⟩, h]
theorem slice_from {P : Program} {t : TypeId} {s c : ByteArray} {k : IntKind} {i : Int} (hu : P.underlying t = some .string) (h : s.extract i.toNat s.size = c) (hl : 0 ≤ i ∧ i ≤ (s.size : Int)) :
    ∀ W, (Instr.slice t (.string s) (some (.int k i)) none none).run P W = .ok (.string c) W := by
  intro W
  rw [run_slice_string_from_if _ _ _ _ _ hu, if_pos hl, h]
theorem slice_to {P : Program} {t : TypeId} {s c : ByteArray} {k : IntKind} {j : Int} (hu : P.underlying t = some .string) (h : s.extract 0 j.toNat = c) (hl : 0 ≤ j ∧ j ≤ (s.size : Int)) :
    ∀ W, (Instr.slice t (.string s) none (some (.int k j)) none).run P W = .ok (.string c) W := by
  intro W
  rw [run_slice_string_to_if _ _ _ _ _ hu, if_pos hl, h]
theorem results_tmp4 {fn : Func} {t u v x : Tmp} (h : fn.results = #[.tmp t, .tmp u, .tmp v, .tmp x]) (tmps : Array Value) (P : Program) (w : World) :
    (results fn tmps).run P w = .ok (.tuple #[tmps.getD t undef, tmps.getD u undef, tmps.getD v undef, tmps.getD x undef]) w := by
  simp [results, h]
/-- the walk stands here -/
def Stop (p : Prop) : Prop := p
theorem stop_in {p : Prop} (h : Stop p) : p := h
theorem stop_out {p : Prop} (h : p) : Stop p := h
/-- two rows lie in different blocks -/
def Apart (A B : Option Addr) : Prop := ∀ a b, A = some a → B = some b → a.block ≠ b.block
theorem Apart.symm {A B : Option Addr} (h : Apart A B) : Apart B A := fun a b ha hb e => h b a hb ha e.symm
theorem own_lt {w : World} {b T K n m c : Nat} {A : Option Addr} {xs : List Value} (h : w.ownsRow b T K (.slice A m c) n xs) (a : Addr) (ha : A = some a) : b ≤ a.block ∧ a.block < w.heap.size := by
  subst ha
  exact h.lt a.block rfl
theorem apart_fresh {w : World} {b T K n m c : Nat} {A : Option Addr} {xs : List Value} (h : w.ownsRow b T K (.slice A m c) n xs) : Apart (some ⟨w.heap.size, 0, none⟩) A := by
  intro a a' ha ha' e
  have := (own_lt h a' ha').2
  injection ha with ha
  subst ha
  simp at e
  omega
theorem apart_call {w w1 : World} {b T K n m c T' K' n' m' c' : Nat} {A B : Option Addr} {xs ys : List Value} (h1 : w1.ownsRow w.heap.size T K (.slice A m c) n xs) (h : w.ownsRow b T' K' (.slice B m' c') n' ys) : Apart A B := by
  intro a a' ha ha' e
  have := (own_lt h a' ha').2
  have := (own_lt h1 a ha).1
  omega
theorem apart_box {w : World} {g j : Nat} {v : Value} (h : w.cell? ⟨g, j, none⟩ = some v) : Apart (some ⟨w.heap.size, 0, none⟩) (some ⟨g, 0, none⟩) := by
  intro a a' ha ha' e
  have hl : g < w.heap.size := cell_lt h
  injection ha with ha
  injection ha' with ha'
  subst ha
  subst ha'
  simp at e
  omega
theorem apart_callbox {w w1 : World} {T K n m c g j : Nat} {A : Option Addr} {xs : List Value} {v : Value} (h1 : w1.ownsRow w.heap.size T K (.slice A m c) n xs) (h : w.cell? ⟨g, j, none⟩ = some v) : Apart A (some ⟨g, 0, none⟩) := by
  intro a a' ha ha' e
  have hl : g < w.heap.size := cell_lt h
  have := (own_lt h1 a ha).1
  injection ha' with ha'
  subst ha'
  simp at e
  omega
theorem apart_app {w : World} {n c n' c' : Nat} {A A' B : Option Addr} (hD : Apart A B) (hB : ∀ a, B = some a → a.block < w.heap.size) (h : (Value.slice A' n' c').ownBlock = (Value.slice A n c).ownBlock ∨ (Value.slice A' n' c').ownBlock = some w.heap.size) : Apart A' B := by
  intro a a' ha ha' e
  have hl := hB a' ha'
  subst ha
  rcases h with h | h
  · cases A with
    | none => simp [Value.ownBlock] at h
    | some x => simp only [Value.ownBlock, Option.some.injEq] at h; exact hD x a' rfl ha' (h ▸ e)
  · simp only [Value.ownBlock, Option.some.injEq] at h; omega
theorem own_other {w w' : World} {b T K n m c n' c' : Nat} {A B : Option Addr} {ys : List Value} (h : w.ownsRow b T K (.slice B m c) n ys) (hg : w.grownBy w' (Value.slice A n' c').ownBlock) (hD : Apart A B) : w'.ownsRow b T K (.slice B m c) n ys := by
  refine h.kept hg ?_
  cases B with
  | none => exact .inl rfl
  | some y =>
    refine .inr ?_
    cases A with
    | none => simp [Value.ownBlock]
    | some x => simp only [Value.ownBlock, ne_eq, Option.some.injEq]; exact fun e => hD x y rfl rfl e.symm
theorem cell_other {w w' : World} {n' c' : Nat} {A : Option Addr} {a : Addr} {v : Value} (h : w.cell? a = some v) (hg : w.grownBy w' (Value.slice A n' c').ownBlock) (hD : Apart A (some ⟨a.block, 0, none⟩)) : w'.cell? a = some v := by
  rw [World.cell?_of_block (hg.block a.block (cell_lt h) ?_)]
  · exact h
  · cases A with
    | none => simp [Value.ownBlock]
    | some x => simp only [Value.ownBlock, ne_eq, Option.some.injEq]; exact fun e => hD x _ rfl rfl e.symm
theorem apart_old {wr : World} {b T K n m c g : Nat} {A : Option Addr} {xs : List Value} (h : wr.ownsRow b T K (.slice A m c) n xs) (hg : g < b) : Apart A (some ⟨g, 0, none⟩) := by
  intro a a' ha ha' e
  have := (own_lt h a ha).1
  injection ha' with ha'
  subst ha'
  simp at e
  omega
theorem own_len {w : World} {b T K n m c : Nat} {A : Option Addr} {xs : List Value} (h : m = n) (hO : w.ownsRow b T K (.slice A n c) n xs) : w.ownsRow b T K (.slice A m c) m xs := by subst h; exact hO
theorem own_max {w : World} {b T K n c : Nat} {A : Option Addr} {xs : List Value} (h : w.ownsRow b T K (.slice A n c) n xs) : n ≤ 9223372036854775807 := by
  rcases h.2 with ⟨_, h0⟩ | ⟨g, cap, cur, hv, _, _, h1, h2, _⟩
  · omega
  · unfold maxLen at h2; omega
theorem grown_below {w wr w2 : World} {q : Option Nat} (h : w.grownBy wr q) (hb : Below wr.heap.size wr w2) : w.grownBy w2 q :=
  Aid.grown_tr h ⟨hb.os, hb.tape, hb.output, hb.size, fun k hk _ => hb.block k hk⟩
theorem own_some {w : World} {b T K n c : Nat} {A : Option Addr} {xs : List Value} (h : w.ownsRow b T K (.slice A n c) n xs) (hn : 0 < n) : ∃ g, A = some ⟨g, 0, none⟩ := by
  rcases h.2 with ⟨_, h0⟩ | ⟨g, cap, cur, hv, _⟩
  · omega
  · injection hv with e1; exact ⟨g, e1⟩
theorem own_stores {b T K n c g : Nat} (ps : List (Nat × Value)) : ∀ {w : World} {xs : List Value}, w.ownsRow b T K (.slice (some ⟨g, 0, none⟩) n c) n xs →
    (ps.foldl (fun w p => w.setCell ⟨g, p.1, none⟩ p.2) w).ownsRow b T K (.slice (some ⟨g, 0, none⟩) n c) n (ps.foldl (fun xs p => xs.set p.1 p.2) xs) ∧ w.grownBy (ps.foldl (fun w p => w.setCell ⟨g, p.1, none⟩ p.2) w) (some g) := by
  induction ps with
  | nil => intro w xs h; exact ⟨h, Aid.grown_refl _ _⟩
  | cons p ps ih =>
    intro w xs h
    have h1 := h.stored p.1 p.2
    have h2 := ih h1.1
    exact ⟨h2.1, Aid.grown_tr h1.2 h2.2⟩
theorem flat_set {α : Type} (f : α → List Value) (K : Nat) (hK : ∀ x, (f x).length = K) : ∀ (l : List α) (k j : Nat) (s1 s2 : α) (v : Value), k < l.length → j < K → (f s1).set j v = f s2 → ((l.set k s1).flatMap f).set (k * K + j) v = (l.set k s2).flatMap f := by
  intro l
  induction l with
  | nil => intro k j s1 s2 v hk; simp at hk
  | cons x l ih =>
    intro k j s1 s2 v hk hj hc
    cases k with
    | zero =>
      simp only [List.set_cons_zero, List.flatMap_cons, Nat.zero_mul, Nat.zero_add]
      rw [List.set_append_left _ _ (by rw [hK]; exact hj), hc]
    | succ k =>
      simp only [List.set_cons_succ, List.flatMap_cons]
      rw [List.set_append_right _ _ (by rw [hK, Nat.add_mul]; omega), hK, show (k + 1) * K + j - K = k * K + j by rw [Nat.add_mul]; omega, ih k j s1 s2 v (by simpa using hk) hj hc]
theorem set_self {α : Type} {l : List α} {k : Nat} {x : α} (h : l[k]? = some x) : l.set k x = l := by
  obtain ⟨hk, e⟩ := List.getElem?_eq_some_iff.1 h
  rw [← e]; simp
theorem map_flat {α : Type} (g : α → Value) (l : List α) : l.map g = l.flatMap (fun x => [g x]) := by
  induction l with
  | nil => rfl
  | cons x l ih => simp [List.flatMap_cons, ih]
theorem made_flat {α : Type} (f : α → List Value) (x0 : α) (z : Value) (K n : Nat) (hz : z.cells.toList = f x0) (hK : z.cells.size = K) (hp : 0 < K) : (madeCells z.cells (n * K)).toList = (List.replicate n x0).flatMap f := by
  have hl : (f x0).length = K := by rw [← hz, ← hK]; simp
  have hr : ∀ n, (List.range (n * K)).map (fun i => z.cells[i % z.cells.size]!) = (List.replicate n x0).flatMap f := by
    intro n
    induction n with
    | zero => simp
    | succ n ih =>
      rw [List.replicate_succ', List.flatMap_append, ← ih, Nat.add_mul, Nat.one_mul, List.range_add, List.map_append]
      congr 1
      simp only [List.map_map, List.flatMap_cons, List.flatMap_nil, List.append_nil]
      apply List.ext_getElem
      · simp [hl]
      · intro i h1 h2
        have hi : i < K := by simpa using h1
        simp only [List.getElem_map, List.getElem_range, Function.comp]
        rw [hK, Nat.add_comm, Nat.add_mul_mod_self_right, Nat.mod_eq_of_lt hi]
        have h3 : i < z.cells.size := by omega
        rw [getElem!_pos z.cells i h3]
        have : z.cells.toList[i]'(by simpa using h3) = z.cells[i] := by simp
        rw [← this]
        congr 1
  unfold madeCells
  rw [← hr n]
  simp
/-- a row is no longer than its room; nil has none -/
def Room (A : Option Addr) (n c : Nat) : Prop := n ≤ c ∧ (A = none → c = 0)
theorem own_room {w : World} {b T K n c : Nat} {A : Option Addr} {xs : List Value} (h : w.ownsRow b T K (.slice A n c) n xs) : Room A n c := by
  rcases h.2 with ⟨h1, h2⟩ | ⟨g, cap, cur, h1, _, _, hr, _⟩
  · simp only [Value.slice.injEq] at h1
    exact ⟨by omega, fun _ => by omega⟩
  · simp only [Value.slice.injEq] at h1
    exact ⟨by omega, fun e => by rw [h1.1] at e; simp at e⟩
theorem flat_drop {α : Type} (f : α → List Value) (K : Nat) (hK : ∀ x, (f x).length = K) : ∀ (l : List α) (j : Nat), (l.flatMap f).drop (j * K) = (l.drop j).flatMap f := by
  intro l
  induction l with
  | nil => intro j; simp
  | cons x l ih =>
    intro j
    cases j with
    | zero => simp
    | succ j =>
      have e : (j + 1) * K = (f x).length + j * K := by rw [hK x, Nat.add_mul]; omega
      rw [List.flatMap_cons, e, List.drop_append, List.drop_of_length_le (by omega), List.drop_succ_cons, ← ih j]
      simp
/-- s[lo:] of a row that came in -/
theorem slice_tail {P : Program} {t e : TypeId} {i : TypeInfo} {k : IntKind} {K n c : Nat} {A : Option Addr} {lo : Int} {w : World} {xs ys : List Value} {m : Nat}
    (ht : P.underlying t = some (.slice (P.elem t))) (he : P.elem t = e) (hi : P.info? e = some i) (hs : i.size = K) (hc : Cells w K A n xs) (hR : Room A n c) (hl : 0 ≤ lo ∧ lo ≤ (n : Int)) (hm : n - lo.toNat = m) (hd : xs.drop (lo.toNat * K) = ys) :
    ∃ A' c', (∀ W, (Instr.slice t (.slice A n c) (some (.int k lo)) none none).run P W = .ok (.slice A' m c') W) ∧ Cells w K A' m ys ∧ Room A' m c' := by
  subst hm; subst hd
  have hr := hR.1
  have hsz : ∀ W, (sizeOf (P.elem t)).run P W = .ok K W := by intro W; subst he; simp [sizeOf, typeInfo, hi, hs]
  refine ⟨if c = lo.toNat then A else A.map (·.add (lo.toNat * K)), c - lo.toNat, ?_, ?_, ⟨by omega, fun e => by
    have : A = none := by
      by_cases h : c = lo.toNat
      · rw [if_pos h] at e; exact e
      · rw [if_neg h] at e; simpa using e
    have := hR.2 this; omega⟩⟩
  · intro W
    rw [run_slice_l (P := P) W t A n c ht k lo hl.1 hl.2, hsz W]
    rfl
  · refine ⟨by rw [List.length_drop, hc.1, Nat.sub_mul], fun h0 => ?_⟩
    rw [List.length_drop] at h0
    obtain ⟨ad, rfl, h⟩ := hc.2 (by omega)
    have h1 := hc.1
    have hne : ¬ c = lo.toNat := by
      intro e2
      have : n = lo.toNat := by omega
      rw [h1, this] at h0; omega
    refine ⟨ad.add (lo.toNat * K), by rw [if_neg hne]; rfl, fun j u hu => ?_⟩
    rw [List.getElem?_drop] at hu
    have := h _ u hu
    rwa [Go.Deep.add_add]
theorem flat_take {α : Type} (f : α → List Value) (K : Nat) (hK : ∀ x, (f x).length = K) : ∀ (l : List α) (j : Nat), (l.flatMap f).take (j * K) = (l.take j).flatMap f := by
  intro l
  induction l with
  | nil => intro j; simp
  | cons x l ih =>
    intro j
    cases j with
    | zero => simp
    | succ j =>
      have e : (j + 1) * K = (f x).length + j * K := by rw [hK x, Nat.add_mul]; omega
      rw [List.flatMap_cons, e, List.take_append, List.take_of_length_le (by omega), List.take_succ_cons, List.flatMap_cons, ← ih j]
      simp
/-- s[:hi] of a row of its own -/
theorem slice_head {P : Program} {t e : TypeId} {i : TypeInfo} {k : IntKind} {K n c b : Nat} {A : Option Addr} {hi : Int} {w : World} {xs ys : List Value} {m : Nat}
    (ht : P.underlying t = some (.slice (P.elem t))) (he : P.elem t = e) (hi_ : P.info? e = some i) (hs : i.size = K) (h : w.ownsRow b e K (.slice A n c) n xs) (hl : 0 ≤ hi ∧ hi ≤ (n : Int)) (hm : hi.toNat = m) (hd : xs.take (hi.toNat * K) = ys) :
    (∀ W, (Instr.slice t (.slice A n c) none (some (.int k hi)) none).run P W = .ok (.slice A m c) W) ∧ w.ownsRow b e K (.slice A m c) m ys := by
  subst hm; subst hd
  have hR := own_room h
  have hsz : ∀ W, (sizeOf (P.elem t)).run P W = .ok K W := by intro W; subst he; simp [sizeOf, typeInfo, hi_, hs]
  have hz : ∀ a : Addr, a.add 0 = a := by intro a; unfold Addr.add; simp
  refine ⟨fun W => ?_, ?_, ?_⟩
  · rw [run_slice_h (P := P) W t A n c ht k hi hl.1 (by have := hR.1; omega), hsz W]
    cases A <;> simp [Result.andThen, sliced, hz]
  · rw [List.length_take, h.1]
    exact Nat.min_eq_left (Nat.mul_le_mul_right K (by omega))
  · rcases h.2 with ⟨h1, h2⟩ | ⟨g, cap, cur, h1, h2, h3, h4, h5, h6, h7⟩
    · simp only [Value.slice.injEq] at h1
      left
      have : hi.toNat = 0 := by omega
      exact ⟨by rw [h1.1, h1.2.2, this], this⟩
    · simp only [Value.slice.injEq] at h1
      right
      refine ⟨g, cap, cur, by rw [h1.1, h1.2.2], h2, h3, by omega, h5, h6, ?_⟩
      rw [← h7, List.take_take, Nat.min_eq_left (Nat.mul_le_mul_right K (by omega))]
/-- s[:hi] of a row that came in -/
theorem slice_headB {P : Program} {t e : TypeId} {i : TypeInfo} {k : IntKind} {K n c : Nat} {A : Option Addr} {hi : Int} {w : World} {xs ys : List Value} {m : Nat}
    (ht : P.underlying t = some (.slice (P.elem t))) (he : P.elem t = e) (hi_ : P.info? e = some i) (hs : i.size = K) (h : Cells w K A n xs) (hR : Room A n c) (hl : 0 ≤ hi ∧ hi ≤ (n : Int)) (hm : hi.toNat = m) (hd : xs.take (hi.toNat * K) = ys) :
    (∀ W, (Instr.slice t (.slice A n c) none (some (.int k hi)) none).run P W = .ok (.slice A m c) W) ∧ Cells w K A m ys ∧ Room A m c := by
  subst hm; subst hd
  have hsz : ∀ W, (sizeOf (P.elem t)).run P W = .ok K W := by intro W; subst he; simp [sizeOf, typeInfo, hi_, hs]
  have hz : ∀ a : Addr, a.add 0 = a := by intro a; unfold Addr.add; simp
  refine ⟨fun W => ?_, ⟨?_, fun h0 => ?_⟩, ⟨by have := hR.1; omega, hR.2⟩⟩
  · rw [run_slice_h (P := P) W t A n c ht k hi hl.1 (by have := hR.1; omega), hsz W]
    cases A <;> simp [Result.andThen, sliced, hz]
  · rw [List.length_take, h.1]
    exact Nat.min_eq_left (Nat.mul_le_mul_right K (by omega))
  · rw [List.length_take] at h0
    obtain ⟨ad, e, hc⟩ := h.2 (by omega)
    refine ⟨ad, e, fun j u hu => hc j u ?_⟩
    have := List.getElem?_take (l := xs) (i := hi.toNat * K) (j := j)
    rw [this] at hu
    split at hu
    · exact hu
    · cases hu
/-- append(a, b...) onto a row of its own -/
theorem append_spread {P : Program} {w : World} {ops : Array Oper} {rest : List Oper} {o : Oper} {a : Act} {Q : Exit → Act → World → Prop} (hgd : o.guard = none) (s x : Operand) (t : TypeId)
    (ho : o.op = .call { callee := .builtin .append, args := #[s, x], argTypes := #[t, t] })
    (base : Nat) (e : TypeId) (i : TypeInfo) (z : Value) (size bytes : Nat) (ht : P.underlying t = some (.slice e)) (hi : P.info? e = some i) (hz : i.zero = some z)
    (hsize : i.size = size) (hby : i.bytes = bytes) (hzs : z.cells.size = size) (hsz : 0 < size)
    (A1 : Option Addr) (c1 n : Nat) (xs : List Value) (hs : a.eval s = .slice A1 n c1) (hown : w.ownsRow base e size (.slice A1 n c1) n xs)
    (A : Option Addr) (m c : Nat) (news : List Value) (hx : a.eval x = .slice A m c) (hN : Room A m c) (hc : Cells w size A m news) (h1 : ∀ u ∈ news, u.oneCell' = true)
    (h63 : n + m ≤ maxLen) (hbytes : (n + m) * bytes ≤ 140737488355328) (hbase : base ≤ w.heap.size)
    (h : ∀ v' w', w'.ownsRow base e size v' (n + m) (xs ++ news) → w.grownBy w' (Value.slice A1 n c1).ownBlock → (v'.ownBlock = (Value.slice A1 n c1).ownBlock ∨ v'.ownBlock = some w.heap.size) → wpList P ops Q rest (a.put o.dst v') w') :
    wpList P ops Q (o :: rest) a w := by
  cases A with
  | some ad =>
    refine wpList_append_own_at w hgd s x t ho base e i z size bytes ht hi hz hsize hby hzs hsz _ n xs hs hown ad m c news hx hc.1 (fun j u hu => ?_) h1 h63 hbytes hbase (fun v' w' o1 g1 _ y1 => h v' w' o1 g1 y1)
    obtain ⟨ad', e', hcell⟩ := hc.2 (by have := (List.getElem?_eq_some_iff.1 hu).1; omega)
    obtain rfl : ad = ad' := Option.some.inj e'
    exact hcell j u hu
  | none =>
    have hm : m = 0 := by
      cases news with
      | nil =>
        have h0 : ([] : List Value).length = m * size := hc.1
        rw [List.length_nil] at h0
        rcases Nat.mul_eq_zero.1 h0.symm with h1 | h1 <;> omega
      | cons y l => obtain ⟨ad, e', _⟩ := hc.2 (by simp); simp at e'
    obtain rfl : c = 0 := hN.2 rfl
    subst hm
    have hn : news = [] := List.eq_nil_of_length_eq_zero (by have := hc.1; simpa using this)
    subst hn
    refine Go.wpList_append_own_none hgd s x t ho base e i size ht hi _ n xs hs hown hx ?_
    exact h _ w (by simpa using hown) (World.grownBy.refl w _) (.inl rfl)
theorem own_pushS {α : Type} {f : List α → List Value} {l b t : List α} {w' : World} {bs T K : Nat} {v' : Value} {n : Nat} (ht : l ++ b = t) (hf : f (l ++ b) = f l ++ f b) (hn : l.length = n) (h : w'.ownsRow bs T K v' (n + b.length) (f l ++ f b)) :
    ∃ A cap, v' = .slice A t.length cap ∧ w'.ownsRow bs T K (.slice A t.length cap) t.length (f t) := by
  subst ht
  subst hn
  rw [← List.length_append, ← hf] at h
  rcases h.2 with ⟨h1, h2⟩ | ⟨g3, cap3, _, h2, _⟩
  · have hv : v' = .slice none (l ++ b).length 0 := by rw [h1, h2]
    exact ⟨none, 0, hv, hv ▸ h⟩
  · exact ⟨_, _, h2, h2 ▸ h⟩
/-- w' is w but for two rows and for new blocks -/
structure Grown2 (w w' : World) (A1 A2 : Option Addr) : Prop where
  os : w'.os = w.os
  tape : w'.tape = w.tape
  output : w'.output = w.output
  size : w.heap.size ≤ w'.heap.size
  block : ∀ k, k < w.heap.size → (∀ a, A1 = some a → a.block ≠ k) → (∀ a, A2 = some a → a.block ≠ k) → w'.heap[k]? = w.heap[k]?
theorem grown2_refl (w : World) (A1 A2 : Option Addr) : Grown2 w w A1 A2 := ⟨rfl, rfl, rfl, Nat.le_refl _, fun _ _ _ _ => rfl⟩
theorem grown2_below {w wr w2 : World} {A1 A2 : Option Addr} (h : Grown2 w wr A1 A2) (hb : Below wr.heap.size wr w2) : Grown2 w w2 A1 A2 :=
  ⟨hb.os.trans h.os, hb.tape.trans h.tape, hb.output.trans h.output, Nat.le_trans h.size hb.size, fun k hk h1 h2 => (hb.block k (Nat.lt_of_lt_of_le hk h.size)).trans (h.block k hk h1 h2)⟩
theorem grown2_l {w wr w2 : World} {A1 A2 : Option Addr} {n c : Nat} (h : Grown2 w wr A1 A2) (hg : wr.grownBy w2 (Value.slice A1 n c).ownBlock) : Grown2 w w2 A1 A2 :=
  ⟨hg.os.trans h.os, hg.tape.trans h.tape, hg.output.trans h.output, Nat.le_trans h.size hg.size, fun k hk h1 h2 => (hg.block k (Nat.lt_of_lt_of_le hk h.size) (by
    cases A1 with
    | none => simp [Value.ownBlock]
    | some a => simp only [Value.ownBlock, ne_eq, Option.some.injEq]; exact fun e => h1 a rfl e.symm)).trans (h.block k hk h1 h2)⟩
theorem grown2_r {w wr w2 : World} {A1 A2 : Option Addr} {n c : Nat} (h : Grown2 w wr A1 A2) (hg : wr.grownBy w2 (Value.slice A2 n c).ownBlock) : Grown2 w w2 A1 A2 :=
  ⟨hg.os.trans h.os, hg.tape.trans h.tape, hg.output.trans h.output, Nat.le_trans h.size hg.size, fun k hk h1 h2 => (hg.block k (Nat.lt_of_lt_of_le hk h.size) (by
    cases A2 with
    | none => simp [Value.ownBlock]
    | some a => simp only [Value.ownBlock, ne_eq, Option.some.injEq]; exact fun e => h2 a rfl e.symm)).trans (h.block k hk h1 h2)⟩
theorem below2 {w wr w2 : World} {B : Nat} {A1 A2 : Option Addr} (h : Below B w wr) (hg : Grown2 wr w2 A1 A2) (hB : B ≤ wr.heap.size) (h1 : ∀ a, A1 = some a → B ≤ a.block) (h2 : ∀ a, A2 = some a → B ≤ a.block) : Below B w w2 :=
  ⟨hg.os.trans h.os, hg.tape.trans h.tape, hg.output.trans h.output, Nat.le_trans h.size hg.size, fun k hk => (hg.block k (Nat.lt_of_lt_of_le hk hB) (fun a e e2 => by have := h1 a e; omega) (fun a e e2 => by have := h2 a e; omega)).trans (h.block k hk)⟩
theorem own_other2 {w w' : World} {b T K n m c : Nat} {A1 A2 B : Option Addr} {ys : List Value} (h : w.ownsRow b T K (.slice B m c) n ys) (hg : Grown2 w w' A1 A2) (h1 : Apart A1 B) (h2 : Apart A2 B) : w'.ownsRow b T K (.slice B m c) n ys := by
  refine ⟨h.1, ?_⟩
  rcases h.2 with hn | ⟨g, cap, cur, hv, hb, hgg, rest⟩
  · exact .inl hn
  · have hlt := (h.lt g (by rw [hv]; rfl)).2
    have hB : B = some ⟨g, 0, none⟩ := by simp only [Value.slice.injEq] at hv; exact hv.1
    refine .inr ⟨g, cap, cur, hv, hb, ?_, rest⟩
    rw [hg.block g hlt (fun a e e2 => h1 a _ e hB e2) (fun a e e2 => h2 a _ e hB e2)]
    exact hgg
theorem cell_other2 {w w' : World} {A1 A2 : Option Addr} {a : Addr} {v : Value} (h : w.cell? a = some v) (hg : Grown2 w w' A1 A2) (h1 : Apart A1 (some ⟨a.block, 0, none⟩)) (h2 : Apart A2 (some ⟨a.block, 0, none⟩)) : w'.cell? a = some v := by
  rw [World.cell?_of_block (hg.block a.block (cell_lt h) (fun x e e2 => h1 x _ e rfl e2) (fun x e e2 => h2 x _ e rfl e2))]
  exact h
theorem own_ge2 {w : World} {b T K n m c : Nat} {A : Option Addr} {xs : List Value} (h : w.ownsRow b T K (.slice A m c) n xs) : ∀ a, A = some a → b ≤ a.block := fun a e => (own_lt h a e).1
end Go.Proofs.Ytlljmgphgmklcaa.GoM

/- Plain words on the record Cover: its fields, its cells, a list of it as cells one after the other. No condition. -/
namespace Go.Proofs.Ytlljmgphgmklcaa.PCover
set_option linter.unusedVariables false
set_option maxRecDepth 100000

structure Cover where
  id : Int
  day : Int
  zone : Int
  grams : Int
  paid : Int
  from_ : Int
  to_ : Int
  leave : Int
  arrive : Int
def Cover.cells (s : Cover) : List Value := [.int .i64 s.id, .int .i64 s.day, .int .i64 s.zone, .int .i64 s.grams, .int .i64 s.paid, .int .i64 s.from_, .int .i64 s.to_, .int .i64 s.leave, .int .i64 s.arrive]
def Cover.val (s : Cover) : Value := .agg #[.int .i64 s.id, .int .i64 s.day, .int .i64 s.zone, .int .i64 s.grams, .int .i64 s.paid, .int .i64 s.from_, .int .i64 s.to_, .int .i64 s.leave, .int .i64 s.arrive]
/-- each field fits -/
def Cover.fits (s : Cover) : Prop := (Lit.int .i64 s.id).wf = true ∧ (Lit.int .i64 s.day).wf = true ∧ (Lit.int .i64 s.zone).wf = true ∧ (Lit.int .i64 s.grams).wf = true ∧ (Lit.int .i64 s.paid).wf = true ∧ (Lit.int .i64 s.from_).wf = true ∧ (Lit.int .i64 s.to_).wf = true ∧ (Lit.int .i64 s.leave).wf = true ∧ (Lit.int .i64 s.arrive).wf = true
def zero : Cover := ⟨0, 0, 0, 0, 0, 0, 0, 0, 0⟩
/-- the letters of its texts -/
def Cover.wt (s : Cover) : Nat := 0
def wts (l : List Cover) : Nat := (l.map Cover.wt).sum
theorem wts_snoc (l : List Cover) (s : Cover) : wts (l ++ [s]) = wts l + s.wt := by unfold wts; simp [List.sum_append]
theorem wts_succ {l : List Cover} {k : Nat} {s : Cover} (h : l[k]? = some s) : wts (l.take (k + 1)) = wts (l.take k) + s.wt := by
  have hk := List.getElem?_eq_some_iff.1 h
  rw [List.take_succ_eq_append_getElem hk.1, hk.2, wts_snoc]
theorem wts_take (l : List Cover) (k : Nat) : wts (l.take k) ≤ wts l := by
  have : wts l = wts (l.take k) + wts (l.drop k) := by
    unfold wts; rw [← List.sum_append, ← List.map_append, List.take_append_drop]
  omega
theorem wts_all (l : List Cover) : wts (l.take l.length) = wts l := by rw [List.take_of_length_le (Nat.le_refl _)]

/-- the cells of a list of records, one after the other -/
def flat (l : List Cover) : List Value := l.flatMap Cover.cells
theorem flat_nil : flat [] = [] := rfl
theorem flat_cons (s : Cover) (l : List Cover) : flat (s :: l) = s.cells ++ flat l := by simp [flat]
theorem flat_snoc (l : List Cover) (s : Cover) : flat (l ++ [s]) = flat l ++ s.cells := by simp [flat]
theorem flat_len (l : List Cover) : (flat l).length = l.length * 9 := by
  induction l with
  | nil => rfl
  | cons s l ih => rw [flat_cons, List.length_append, ih]; simp [Cover.cells]; omega
theorem flat_at : ∀ (l : List Cover) (k : Nat) (s : Cover), l[k]? = some s → ∀ j, j < 9 → (flat l)[k * 9 + j]? = s.cells[j]?
  | [], k, s, h, _, _ => by simp at h
  | r :: l, 0, s, h, j, hj => by
    obtain rfl : r = s := by simpa using h
    rw [flat_cons, List.getElem?_append_left (by simp [Cover.cells]; omega)]; simp
  | r :: l, k + 1, s, h, j, hj => by
    rw [flat_cons, List.getElem?_append_right (by simp [Cover.cells]; omega), show (k + 1) * 9 + j - r.cells.length = k * 9 + j by simp [Cover.cells]; omega]
    exact flat_at l k s (by simpa using h) j hj
end Go.Proofs.Ytlljmgphgmklcaa.PCover

/- A record Cover opened into its fields. No condition. -/
namespace Go.Proofs.Ytlljmgphgmklcaa.GoP
set_option linter.unusedVariables false
open Go.RowKit
def unCover {ρ : Type} (s : Go.Proofs.Ytlljmgphgmklcaa.PCover.Cover) (f : Int → Int → Int → Int → Int → Int → Int → Int → Int → Option ρ) : Option ρ := f s.id s.day s.zone s.grams s.paid s.from_ s.to_ s.leave s.arrive
theorem unCover_hid {ρ : Type} {x0 : Int} {x1 : Int} {x2 : Int} {x3 : Int} {x4 : Int} {x5 : Int} {x6 : Int} {x7 : Int} {x8 : Int} {f : Int → Int → Int → Int → Int → Int → Int → Int → Int → Option ρ} {r : ρ} (H : Hid (unCover ⟨x0, x1, x2, x3, x4, x5, x6, x7, x8⟩ f = some r)) : Hid (f x0 x1 x2 x3 x4 x5 x6 x7 x8 = some r) := H
end Go.Proofs.Ytlljmgphgmklcaa.GoP

/- loop.example/g01062/laws.toCover as a plain function, and the contract of the program's: where the plain one has an answer, the program has it. Conditions: slices read as lists. -/
namespace Go.Proofs.Ytlljmgphgmklcaa.GlToCover
set_option linter.unusedVariables false
set_option linter.unusedSimpArgs false
open Go.RowKit
open Go.Proofs.Ytlljmgphgmklcaa.Rowed Go.Proofs.Ytlljmgphgmklcaa.Turn Go.Proofs.Ytlljmgphgmklcaa.Aid Go.Proofs.Ytlljmgphgmklcaa.GoP Go.Proofs.Ytlljmgphgmklcaa.GoM

def P (a : Go.Proofs.Ytlljmgphgmklcaa.PCover.Cover) : Option (Go.Proofs.Ytlljmgphgmklcaa.PCover.Cover) :=
  unCover a fun (a_id : Int) (a_day : Int) (a_zone : Int) (a_grams : Int) (a_paid : Int) (a_from_ : Int) (a_to_ : Int) (a_leave : Int) (a_arrive : Int) =>
  some (Go.Proofs.Ytlljmgphgmklcaa.PCover.Cover.mk a_id a_day a_zone a_grams a_paid a_from_ a_to_ a_leave a_arrive)

set_option maxRecDepth 100000 in
set_option maxHeartbeats 2000000 in
theorem C (a : Go.Proofs.Ytlljmgphgmklcaa.PCover.Cover)   (w : World)   {r : Go.Proofs.Ytlljmgphgmklcaa.PCover.Cover} (H : Hid (P a = some r)) :
    Calls Try.prog 17 #[a.val] w (Gives ((Go.Proofs.Ytlljmgphgmklcaa.PCover.Cover.val r)) w) := by
  have HB := Lib.hid (Below.refl w.heap.size w)
  unfold P at H
  obtain ⟨a_id, a_day, a_zone, a_grams, a_paid, a_from_, a_to_, a_leave, a_arrive⟩ := a
  replace H := unCover_hid H
  unfold Go.Proofs.Ytlljmgphgmklcaa.PCover.Cover.val
  go_enter Try.func17, Try.ntmps17
  obtain ⟨w_a_0, hw_a_0⟩ : ∃ x, w.alloc (.cells #[.int .i64 a_id, .int .i64 a_day, .int .i64 a_zone, .int .i64 a_grams, .int .i64 a_paid, .int .i64 a_from_, .int .i64 a_to_, .int .i64 a_leave, .int .i64 a_arrive] 23) = x := ⟨_, rfl⟩
  have bw_a_0 : Below w.heap.size w w_a_0 := by rw [← hw_a_0]; exact (Below.refl _ _).alloc (Nat.le_refl _) _
  have HBw_a_0 := Lib.hid (Below.step HB.out bw_a_0)
  clear bw_a_0
  have ka_0_0 : w_a_0.cell? ⟨w.heap.size, 0, none⟩ = some (.int .i64 a_id) := by rw [← hw_a_0]; exact box_new _ _ _ 0 _ rfl
  have ka_0_1 : w_a_0.cell? ⟨w.heap.size, 1, none⟩ = some (.int .i64 a_day) := by rw [← hw_a_0]; exact box_new _ _ _ 1 _ rfl
  have ka_0_2 : w_a_0.cell? ⟨w.heap.size, 2, none⟩ = some (.int .i64 a_zone) := by rw [← hw_a_0]; exact box_new _ _ _ 2 _ rfl
  have ka_0_3 : w_a_0.cell? ⟨w.heap.size, 3, none⟩ = some (.int .i64 a_grams) := by rw [← hw_a_0]; exact box_new _ _ _ 3 _ rfl
  have ka_0_4 : w_a_0.cell? ⟨w.heap.size, 4, none⟩ = some (.int .i64 a_paid) := by rw [← hw_a_0]; exact box_new _ _ _ 4 _ rfl
  have ka_0_5 : w_a_0.cell? ⟨w.heap.size, 5, none⟩ = some (.int .i64 a_from_) := by rw [← hw_a_0]; exact box_new _ _ _ 5 _ rfl
  have ka_0_6 : w_a_0.cell? ⟨w.heap.size, 6, none⟩ = some (.int .i64 a_to_) := by rw [← hw_a_0]; exact box_new _ _ _ 6 _ rfl
  have ka_0_7 : w_a_0.cell? ⟨w.heap.size, 7, none⟩ = some (.int .i64 a_leave) := by rw [← hw_a_0]; exact box_new _ _ _ 7 _ rfl
  have ka_0_8 : w_a_0.cell? ⟨w.heap.size, 8, none⟩ = some (.int .i64 a_arrive) := by rw [← hw_a_0]; exact box_new _ _ _ 8 _ rfl
  obtain ⟨w_t_1, hw_t_1⟩ : ∃ x, w_a_0.alloc (.cells #[.int .i64 0, .int .i64 0, .int .i64 0, .int .i64 0, .int .i64 0, .int .i64 0, .int .i64 0, .int .i64 0, .int .i64 0] 25) = x := ⟨_, rfl⟩
  have bw_t_1 : Below w_a_0.heap.size w_a_0 w_t_1 := by rw [← hw_t_1]; exact (Below.refl _ _).alloc (Nat.le_refl _) _
  have Dt_1_a_0 := Lib.hid (apart_box ka_0_0)
  have HBw_t_1 := Lib.hid (Below.step HBw_a_0.out bw_t_1)
  have ka_0_0__77 := cell_below bw_t_1 ka_0_0
  have ka_0_1__78 := cell_below bw_t_1 ka_0_1
  have ka_0_2__79 := cell_below bw_t_1 ka_0_2
  have ka_0_3__80 := cell_below bw_t_1 ka_0_3
  have ka_0_4__81 := cell_below bw_t_1 ka_0_4
  have ka_0_5__82 := cell_below bw_t_1 ka_0_5
  have ka_0_6__83 := cell_below bw_t_1 ka_0_6
  have ka_0_7__84 := cell_below bw_t_1 ka_0_7
  have ka_0_8__85 := cell_below bw_t_1 ka_0_8
  clear bw_t_1
  have kt_1_0 : w_t_1.cell? ⟨w_a_0.heap.size, 0, none⟩ = some (.int .i64 0) := by rw [← hw_t_1]; exact box_new _ _ _ 0 _ rfl
  have kt_1_1 : w_t_1.cell? ⟨w_a_0.heap.size, 1, none⟩ = some (.int .i64 0) := by rw [← hw_t_1]; exact box_new _ _ _ 1 _ rfl
  have kt_1_2 : w_t_1.cell? ⟨w_a_0.heap.size, 2, none⟩ = some (.int .i64 0) := by rw [← hw_t_1]; exact box_new _ _ _ 2 _ rfl
  have kt_1_3 : w_t_1.cell? ⟨w_a_0.heap.size, 3, none⟩ = some (.int .i64 0) := by rw [← hw_t_1]; exact box_new _ _ _ 3 _ rfl
  have kt_1_4 : w_t_1.cell? ⟨w_a_0.heap.size, 4, none⟩ = some (.int .i64 0) := by rw [← hw_t_1]; exact box_new _ _ _ 4 _ rfl
  have kt_1_5 : w_t_1.cell? ⟨w_a_0.heap.size, 5, none⟩ = some (.int .i64 0) := by rw [← hw_t_1]; exact box_new _ _ _ 5 _ rfl
  have kt_1_6 : w_t_1.cell? ⟨w_a_0.heap.size, 6, none⟩ = some (.int .i64 0) := by rw [← hw_t_1]; exact box_new _ _ _ 6 _ rfl
  have kt_1_7 : w_t_1.cell? ⟨w_a_0.heap.size, 7, none⟩ = some (.int .i64 0) := by rw [← hw_t_1]; exact box_new _ _ _ 7 _ rfl
  have kt_1_8 : w_t_1.cell? ⟨w_a_0.heap.size, 8, none⟩ = some (.int .i64 0) := by rw [← hw_t_1]; exact box_new _ _ _ 8 _ rfl
  have Ot_1 : Hid (w_t_1.ownsRow w.heap.size 25 9 (.slice (some ⟨w_a_0.heap.size, 0, none⟩) 1 1) 1 [.int .i64 0, .int .i64 0, .int .i64 0, .int .i64 0, .int .i64 0, .int .i64 0, .int .i64 0, .int .i64 0, .int .i64 0]) := Lib.hid (by rw [← hw_t_1]; exact own_laid (n := 1) HBw_a_0.out.size rfl rfl (by unfold maxLen; omega))
  obtain ⟨w_out_2, hw_out_2⟩ : ∃ x, w_t_1.alloc (.cells #[.int .i64 0, .int .i64 0, .int .i64 0, .int .i64 0, .int .i64 0, .int .i64 0, .int .i64 0, .int .i64 0, .int .i64 0] 25) = x := ⟨_, rfl⟩
  have bw_out_2 : Below w_t_1.heap.size w_t_1 w_out_2 := by rw [← hw_out_2]; exact (Below.refl _ _).alloc (Nat.le_refl _) _
  have Dout_2_a_0 := Lib.hid (apart_box ka_0_0__77)
  have Dout_2_t_1 := Lib.hid (apart_box kt_1_0)
  have HBw_out_2 := Lib.hid (Below.step HBw_t_1.out bw_out_2)
  have ka_0_0__86 := cell_below bw_out_2 ka_0_0__77
  have ka_0_1__87 := cell_below bw_out_2 ka_0_1__78
  have ka_0_2__88 := cell_below bw_out_2 ka_0_2__79
  have ka_0_3__89 := cell_below bw_out_2 ka_0_3__80
  have ka_0_4__90 := cell_below bw_out_2 ka_0_4__81
  have ka_0_5__91 := cell_below bw_out_2 ka_0_5__82
  have ka_0_6__92 := cell_below bw_out_2 ka_0_6__83
  have ka_0_7__93 := cell_below bw_out_2 ka_0_7__84
  have ka_0_8__94 := cell_below bw_out_2 ka_0_8__85
  have kt_1_0__95 := cell_below bw_out_2 kt_1_0
  have kt_1_1__96 := cell_below bw_out_2 kt_1_1
  have kt_1_2__97 := cell_below bw_out_2 kt_1_2
  have kt_1_3__98 := cell_below bw_out_2 kt_1_3
  have kt_1_4__99 := cell_below bw_out_2 kt_1_4
  have kt_1_5__100 := cell_below bw_out_2 kt_1_5
  have kt_1_6__101 := cell_below bw_out_2 kt_1_6
  have kt_1_7__102 := cell_below bw_out_2 kt_1_7
  have kt_1_8__103 := cell_below bw_out_2 kt_1_8
  replace Ot_1 := Lib.hid (own_below Ot_1.out bw_out_2)
  clear bw_out_2
  have kout_2_0 : w_out_2.cell? ⟨w_t_1.heap.size, 0, none⟩ = some (.int .i64 0) := by rw [← hw_out_2]; exact box_new _ _ _ 0 _ rfl
  have kout_2_1 : w_out_2.cell? ⟨w_t_1.heap.size, 1, none⟩ = some (.int .i64 0) := by rw [← hw_out_2]; exact box_new _ _ _ 1 _ rfl
  have kout_2_2 : w_out_2.cell? ⟨w_t_1.heap.size, 2, none⟩ = some (.int .i64 0) := by rw [← hw_out_2]; exact box_new _ _ _ 2 _ rfl
  have kout_2_3 : w_out_2.cell? ⟨w_t_1.heap.size, 3, none⟩ = some (.int .i64 0) := by rw [← hw_out_2]; exact box_new _ _ _ 3 _ rfl
  have kout_2_4 : w_out_2.cell? ⟨w_t_1.heap.size, 4, none⟩ = some (.int .i64 0) := by rw [← hw_out_2]; exact box_new _ _ _ 4 _ rfl
  have kout_2_5 : w_out_2.cell? ⟨w_t_1.heap.size, 5, none⟩ = some (.int .i64 0) := by rw [← hw_out_2]; exact box_new _ _ _ 5 _ rfl
  have kout_2_6 : w_out_2.cell? ⟨w_t_1.heap.size, 6, none⟩ = some (.int .i64 0) := by rw [← hw_out_2]; exact box_new _ _ _ 6 _ rfl
  have kout_2_7 : w_out_2.cell? ⟨w_t_1.heap.size, 7, none⟩ = some (.int .i64 0) := by rw [← hw_out_2]; exact box_new _ _ _ 7 _ rfl
  have kout_2_8 : w_out_2.cell? ⟨w_t_1.heap.size, 8, none⟩ = some (.int .i64 0) := by rw [← hw_out_2]; exact box_new _ _ _ 8 _ rfl
  have Oout_2 : Hid (w_out_2.ownsRow w.heap.size 25 9 (.slice (some ⟨w_t_1.heap.size, 0, none⟩) 1 1) 1 [.int .i64 0, .int .i64 0, .int .i64 0, .int .i64 0, .int .i64 0, .int .i64 0, .int .i64 0, .int .i64 0, .int .i64 0]) := Lib.hid (by rw [← hw_out_2]; exact own_laid (n := 1) HBw_t_1.out.size rfl rfl (by unfold maxLen; omega))
  obtain ⟨wb6_6, hwb6_6⟩ : ∃ x, (w_out_2).setCell ⟨w_t_1.heap.size, 0, none⟩ (.int .i64 a_id) = x := ⟨_, rfl⟩
  have z0b6_6 := Oout_2.out.frozenAt 0
  have Sb6_6 := Lib.hid (own_stores [(0, .int .i64 a_id)] Oout_2.out)
  have Pb6_6 : Hid (wb6_6.ownsRow w.heap.size 25 9 (.slice (some ⟨w_t_1.heap.size, 0, none⟩) 1 1) 1 [.int .i64 a_id, .int .i64 0, .int .i64 0, .int .i64 0, .int .i64 0, .int .i64 0, .int .i64 0, .int .i64 0, .int .i64 0]) := Lib.hid (by rw [← hwb6_6]; exact Sb6_6.out.1)
  have Gb6_6 : Hid (w_out_2.grownBy wb6_6 (Value.slice (some ⟨w_t_1.heap.size, 0, none⟩) 1 1).ownBlock) := Lib.hid (by rw [← hwb6_6]; exact Sb6_6.out.2)
  have HBwb6_6 := Lib.hid (HBw_out_2.out.grown Gb6_6.out HBw_out_2.out.size (fun q hq => (Oout_2.out.lt q hq).1))
  clear Sb6_6
  have ka_0_0__104 := cell_other ka_0_0__86 Gb6_6.out Dout_2_a_0.out
  have ka_0_1__105 := cell_other ka_0_1__87 Gb6_6.out Dout_2_a_0.out
  have ka_0_2__106 := cell_other ka_0_2__88 Gb6_6.out Dout_2_a_0.out
  have ka_0_3__107 := cell_other ka_0_3__89 Gb6_6.out Dout_2_a_0.out
  have ka_0_4__108 := cell_other ka_0_4__90 Gb6_6.out Dout_2_a_0.out
  have ka_0_5__109 := cell_other ka_0_5__91 Gb6_6.out Dout_2_a_0.out
  have ka_0_6__110 := cell_other ka_0_6__92 Gb6_6.out Dout_2_a_0.out
  have ka_0_7__111 := cell_other ka_0_7__93 Gb6_6.out Dout_2_a_0.out
  have ka_0_8__112 := cell_other ka_0_8__94 Gb6_6.out Dout_2_a_0.out
  have kt_1_0__113 := cell_other kt_1_0__95 Gb6_6.out Dout_2_t_1.out
  have kt_1_1__114 := cell_other kt_1_1__96 Gb6_6.out Dout_2_t_1.out
  have kt_1_2__115 := cell_other kt_1_2__97 Gb6_6.out Dout_2_t_1.out
  have kt_1_3__116 := cell_other kt_1_3__98 Gb6_6.out Dout_2_t_1.out
  have kt_1_4__117 := cell_other kt_1_4__99 Gb6_6.out Dout_2_t_1.out
  have kt_1_5__118 := cell_other kt_1_5__100 Gb6_6.out Dout_2_t_1.out
  have kt_1_6__119 := cell_other kt_1_6__101 Gb6_6.out Dout_2_t_1.out
  have kt_1_7__120 := cell_other kt_1_7__102 Gb6_6.out Dout_2_t_1.out
  have kt_1_8__121 := cell_other kt_1_8__103 Gb6_6.out Dout_2_t_1.out
  replace Ot_1 := Lib.hid (own_other Ot_1.out Gb6_6.out Dout_2_t_1.out)
  clear Oout_2 Gb6_6
  have kout_2_0__122 : wb6_6.cell? ⟨w_t_1.heap.size, 0, none⟩ = some (.int .i64 a_id) := Pb6_6.out.cells rfl 0 _ rfl
  have kout_2_1__123 : wb6_6.cell? ⟨w_t_1.heap.size, 1, none⟩ = some (.int .i64 0) := Pb6_6.out.cells rfl 1 _ rfl
  have kout_2_2__124 : wb6_6.cell? ⟨w_t_1.heap.size, 2, none⟩ = some (.int .i64 0) := Pb6_6.out.cells rfl 2 _ rfl
  have kout_2_3__125 : wb6_6.cell? ⟨w_t_1.heap.size, 3, none⟩ = some (.int .i64 0) := Pb6_6.out.cells rfl 3 _ rfl
  have kout_2_4__126 : wb6_6.cell? ⟨w_t_1.heap.size, 4, none⟩ = some (.int .i64 0) := Pb6_6.out.cells rfl 4 _ rfl
  have kout_2_5__127 : wb6_6.cell? ⟨w_t_1.heap.size, 5, none⟩ = some (.int .i64 0) := Pb6_6.out.cells rfl 5 _ rfl
  have kout_2_6__128 : wb6_6.cell? ⟨w_t_1.heap.size, 6, none⟩ = some (.int .i64 0) := Pb6_6.out.cells rfl 6 _ rfl
  have kout_2_7__129 : wb6_6.cell? ⟨w_t_1.heap.size, 7, none⟩ = some (.int .i64 0) := Pb6_6.out.cells rfl 7 _ rfl
  have kout_2_8__130 : wb6_6.cell? ⟨w_t_1.heap.size, 8, none⟩ = some (.int .i64 0) := Pb6_6.out.cells rfl 8 _ rfl
  obtain ⟨wb10_10, hwb10_10⟩ : ∃ x, (wb6_6).setCell ⟨w_t_1.heap.size, 1, none⟩ (.int .i64 a_day) = x := ⟨_, rfl⟩
  have z0b10_10 := Pb6_6.out.frozenAt 1
  have Sb10_10 := Lib.hid (own_stores [(1, .int .i64 a_day)] Pb6_6.out)
  have Pb10_10 : Hid (wb10_10.ownsRow w.heap.size 25 9 (.slice (some ⟨w_t_1.heap.size, 0, none⟩) 1 1) 1 [.int .i64 a_id, .int .i64 a_day, .int .i64 0, .int .i64 0, .int .i64 0, .int .i64 0, .int .i64 0, .int .i64 0, .int .i64 0]) := Lib.hid (by rw [← hwb10_10]; exact Sb10_10.out.1)
  have Gb10_10 : Hid (wb6_6.grownBy wb10_10 (Value.slice (some ⟨w_t_1.heap.size, 0, none⟩) 1 1).ownBlock) := Lib.hid (by rw [← hwb10_10]; exact Sb10_10.out.2)
  have HBwb10_10 := Lib.hid (HBwb6_6.out.grown Gb10_10.out HBwb6_6.out.size (fun q hq => (Pb6_6.out.lt q hq).1))
  clear Sb10_10
  have ka_0_0__131 := cell_other ka_0_0__104 Gb10_10.out Dout_2_a_0.out
  have ka_0_1__132 := cell_other ka_0_1__105 Gb10_10.out Dout_2_a_0.out
  have ka_0_2__133 := cell_other ka_0_2__106 Gb10_10.out Dout_2_a_0.out
  have ka_0_3__134 := cell_other ka_0_3__107 Gb10_10.out Dout_2_a_0.out
  have ka_0_4__135 := cell_other ka_0_4__108 Gb10_10.out Dout_2_a_0.out
  have ka_0_5__136 := cell_other ka_0_5__109 Gb10_10.out Dout_2_a_0.out
  have ka_0_6__137 := cell_other ka_0_6__110 Gb10_10.out Dout_2_a_0.out
  have ka_0_7__138 := cell_other ka_0_7__111 Gb10_10.out Dout_2_a_0.out
  have ka_0_8__139 := cell_other ka_0_8__112 Gb10_10.out Dout_2_a_0.out
  have kt_1_0__140 := cell_other kt_1_0__113 Gb10_10.out Dout_2_t_1.out
  have kt_1_1__141 := cell_other kt_1_1__114 Gb10_10.out Dout_2_t_1.out
  have kt_1_2__142 := cell_other kt_1_2__115 Gb10_10.out Dout_2_t_1.out
  have kt_1_3__143 := cell_other kt_1_3__116 Gb10_10.out Dout_2_t_1.out
  have kt_1_4__144 := cell_other kt_1_4__117 Gb10_10.out Dout_2_t_1.out
  have kt_1_5__145 := cell_other kt_1_5__118 Gb10_10.out Dout_2_t_1.out
  have kt_1_6__146 := cell_other kt_1_6__119 Gb10_10.out Dout_2_t_1.out
  have kt_1_7__147 := cell_other kt_1_7__120 Gb10_10.out Dout_2_t_1.out
  have kt_1_8__148 := cell_other kt_1_8__121 Gb10_10.out Dout_2_t_1.out
  replace Ot_1 := Lib.hid (own_other Ot_1.out Gb10_10.out Dout_2_t_1.out)
  clear Pb6_6 Gb10_10
  have kout_2_0__149 : wb10_10.cell? ⟨w_t_1.heap.size, 0, none⟩ = some (.int .i64 a_id) := Pb10_10.out.cells rfl 0 _ rfl
  have kout_2_1__150 : wb10_10.cell? ⟨w_t_1.heap.size, 1, none⟩ = some (.int .i64 a_day) := Pb10_10.out.cells rfl 1 _ rfl
  have kout_2_2__151 : wb10_10.cell? ⟨w_t_1.heap.size, 2, none⟩ = some (.int .i64 0) := Pb10_10.out.cells rfl 2 _ rfl
  have kout_2_3__152 : wb10_10.cell? ⟨w_t_1.heap.size, 3, none⟩ = some (.int .i64 0) := Pb10_10.out.cells rfl 3 _ rfl
  have kout_2_4__153 : wb10_10.cell? ⟨w_t_1.heap.size, 4, none⟩ = some (.int .i64 0) := Pb10_10.out.cells rfl 4 _ rfl
  have kout_2_5__154 : wb10_10.cell? ⟨w_t_1.heap.size, 5, none⟩ = some (.int .i64 0) := Pb10_10.out.cells rfl 5 _ rfl
  have kout_2_6__155 : wb10_10.cell? ⟨w_t_1.heap.size, 6, none⟩ = some (.int .i64 0) := Pb10_10.out.cells rfl 6 _ rfl
  have kout_2_7__156 : wb10_10.cell? ⟨w_t_1.heap.size, 7, none⟩ = some (.int .i64 0) := Pb10_10.out.cells rfl 7 _ rfl
  have kout_2_8__157 : wb10_10.cell? ⟨w_t_1.heap.size, 8, none⟩ = some (.int .i64 0) := Pb10_10.out.cells rfl 8 _ rfl
  obtain ⟨wb14_14, hwb14_14⟩ : ∃ x, (wb10_10).setCell ⟨w_t_1.heap.size, 2, none⟩ (.int .i64 a_zone) = x := ⟨_, rfl⟩
  have z0b14_14 := Pb10_10.out.frozenAt 2
  have Sb14_14 := Lib.hid (own_stores [(2, .int .i64 a_zone)] Pb10_10.out)
  have Pb14_14 : Hid (wb14_14.ownsRow w.heap.size 25 9 (.slice (some ⟨w_t_1.heap.size, 0, none⟩) 1 1) 1 [.int .i64 a_id, .int .i64 a_day, .int .i64 a_zone, .int .i64 0, .int .i64 0, .int .i64 0, .int .i64 0, .int .i64 0, .int .i64 0]) := Lib.hid (by rw [← hwb14_14]; exact Sb14_14.out.1)
  have Gb14_14 : Hid (wb10_10.grownBy wb14_14 (Value.slice (some ⟨w_t_1.heap.size, 0, none⟩) 1 1).ownBlock) := Lib.hid (by rw [← hwb14_14]; exact Sb14_14.out.2)
  have HBwb14_14 := Lib.hid (HBwb10_10.out.grown Gb14_14.out HBwb10_10.out.size (fun q hq => (Pb10_10.out.lt q hq).1))
  clear Sb14_14
  have ka_0_0__158 := cell_other ka_0_0__131 Gb14_14.out Dout_2_a_0.out
  have ka_0_1__159 := cell_other ka_0_1__132 Gb14_14.out Dout_2_a_0.out
  have ka_0_2__160 := cell_other ka_0_2__133 Gb14_14.out Dout_2_a_0.out
  have ka_0_3__161 := cell_other ka_0_3__134 Gb14_14.out Dout_2_a_0.out
  have ka_0_4__162 := cell_other ka_0_4__135 Gb14_14.out Dout_2_a_0.out
  have ka_0_5__163 := cell_other ka_0_5__136 Gb14_14.out Dout_2_a_0.out
  have ka_0_6__164 := cell_other ka_0_6__137 Gb14_14.out Dout_2_a_0.out
  have ka_0_7__165 := cell_other ka_0_7__138 Gb14_14.out Dout_2_a_0.out
  have ka_0_8__166 := cell_other ka_0_8__139 Gb14_14.out Dout_2_a_0.out
  have kt_1_0__167 := cell_other kt_1_0__140 Gb14_14.out Dout_2_t_1.out
  have kt_1_1__168 := cell_other kt_1_1__141 Gb14_14.out Dout_2_t_1.out
  have kt_1_2__169 := cell_other kt_1_2__142 Gb14_14.out Dout_2_t_1.out
  have kt_1_3__170 := cell_other kt_1_3__143 Gb14_14.out Dout_2_t_1.out
  have kt_1_4__171 := cell_other kt_1_4__144 Gb14_14.out Dout_2_t_1.out
  have kt_1_5__172 := cell_other kt_1_5__145 Gb14_14.out Dout_2_t_1.out
  have kt_1_6__173 := cell_other kt_1_6__146 Gb14_14.out Dout_2_t_1.out
  have kt_1_7__174 := cell_other kt_1_7__147 Gb14_14.out Dout_2_t_1.out
  have kt_1_8__175 := cell_other kt_1_8__148 Gb14_14.out Dout_2_t_1.out
  replace Ot_1 := Lib.hid (own_other Ot_1.out Gb14_14.out Dout_2_t_1.out)
  clear Pb10_10 Gb14_14
  have kout_2_0__176 : wb14_14.cell? ⟨w_t_1.heap.size, 0, none⟩ = some (.int .i64 a_id) := Pb14_14.out.cells rfl 0 _ rfl
  have kout_2_1__177 : wb14_14.cell? ⟨w_t_1.heap.size, 1, none⟩ = some (.int .i64 a_day) := Pb14_14.out.cells rfl 1 _ rfl
  have kout_2_2__178 : wb14_14.cell? ⟨w_t_1.heap.size, 2, none⟩ = some (.int .i64 a_zone) := Pb14_14.out.cells rfl 2 _ rfl
  have kout_2_3__179 : wb14_14.cell? ⟨w_t_1.heap.size, 3, none⟩ = some (.int .i64 0) := Pb14_14.out.cells rfl 3 _ rfl
  have kout_2_4__180 : wb14_14.cell? ⟨w_t_1.heap.size, 4, none⟩ = some (.int .i64 0) := Pb14_14.out.cells rfl 4 _ rfl
  have kout_2_5__181 : wb14_14.cell? ⟨w_t_1.heap.size, 5, none⟩ = some (.int .i64 0) := Pb14_14.out.cells rfl 5 _ rfl
  have kout_2_6__182 : wb14_14.cell? ⟨w_t_1.heap.size, 6, none⟩ = some (.int .i64 0) := Pb14_14.out.cells rfl 6 _ rfl
  have kout_2_7__183 : wb14_14.cell? ⟨w_t_1.heap.size, 7, none⟩ = some (.int .i64 0) := Pb14_14.out.cells rfl 7 _ rfl
  have kout_2_8__184 : wb14_14.cell? ⟨w_t_1.heap.size, 8, none⟩ = some (.int .i64 0) := Pb14_14.out.cells rfl 8 _ rfl
  obtain ⟨wb18_18, hwb18_18⟩ : ∃ x, (wb14_14).setCell ⟨w_t_1.heap.size, 3, none⟩ (.int .i64 a_grams) = x := ⟨_, rfl⟩
  have z0b18_18 := Pb14_14.out.frozenAt 3
  have Sb18_18 := Lib.hid (own_stores [(3, .int .i64 a_grams)] Pb14_14.out)
  have Pb18_18 : Hid (wb18_18.ownsRow w.heap.size 25 9 (.slice (some ⟨w_t_1.heap.size, 0, none⟩) 1 1) 1 [.int .i64 a_id, .int .i64 a_day, .int .i64 a_zone, .int .i64 a_grams, .int .i64 0, .int .i64 0, .int .i64 0, .int .i64 0, .int .i64 0]) := Lib.hid (by rw [← hwb18_18]; exact Sb18_18.out.1)
  have Gb18_18 : Hid (wb14_14.grownBy wb18_18 (Value.slice (some ⟨w_t_1.heap.size, 0, none⟩) 1 1).ownBlock) := Lib.hid (by rw [← hwb18_18]; exact Sb18_18.out.2)
  have HBwb18_18 := Lib.hid (HBwb14_14.out.grown Gb18_18.out HBwb14_14.out.size (fun q hq => (Pb14_14.out.lt q hq).1))
  clear Sb18_18
  have ka_0_0__185 := cell_other ka_0_0__158 Gb18_18.out Dout_2_a_0.out
  have ka_0_1__186 := cell_other ka_0_1__159 Gb18_18.out Dout_2_a_0.out
  have ka_0_2__187 := cell_other ka_0_2__160 Gb18_18.out Dout_2_a_0.out
  have ka_0_3__188 := cell_other ka_0_3__161 Gb18_18.out Dout_2_a_0.out
  have ka_0_4__189 := cell_other ka_0_4__162 Gb18_18.out Dout_2_a_0.out
  have ka_0_5__190 := cell_other ka_0_5__163 Gb18_18.out Dout_2_a_0.out
  have ka_0_6__191 := cell_other ka_0_6__164 Gb18_18.out Dout_2_a_0.out
  have ka_0_7__192 := cell_other ka_0_7__165 Gb18_18.out Dout_2_a_0.out
  have ka_0_8__193 := cell_other ka_0_8__166 Gb18_18.out Dout_2_a_0.out
  have kt_1_0__194 := cell_other kt_1_0__167 Gb18_18.out Dout_2_t_1.out
  have kt_1_1__195 := cell_other kt_1_1__168 Gb18_18.out Dout_2_t_1.out
  have kt_1_2__196 := cell_other kt_1_2__169 Gb18_18.out Dout_2_t_1.out
  have kt_1_3__197 := cell_other kt_1_3__170 Gb18_18.out Dout_2_t_1.out
  have kt_1_4__198 := cell_other kt_1_4__171 Gb18_18.out Dout_2_t_1.out
  have kt_1_5__199 := cell_other kt_1_5__172 Gb18_18.out Dout_2_t_1.out
  have kt_1_6__200 := cell_other kt_1_6__173 Gb18_18.out Dout_2_t_1.out
  have kt_1_7__201 := cell_other kt_1_7__174 Gb18_18.out Dout_2_t_1.out
  have kt_1_8__202 := cell_other kt_1_8__175 Gb18_18.out Dout_2_t_1.out
  replace Ot_1 := Lib.hid (own_other Ot_1.out Gb18_18.out Dout_2_t_1.out)
  clear Pb14_14 Gb18_18
  have kout_2_0__203 : wb18_18.cell? ⟨w_t_1.heap.size, 0, none⟩ = some (.int .i64 a_id) := Pb18_18.out.cells rfl 0 _ rfl
  have kout_2_1__204 : wb18_18.cell? ⟨w_t_1.heap.size, 1, none⟩ = some (.int .i64 a_day) := Pb18_18.out.cells rfl 1 _ rfl
  have kout_2_2__205 : wb18_18.cell? ⟨w_t_1.heap.size, 2, none⟩ = some (.int .i64 a_zone) := Pb18_18.out.cells rfl 2 _ rfl
  have kout_2_3__206 : wb18_18.cell? ⟨w_t_1.heap.size, 3, none⟩ = some (.int .i64 a_grams) := Pb18_18.out.cells rfl 3 _ rfl
  have kout_2_4__207 : wb18_18.cell? ⟨w_t_1.heap.size, 4, none⟩ = some (.int .i64 0) := Pb18_18.out.cells rfl 4 _ rfl
  have kout_2_5__208 : wb18_18.cell? ⟨w_t_1.heap.size, 5, none⟩ = some (.int .i64 0) := Pb18_18.out.cells rfl 5 _ rfl
  have kout_2_6__209 : wb18_18.cell? ⟨w_t_1.heap.size, 6, none⟩ = some (.int .i64 0) := Pb18_18.out.cells rfl 6 _ rfl
  have kout_2_7__210 : wb18_18.cell? ⟨w_t_1.heap.size, 7, none⟩ = some (.int .i64 0) := Pb18_18.out.cells rfl 7 _ rfl
  have kout_2_8__211 : wb18_18.cell? ⟨w_t_1.heap.size, 8, none⟩ = some (.int .i64 0) := Pb18_18.out.cells rfl 8 _ rfl
  obtain ⟨wb22_22, hwb22_22⟩ : ∃ x, (wb18_18).setCell ⟨w_t_1.heap.size, 4, none⟩ (.int .i64 a_paid) = x := ⟨_, rfl⟩
  have z0b22_22 := Pb18_18.out.frozenAt 4
  have Sb22_22 := Lib.hid (own_stores [(4, .int .i64 a_paid)] Pb18_18.out)
  have Pb22_22 : Hid (wb22_22.ownsRow w.heap.size 25 9 (.slice (some ⟨w_t_1.heap.size, 0, none⟩) 1 1) 1 [.int .i64 a_id, .int .i64 a_day, .int .i64 a_zone, .int .i64 a_grams, .int .i64 a_paid, .int .i64 0, .int .i64 0, .int .i64 0, .int .i64 0]) := Lib.hid (by rw [← hwb22_22]; exact Sb22_22.out.1)
  have Gb22_22 : Hid (wb18_18.grownBy wb22_22 (Value.slice (some ⟨w_t_1.heap.size, 0, none⟩) 1 1).ownBlock) := Lib.hid (by rw [← hwb22_22]; exact Sb22_22.out.2)
  have HBwb22_22 := Lib.hid (HBwb18_18.out.grown Gb22_22.out HBwb18_18.out.size (fun q hq => (Pb18_18.out.lt q hq).1))
  clear Sb22_22
  have ka_0_0__212 := cell_other ka_0_0__185 Gb22_22.out Dout_2_a_0.out
  have ka_0_1__213 := cell_other ka_0_1__186 Gb22_22.out Dout_2_a_0.out
  have ka_0_2__214 := cell_other ka_0_2__187 Gb22_22.out Dout_2_a_0.out
  have ka_0_3__215 := cell_other ka_0_3__188 Gb22_22.out Dout_2_a_0.out
  have ka_0_4__216 := cell_other ka_0_4__189 Gb22_22.out Dout_2_a_0.out
  have ka_0_5__217 := cell_other ka_0_5__190 Gb22_22.out Dout_2_a_0.out
  have ka_0_6__218 := cell_other ka_0_6__191 Gb22_22.out Dout_2_a_0.out
  have ka_0_7__219 := cell_other ka_0_7__192 Gb22_22.out Dout_2_a_0.out
  have ka_0_8__220 := cell_other ka_0_8__193 Gb22_22.out Dout_2_a_0.out
  have kt_1_0__221 := cell_other kt_1_0__194 Gb22_22.out Dout_2_t_1.out
  have kt_1_1__222 := cell_other kt_1_1__195 Gb22_22.out Dout_2_t_1.out
  have kt_1_2__223 := cell_other kt_1_2__196 Gb22_22.out Dout_2_t_1.out
  have kt_1_3__224 := cell_other kt_1_3__197 Gb22_22.out Dout_2_t_1.out
  have kt_1_4__225 := cell_other kt_1_4__198 Gb22_22.out Dout_2_t_1.out
  have kt_1_5__226 := cell_other kt_1_5__199 Gb22_22.out Dout_2_t_1.out
  have kt_1_6__227 := cell_other kt_1_6__200 Gb22_22.out Dout_2_t_1.out
  have kt_1_7__228 := cell_other kt_1_7__201 Gb22_22.out Dout_2_t_1.out
  have kt_1_8__229 := cell_other kt_1_8__202 Gb22_22.out Dout_2_t_1.out
  replace Ot_1 := Lib.hid (own_other Ot_1.out Gb22_22.out Dout_2_t_1.out)
  clear Pb18_18 Gb22_22
  have kout_2_0__230 : wb22_22.cell? ⟨w_t_1.heap.size, 0, none⟩ = some (.int .i64 a_id) := Pb22_22.out.cells rfl 0 _ rfl
  have kout_2_1__231 : wb22_22.cell? ⟨w_t_1.heap.size, 1, none⟩ = some (.int .i64 a_day) := Pb22_22.out.cells rfl 1 _ rfl
  have kout_2_2__232 : wb22_22.cell? ⟨w_t_1.heap.size, 2, none⟩ = some (.int .i64 a_zone) := Pb22_22.out.cells rfl 2 _ rfl
  have kout_2_3__233 : wb22_22.cell? ⟨w_t_1.heap.size, 3, none⟩ = some (.int .i64 a_grams) := Pb22_22.out.cells rfl 3 _ rfl
  have kout_2_4__234 : wb22_22.cell? ⟨w_t_1.heap.size, 4, none⟩ = some (.int .i64 a_paid) := Pb22_22.out.cells rfl 4 _ rfl
  have kout_2_5__235 : wb22_22.cell? ⟨w_t_1.heap.size, 5, none⟩ = some (.int .i64 0) := Pb22_22.out.cells rfl 5 _ rfl
  have kout_2_6__236 : wb22_22.cell? ⟨w_t_1.heap.size, 6, none⟩ = some (.int .i64 0) := Pb22_22.out.cells rfl 6 _ rfl
  have kout_2_7__237 : wb22_22.cell? ⟨w_t_1.heap.size, 7, none⟩ = some (.int .i64 0) := Pb22_22.out.cells rfl 7 _ rfl
  have kout_2_8__238 : wb22_22.cell? ⟨w_t_1.heap.size, 8, none⟩ = some (.int .i64 0) := Pb22_22.out.cells rfl 8 _ rfl
  obtain ⟨wb26_26, hwb26_26⟩ : ∃ x, (wb22_22).setCell ⟨w_t_1.heap.size, 5, none⟩ (.int .i64 a_from_) = x := ⟨_, rfl⟩
  have z0b26_26 := Pb22_22.out.frozenAt 5
  have Sb26_26 := Lib.hid (own_stores [(5, .int .i64 a_from_)] Pb22_22.out)
  have Pb26_26 : Hid (wb26_26.ownsRow w.heap.size 25 9 (.slice (some ⟨w_t_1.heap.size, 0, none⟩) 1 1) 1 [.int .i64 a_id, .int .i64 a_day, .int .i64 a_zone, .int .i64 a_grams, .int .i64 a_paid, .int .i64 a_from_, .int .i64 0, .int .i64 0, .int .i64 0]) := Lib.hid (by rw [← hwb26_26]; exact Sb26_26.out.1)
  have Gb26_26 : Hid (wb22_22.grownBy wb26_26 (Value.slice (some ⟨w_t_1.heap.size, 0, none⟩) 1 1).ownBlock) := Lib.hid (by rw [← hwb26_26]; exact Sb26_26.out.2)
  have HBwb26_26 := Lib.hid (HBwb22_22.out.grown Gb26_26.out HBwb22_22.out.size (fun q hq => (Pb22_22.out.lt q hq).1))
  clear Sb26_26
  have ka_0_0__239 := cell_other ka_0_0__212 Gb26_26.out Dout_2_a_0.out
  have ka_0_1__240 := cell_other ka_0_1__213 Gb26_26.out Dout_2_a_0.out
  have ka_0_2__241 := cell_other ka_0_2__214 Gb26_26.out Dout_2_a_0.out
  have ka_0_3__242 := cell_other ka_0_3__215 Gb26_26.out Dout_2_a_0.out
  have ka_0_4__243 := cell_other ka_0_4__216 Gb26_26.out Dout_2_a_0.out
  have ka_0_5__244 := cell_other ka_0_5__217 Gb26_26.out Dout_2_a_0.out
  have ka_0_6__245 := cell_other ka_0_6__218 Gb26_26.out Dout_2_a_0.out
  have ka_0_7__246 := cell_other ka_0_7__219 Gb26_26.out Dout_2_a_0.out
  have ka_0_8__247 := cell_other ka_0_8__220 Gb26_26.out Dout_2_a_0.out
  have kt_1_0__248 := cell_other kt_1_0__221 Gb26_26.out Dout_2_t_1.out
  have kt_1_1__249 := cell_other kt_1_1__222 Gb26_26.out Dout_2_t_1.out
  have kt_1_2__250 := cell_other kt_1_2__223 Gb26_26.out Dout_2_t_1.out
  have kt_1_3__251 := cell_other kt_1_3__224 Gb26_26.out Dout_2_t_1.out
  have kt_1_4__252 := cell_other kt_1_4__225 Gb26_26.out Dout_2_t_1.out
  have kt_1_5__253 := cell_other kt_1_5__226 Gb26_26.out Dout_2_t_1.out
  have kt_1_6__254 := cell_other kt_1_6__227 Gb26_26.out Dout_2_t_1.out
  have kt_1_7__255 := cell_other kt_1_7__228 Gb26_26.out Dout_2_t_1.out
  have kt_1_8__256 := cell_other kt_1_8__229 Gb26_26.out Dout_2_t_1.out
  replace Ot_1 := Lib.hid (own_other Ot_1.out Gb26_26.out Dout_2_t_1.out)
  clear Pb22_22 Gb26_26
  have kout_2_0__257 : wb26_26.cell? ⟨w_t_1.heap.size, 0, none⟩ = some (.int .i64 a_id) := Pb26_26.out.cells rfl 0 _ rfl
  have kout_2_1__258 : wb26_26.cell? ⟨w_t_1.heap.size, 1, none⟩ = some (.int .i64 a_day) := Pb26_26.out.cells rfl 1 _ rfl
  have kout_2_2__259 : wb26_26.cell? ⟨w_t_1.heap.size, 2, none⟩ = some (.int .i64 a_zone) := Pb26_26.out.cells rfl 2 _ rfl
  have kout_2_3__260 : wb26_26.cell? ⟨w_t_1.heap.size, 3, none⟩ = some (.int .i64 a_grams) := Pb26_26.out.cells rfl 3 _ rfl
  have kout_2_4__261 : wb26_26.cell? ⟨w_t_1.heap.size, 4, none⟩ = some (.int .i64 a_paid) := Pb26_26.out.cells rfl 4 _ rfl
  have kout_2_5__262 : wb26_26.cell? ⟨w_t_1.heap.size, 5, none⟩ = some (.int .i64 a_from_) := Pb26_26.out.cells rfl 5 _ rfl
  have kout_2_6__263 : wb26_26.cell? ⟨w_t_1.heap.size, 6, none⟩ = some (.int .i64 0) := Pb26_26.out.cells rfl 6 _ rfl
  have kout_2_7__264 : wb26_26.cell? ⟨w_t_1.heap.size, 7, none⟩ = some (.int .i64 0) := Pb26_26.out.cells rfl 7 _ rfl
  have kout_2_8__265 : wb26_26.cell? ⟨w_t_1.heap.size, 8, none⟩ = some (.int .i64 0) := Pb26_26.out.cells rfl 8 _ rfl
  obtain ⟨wb30_30, hwb30_30⟩ : ∃ x, (wb26_26).setCell ⟨w_t_1.heap.size, 6, none⟩ (.int .i64 a_to_) = x := ⟨_, rfl⟩
  have z0b30_30 := Pb26_26.out.frozenAt 6
  have Sb30_30 := Lib.hid (own_stores [(6, .int .i64 a_to_)] Pb26_26.out)
  have Pb30_30 : Hid (wb30_30.ownsRow w.heap.size 25 9 (.slice (some ⟨w_t_1.heap.size, 0, none⟩) 1 1) 1 [.int .i64 a_id, .int .i64 a_day, .int .i64 a_zone, .int .i64 a_grams, .int .i64 a_paid, .int .i64 a_from_, .int .i64 a_to_, .int .i64 0, .int .i64 0]) := Lib.hid (by rw [← hwb30_30]; exact Sb30_30.out.1)
  have Gb30_30 : Hid (wb26_26.grownBy wb30_30 (Value.slice (some ⟨w_t_1.heap.size, 0, none⟩) 1 1).ownBlock) := Lib.hid (by rw [← hwb30_30]; exact Sb30_30.out.2)
  have HBwb30_30 := Lib.hid (HBwb26_26.out.grown Gb30_30.out HBwb26_26.out.size (fun q hq => (Pb26_26.out.lt q hq).1))
  clear Sb30_30
  have ka_0_0__266 := cell_other ka_0_0__239 Gb30_30.out Dout_2_a_0.out
  have ka_0_1__267 := cell_other ka_0_1__240 Gb30_30.out Dout_2_a_0.out
  have ka_0_2__268 := cell_other ka_0_2__241 Gb30_30.out Dout_2_a_0.out
  have ka_0_3__269 := cell_other ka_0_3__242 Gb30_30.out Dout_2_a_0.out
  have ka_0_4__270 := cell_other ka_0_4__243 Gb30_30.out Dout_2_a_0.out
  have ka_0_5__271 := cell_other ka_0_5__244 Gb30_30.out Dout_2_a_0.out
  have ka_0_6__272 := cell_other ka_0_6__245 Gb30_30.out Dout_2_a_0.out
  have ka_0_7__273 := cell_other ka_0_7__246 Gb30_30.out Dout_2_a_0.out
  have ka_0_8__274 := cell_other ka_0_8__247 Gb30_30.out Dout_2_a_0.out
  have kt_1_0__275 := cell_other kt_1_0__248 Gb30_30.out Dout_2_t_1.out
  have kt_1_1__276 := cell_other kt_1_1__249 Gb30_30.out Dout_2_t_1.out
  have kt_1_2__277 := cell_other kt_1_2__250 Gb30_30.out Dout_2_t_1.out
  have kt_1_3__278 := cell_other kt_1_3__251 Gb30_30.out Dout_2_t_1.out
  have kt_1_4__279 := cell_other kt_1_4__252 Gb30_30.out Dout_2_t_1.out
  have kt_1_5__280 := cell_other kt_1_5__253 Gb30_30.out Dout_2_t_1.out
  have kt_1_6__281 := cell_other kt_1_6__254 Gb30_30.out Dout_2_t_1.out
  have kt_1_7__282 := cell_other kt_1_7__255 Gb30_30.out Dout_2_t_1.out
  have kt_1_8__283 := cell_other kt_1_8__256 Gb30_30.out Dout_2_t_1.out
  replace Ot_1 := Lib.hid (own_other Ot_1.out Gb30_30.out Dout_2_t_1.out)
  clear Pb26_26 Gb30_30
  have kout_2_0__284 : wb30_30.cell? ⟨w_t_1.heap.size, 0, none⟩ = some (.int .i64 a_id) := Pb30_30.out.cells rfl 0 _ rfl
  have kout_2_1__285 : wb30_30.cell? ⟨w_t_1.heap.size, 1, none⟩ = some (.int .i64 a_day) := Pb30_30.out.cells rfl 1 _ rfl
  have kout_2_2__286 : wb30_30.cell? ⟨w_t_1.heap.size, 2, none⟩ = some (.int .i64 a_zone) := Pb30_30.out.cells rfl 2 _ rfl
  have kout_2_3__287 : wb30_30.cell? ⟨w_t_1.heap.size, 3, none⟩ = some (.int .i64 a_grams) := Pb30_30.out.cells rfl 3 _ rfl
  have kout_2_4__288 : wb30_30.cell? ⟨w_t_1.heap.size, 4, none⟩ = some (.int .i64 a_paid) := Pb30_30.out.cells rfl 4 _ rfl
  have kout_2_5__289 : wb30_30.cell? ⟨w_t_1.heap.size, 5, none⟩ = some (.int .i64 a_from_) := Pb30_30.out.cells rfl 5 _ rfl
  have kout_2_6__290 : wb30_30.cell? ⟨w_t_1.heap.size, 6, none⟩ = some (.int .i64 a_to_) := Pb30_30.out.cells rfl 6 _ rfl
  have kout_2_7__291 : wb30_30.cell? ⟨w_t_1.heap.size, 7, none⟩ = some (.int .i64 0) := Pb30_30.out.cells rfl 7 _ rfl
  have kout_2_8__292 : wb30_30.cell? ⟨w_t_1.heap.size, 8, none⟩ = some (.int .i64 0) := Pb30_30.out.cells rfl 8 _ rfl
  obtain ⟨wb34_34, hwb34_34⟩ : ∃ x, (wb30_30).setCell ⟨w_t_1.heap.size, 7, none⟩ (.int .i64 a_leave) = x := ⟨_, rfl⟩
  have z0b34_34 := Pb30_30.out.frozenAt 7
  have Sb34_34 := Lib.hid (own_stores [(7, .int .i64 a_leave)] Pb30_30.out)
  have Pb34_34 : Hid (wb34_34.ownsRow w.heap.size 25 9 (.slice (some ⟨w_t_1.heap.size, 0, none⟩) 1 1) 1 [.int .i64 a_id, .int .i64 a_day, .int .i64 a_zone, .int .i64 a_grams, .int .i64 a_paid, .int .i64 a_from_, .int .i64 a_to_, .int .i64 a_leave, .int .i64 0]) := Lib.hid (by rw [← hwb34_34]; exact Sb34_34.out.1)
  have Gb34_34 : Hid (wb30_30.grownBy wb34_34 (Value.slice (some ⟨w_t_1.heap.size, 0, none⟩) 1 1).ownBlock) := Lib.hid (by rw [← hwb34_34]; exact Sb34_34.out.2)
  have HBwb34_34 := Lib.hid (HBwb30_30.out.grown Gb34_34.out HBwb30_30.out.size (fun q hq => (Pb30_30.out.lt q hq).1))
  clear Sb34_34
  have ka_0_0__293 := cell_other ka_0_0__266 Gb34_34.out Dout_2_a_0.out
  have ka_0_1__294 := cell_other ka_0_1__267 Gb34_34.out Dout_2_a_0.out
  have ka_0_2__295 := cell_other ka_0_2__268 Gb34_34.out Dout_2_a_0.out
  have ka_0_3__296 := cell_other ka_0_3__269 Gb34_34.out Dout_2_a_0.out
  have ka_0_4__297 := cell_other ka_0_4__270 Gb34_34.out Dout_2_a_0.out
  have ka_0_5__298 := cell_other ka_0_5__271 Gb34_34.out Dout_2_a_0.out
  have ka_0_6__299 := cell_other ka_0_6__272 Gb34_34.out Dout_2_a_0.out
  have ka_0_7__300 := cell_other ka_0_7__273 Gb34_34.out Dout_2_a_0.out
  have ka_0_8__301 := cell_other ka_0_8__274 Gb34_34.out Dout_2_a_0.out
  have kt_1_0__302 := cell_other kt_1_0__275 Gb34_34.out Dout_2_t_1.out
  have kt_1_1__303 := cell_other kt_1_1__276 Gb34_34.out Dout_2_t_1.out
  have kt_1_2__304 := cell_other kt_1_2__277 Gb34_34.out Dout_2_t_1.out
  have kt_1_3__305 := cell_other kt_1_3__278 Gb34_34.out Dout_2_t_1.out
  have kt_1_4__306 := cell_other kt_1_4__279 Gb34_34.out Dout_2_t_1.out
  have kt_1_5__307 := cell_other kt_1_5__280 Gb34_34.out Dout_2_t_1.out
  have kt_1_6__308 := cell_other kt_1_6__281 Gb34_34.out Dout_2_t_1.out
  have kt_1_7__309 := cell_other kt_1_7__282 Gb34_34.out Dout_2_t_1.out
  have kt_1_8__310 := cell_other kt_1_8__283 Gb34_34.out Dout_2_t_1.out
  replace Ot_1 := Lib.hid (own_other Ot_1.out Gb34_34.out Dout_2_t_1.out)
  clear Pb30_30 Gb34_34
  have kout_2_0__311 : wb34_34.cell? ⟨w_t_1.heap.size, 0, none⟩ = some (.int .i64 a_id) := Pb34_34.out.cells rfl 0 _ rfl
  have kout_2_1__312 : wb34_34.cell? ⟨w_t_1.heap.size, 1, none⟩ = some (.int .i64 a_day) := Pb34_34.out.cells rfl 1 _ rfl
  have kout_2_2__313 : wb34_34.cell? ⟨w_t_1.heap.size, 2, none⟩ = some (.int .i64 a_zone) := Pb34_34.out.cells rfl 2 _ rfl
  have kout_2_3__314 : wb34_34.cell? ⟨w_t_1.heap.size, 3, none⟩ = some (.int .i64 a_grams) := Pb34_34.out.cells rfl 3 _ rfl
  have kout_2_4__315 : wb34_34.cell? ⟨w_t_1.heap.size, 4, none⟩ = some (.int .i64 a_paid) := Pb34_34.out.cells rfl 4 _ rfl
  have kout_2_5__316 : wb34_34.cell? ⟨w_t_1.heap.size, 5, none⟩ = some (.int .i64 a_from_) := Pb34_34.out.cells rfl 5 _ rfl
  have kout_2_6__317 : wb34_34.cell? ⟨w_t_1.heap.size, 6, none⟩ = some (.int .i64 a_to_) := Pb34_34.out.cells rfl 6 _ rfl
  have kout_2_7__318 : wb34_34.cell? ⟨w_t_1.heap.size, 7, none⟩ = some (.int .i64 a_leave) := Pb34_34.out.cells rfl 7 _ rfl
  have kout_2_8__319 : wb34_34.cell? ⟨w_t_1.heap.size, 8, none⟩ = some (.int .i64 0) := Pb34_34.out.cells rfl 8 _ rfl
  obtain ⟨wb38_38, hwb38_38⟩ : ∃ x, (wb34_34).setCell ⟨w_t_1.heap.size, 8, none⟩ (.int .i64 a_arrive) = x := ⟨_, rfl⟩
  have z0b38_38 := Pb34_34.out.frozenAt 8
  have Sb38_38 := Lib.hid (own_stores [(8, .int .i64 a_arrive)] Pb34_34.out)
  have Pb38_38 : Hid (wb38_38.ownsRow w.heap.size 25 9 (.slice (some ⟨w_t_1.heap.size, 0, none⟩) 1 1) 1 [.int .i64 a_id, .int .i64 a_day, .int .i64 a_zone, .int .i64 a_grams, .int .i64 a_paid, .int .i64 a_from_, .int .i64 a_to_, .int .i64 a_leave, .int .i64 a_arrive]) := Lib.hid (by rw [← hwb38_38]; exact Sb38_38.out.1)
  have Gb38_38 : Hid (wb34_34.grownBy wb38_38 (Value.slice (some ⟨w_t_1.heap.size, 0, none⟩) 1 1).ownBlock) := Lib.hid (by rw [← hwb38_38]; exact Sb38_38.out.2)
  have HBwb38_38 := Lib.hid (HBwb34_34.out.grown Gb38_38.out HBwb34_34.out.size (fun q hq => (Pb34_34.out.lt q hq).1))
  clear Sb38_38
  have ka_0_0__320 := cell_other ka_0_0__293 Gb38_38.out Dout_2_a_0.out
  have ka_0_1__321 := cell_other ka_0_1__294 Gb38_38.out Dout_2_a_0.out
  have ka_0_2__322 := cell_other ka_0_2__295 Gb38_38.out Dout_2_a_0.out
  have ka_0_3__323 := cell_other ka_0_3__296 Gb38_38.out Dout_2_a_0.out
  have ka_0_4__324 := cell_other ka_0_4__297 Gb38_38.out Dout_2_a_0.out
  have ka_0_5__325 := cell_other ka_0_5__298 Gb38_38.out Dout_2_a_0.out
  have ka_0_6__326 := cell_other ka_0_6__299 Gb38_38.out Dout_2_a_0.out
  have ka_0_7__327 := cell_other ka_0_7__300 Gb38_38.out Dout_2_a_0.out
  have ka_0_8__328 := cell_other ka_0_8__301 Gb38_38.out Dout_2_a_0.out
  have kt_1_0__329 := cell_other kt_1_0__302 Gb38_38.out Dout_2_t_1.out
  have kt_1_1__330 := cell_other kt_1_1__303 Gb38_38.out Dout_2_t_1.out
  have kt_1_2__331 := cell_other kt_1_2__304 Gb38_38.out Dout_2_t_1.out
  have kt_1_3__332 := cell_other kt_1_3__305 Gb38_38.out Dout_2_t_1.out
  have kt_1_4__333 := cell_other kt_1_4__306 Gb38_38.out Dout_2_t_1.out
  have kt_1_5__334 := cell_other kt_1_5__307 Gb38_38.out Dout_2_t_1.out
  have kt_1_6__335 := cell_other kt_1_6__308 Gb38_38.out Dout_2_t_1.out
  have kt_1_7__336 := cell_other kt_1_7__309 Gb38_38.out Dout_2_t_1.out
  have kt_1_8__337 := cell_other kt_1_8__310 Gb38_38.out Dout_2_t_1.out
  replace Ot_1 := Lib.hid (own_other Ot_1.out Gb38_38.out Dout_2_t_1.out)
  clear Pb34_34 Gb38_38
  have kout_2_0__338 : wb38_38.cell? ⟨w_t_1.heap.size, 0, none⟩ = some (.int .i64 a_id) := Pb38_38.out.cells rfl 0 _ rfl
  have kout_2_1__339 : wb38_38.cell? ⟨w_t_1.heap.size, 1, none⟩ = some (.int .i64 a_day) := Pb38_38.out.cells rfl 1 _ rfl
  have kout_2_2__340 : wb38_38.cell? ⟨w_t_1.heap.size, 2, none⟩ = some (.int .i64 a_zone) := Pb38_38.out.cells rfl 2 _ rfl
  have kout_2_3__341 : wb38_38.cell? ⟨w_t_1.heap.size, 3, none⟩ = some (.int .i64 a_grams) := Pb38_38.out.cells rfl 3 _ rfl
  have kout_2_4__342 : wb38_38.cell? ⟨w_t_1.heap.size, 4, none⟩ = some (.int .i64 a_paid) := Pb38_38.out.cells rfl 4 _ rfl
  have kout_2_5__343 : wb38_38.cell? ⟨w_t_1.heap.size, 5, none⟩ = some (.int .i64 a_from_) := Pb38_38.out.cells rfl 5 _ rfl
  have kout_2_6__344 : wb38_38.cell? ⟨w_t_1.heap.size, 6, none⟩ = some (.int .i64 a_to_) := Pb38_38.out.cells rfl 6 _ rfl
  have kout_2_7__345 : wb38_38.cell? ⟨w_t_1.heap.size, 7, none⟩ = some (.int .i64 a_leave) := Pb38_38.out.cells rfl 7 _ rfl
  have kout_2_8__346 : wb38_38.cell? ⟨w_t_1.heap.size, 8, none⟩ = some (.int .i64 a_arrive) := Pb38_38.out.cells rfl 8 _ rfl
  obtain ⟨wb40_40, hwb40_40⟩ : ∃ x, (((((((((wb38_38).setCell ⟨w_a_0.heap.size, 0, none⟩ (.int .i64 a_id)).setCell ⟨w_a_0.heap.size, 1, none⟩ (.int .i64 a_day)).setCell ⟨w_a_0.heap.size, 2, none⟩ (.int .i64 a_zone)).setCell ⟨w_a_0.heap.size, 3, none⟩ (.int .i64 a_grams)).setCell ⟨w_a_0.heap.size, 4, none⟩ (.int .i64 a_paid)).setCell ⟨w_a_0.heap.size, 5, none⟩ (.int .i64 a_from_)).setCell ⟨w_a_0.heap.size, 6, none⟩ (.int .i64 a_to_)).setCell ⟨w_a_0.heap.size, 7, none⟩ (.int .i64 a_leave)).setCell ⟨w_a_0.heap.size, 8, none⟩ (.int .i64 a_arrive) = x := ⟨_, rfl⟩
  have z0b40_40 := Ot_1.out.frozenAt 0
  have z1b40_40 := Ot_1.out.frozenAt 1
  have z2b40_40 := Ot_1.out.frozenAt 2
  have z3b40_40 := Ot_1.out.frozenAt 3
  have z4b40_40 := Ot_1.out.frozenAt 4
  have z5b40_40 := Ot_1.out.frozenAt 5
  have z6b40_40 := Ot_1.out.frozenAt 6
  have z7b40_40 := Ot_1.out.frozenAt 7
  have z8b40_40 := Ot_1.out.frozenAt 8
  have Sb40_40 := Lib.hid (own_stores [(0, .int .i64 a_id), (1, .int .i64 a_day), (2, .int .i64 a_zone), (3, .int .i64 a_grams), (4, .int .i64 a_paid), (5, .int .i64 a_from_), (6, .int .i64 a_to_), (7, .int .i64 a_leave), (8, .int .i64 a_arrive)] Ot_1.out)
  have Pb40_40 : Hid (wb40_40.ownsRow w.heap.size 25 9 (.slice (some ⟨w_a_0.heap.size, 0, none⟩) 1 1) 1 [.int .i64 a_id, .int .i64 a_day, .int .i64 a_zone, .int .i64 a_grams, .int .i64 a_paid, .int .i64 a_from_, .int .i64 a_to_, .int .i64 a_leave, .int .i64 a_arrive]) := Lib.hid (by rw [← hwb40_40]; exact Sb40_40.out.1)
  have Gb40_40 : Hid (wb38_38.grownBy wb40_40 (Value.slice (some ⟨w_a_0.heap.size, 0, none⟩) 1 1).ownBlock) := Lib.hid (by rw [← hwb40_40]; exact Sb40_40.out.2)
  have HBwb40_40 := Lib.hid (HBwb38_38.out.grown Gb40_40.out HBwb38_38.out.size (fun q hq => (Ot_1.out.lt q hq).1))
  clear Sb40_40
  have ka_0_0__347 := cell_other ka_0_0__320 Gb40_40.out Dt_1_a_0.out
  have ka_0_1__348 := cell_other ka_0_1__321 Gb40_40.out Dt_1_a_0.out
  have ka_0_2__349 := cell_other ka_0_2__322 Gb40_40.out Dt_1_a_0.out
  have ka_0_3__350 := cell_other ka_0_3__323 Gb40_40.out Dt_1_a_0.out
  have ka_0_4__351 := cell_other ka_0_4__324 Gb40_40.out Dt_1_a_0.out
  have ka_0_5__352 := cell_other ka_0_5__325 Gb40_40.out Dt_1_a_0.out
  have ka_0_6__353 := cell_other ka_0_6__326 Gb40_40.out Dt_1_a_0.out
  have ka_0_7__354 := cell_other ka_0_7__327 Gb40_40.out Dt_1_a_0.out
  have ka_0_8__355 := cell_other ka_0_8__328 Gb40_40.out Dt_1_a_0.out
  have kout_2_0__356 := cell_other kout_2_0__338 Gb40_40.out (Apart.symm Dout_2_t_1.out)
  have kout_2_1__357 := cell_other kout_2_1__339 Gb40_40.out (Apart.symm Dout_2_t_1.out)
  have kout_2_2__358 := cell_other kout_2_2__340 Gb40_40.out (Apart.symm Dout_2_t_1.out)
  have kout_2_3__359 := cell_other kout_2_3__341 Gb40_40.out (Apart.symm Dout_2_t_1.out)
  have kout_2_4__360 := cell_other kout_2_4__342 Gb40_40.out (Apart.symm Dout_2_t_1.out)
  have kout_2_5__361 := cell_other kout_2_5__343 Gb40_40.out (Apart.symm Dout_2_t_1.out)
  have kout_2_6__362 := cell_other kout_2_6__344 Gb40_40.out (Apart.symm Dout_2_t_1.out)
  have kout_2_7__363 := cell_other kout_2_7__345 Gb40_40.out (Apart.symm Dout_2_t_1.out)
  have kout_2_8__364 := cell_other kout_2_8__346 Gb40_40.out (Apart.symm Dout_2_t_1.out)
  replace Pb38_38 := Lib.hid (own_other Pb38_38.out Gb40_40.out (Apart.symm Dout_2_t_1.out))
  clear Ot_1 Gb40_40
  have kt_1_0__365 : wb40_40.cell? ⟨w_a_0.heap.size, 0, none⟩ = some (.int .i64 a_id) := Pb40_40.out.cells rfl 0 _ rfl
  have kt_1_1__366 : wb40_40.cell? ⟨w_a_0.heap.size, 1, none⟩ = some (.int .i64 a_day) := Pb40_40.out.cells rfl 1 _ rfl
  have kt_1_2__367 : wb40_40.cell? ⟨w_a_0.heap.size, 2, none⟩ = some (.int .i64 a_zone) := Pb40_40.out.cells rfl 2 _ rfl
  have kt_1_3__368 : wb40_40.cell? ⟨w_a_0.heap.size, 3, none⟩ = some (.int .i64 a_grams) := Pb40_40.out.cells rfl 3 _ rfl
  have kt_1_4__369 : wb40_40.cell? ⟨w_a_0.heap.size, 4, none⟩ = some (.int .i64 a_paid) := Pb40_40.out.cells rfl 4 _ rfl
  have kt_1_5__370 : wb40_40.cell? ⟨w_a_0.heap.size, 5, none⟩ = some (.int .i64 a_from_) := Pb40_40.out.cells rfl 5 _ rfl
  have kt_1_6__371 : wb40_40.cell? ⟨w_a_0.heap.size, 6, none⟩ = some (.int .i64 a_to_) := Pb40_40.out.cells rfl 6 _ rfl
  have kt_1_7__372 : wb40_40.cell? ⟨w_a_0.heap.size, 7, none⟩ = some (.int .i64 a_leave) := Pb40_40.out.cells rfl 7 _ rfl
  have kt_1_8__373 : wb40_40.cell? ⟨w_a_0.heap.size, 8, none⟩ = some (.int .i64 a_arrive) := Pb40_40.out.cells rfl 8 _ rfl
  cases ret_hid H
  go_wp2_with fail
  (try simp only [Exit.inBlock, Exit.then])
  refine bodyPost_ret (v := .agg #[.int .i64 a_id, .int .i64 a_day, .int .i64 a_zone, .int .i64 a_grams, .int .i64 a_paid, .int .i64 a_from_, .int .i64 a_to_, .int .i64 a_leave, .int .i64 a_arrive]) ?hr_ ?hd_ ?_
  case hd_ => rfl
  case hr_ => simp [results, Try.results17, kt_1_0__365, kt_1_1__366, kt_1_2__367, kt_1_3__368, kt_1_4__369, kt_1_5__370, kt_1_6__371, kt_1_7__372, kt_1_8__373, go_sem]
  exact ⟨rfl, HBwb40_40.out⟩
end Go.Proofs.Ytlljmgphgmklcaa.GlToCover

/- loop.example/g01062/spec.l1In as a plain function, and the contract of the program's: where the plain one has an answer, the program has it. Conditions: slices read as lists. -/
namespace Go.Proofs.Ytlljmgphgmklcaa.GsL1In
set_option linter.unusedVariables false
set_option linter.unusedSimpArgs false
open Go.RowKit
open Go.Proofs.Ytlljmgphgmklcaa.Rowed Go.Proofs.Ytlljmgphgmklcaa.Turn Go.Proofs.Ytlljmgphgmklcaa.Aid Go.Proofs.Ytlljmgphgmklcaa.GoP Go.Proofs.Ytlljmgphgmklcaa.GoM

def P (x : Int) (a : Int) (b : Int) : Option (Bool) :=
  letK (decide (a ≤ x)) fun (t_3 : Bool) =>
  joinK (fun (t_8 : Bool) =>
  some t_8) fun jt_8 => iteK t_3 (letK (decide (x ≤ b)) fun (t_7 : Bool) =>
  appK jt_8 t_7) (appK jt_8 false)

set_option maxRecDepth 100000 in
set_option maxHeartbeats 2000000 in
theorem C (x : Int) (a : Int) (b : Int)   (w : World)   {r : Bool} (H : Hid (P x a b = some r)) :
    Calls Try.prog 113 #[.int .i64 x, .int .i64 a, .int .i64 b] w (Gives (.bool r) w) := by
  have HB := Lib.hid (Below.refl w.heap.size w)
  unfold P at H
  go_enter Try.func113, Try.ntmps113
  replace H := let_hid H
  obtain ⟨t_3, ht_3, H⟩ := H
  replace H := join_hid H
  cases t_3 with
  | false =>
    replace H := ite_f H
    replace H := app_hid H
    obtain rfl := ret_hid H
    go_wp2_with fail
    go_ret
    exact ⟨rfl, HB.out⟩
  | true =>
    replace H := ite_t H
    replace H := let_hid H
    obtain ⟨t_7, ht_7, H⟩ := H
    replace H := app_hid H
    obtain rfl := ret_hid H
    go_wp2_with fail
    go_ret
    exact ⟨rfl, HB.out⟩

set_option maxRecDepth 100000 in
set_option maxHeartbeats 2000000 in
theorem C0 (x : Int) (a : Int) (b : Int)   (w : World)   {r : Bool} (H : Hid (P x a b = some r)) :
    Calls Try.prog 113 #[.int .i64 x, .int .i64 a, .int .i64 b] w (fun e w'' => e = .returned (.bool r) ∧ w'' = w) := by
  have HB := Lib.hid (Below.refl w.heap.size w)
  unfold P at H
  go_enter Try.func113, Try.ntmps113
  replace H := let_hid H
  obtain ⟨t_3, ht_3, H⟩ := H
  replace H := join_hid H
  cases t_3 with
  | false =>
    replace H := ite_f H
    replace H := app_hid H
    obtain rfl := ret_hid H
    go_wp2_with fail
    go_ret
    exact ⟨rfl, rfl⟩
  | true =>
    replace H := ite_t H
    replace H := let_hid H
    obtain ⟨t_7, ht_7, H⟩ := H
    replace H := app_hid H
    obtain rfl := ret_hid H
    go_wp2_with fail
    go_ret
    exact ⟨rfl, rfl⟩
end Go.Proofs.Ytlljmgphgmklcaa.GsL1In

/- loop.example/g01062/spec.l2Day as a plain function, and the contract of the program's: where the plain one has an answer, the program has it. Conditions: slices read as lists. -/
namespace Go.Proofs.Ytlljmgphgmklcaa.GsL2Day
set_option linter.unusedVariables false
set_option linter.unusedSimpArgs false
open Go.RowKit
open Go.Proofs.Ytlljmgphgmklcaa.Rowed Go.Proofs.Ytlljmgphgmklcaa.Turn Go.Proofs.Ytlljmgphgmklcaa.Aid Go.Proofs.Ytlljmgphgmklcaa.GoP Go.Proofs.Ytlljmgphgmklcaa.GoM

def P (d_0 : Int) : Option (Bool) :=
  Option.bind (Go.Proofs.Ytlljmgphgmklcaa.GsL1In.P d_0 0 4000) fun (t_2 : Bool) =>
  some t_2

set_option maxRecDepth 100000 in
set_option maxHeartbeats 2000000 in
theorem C (d_0 : Int)   (w : World)   {r : Bool} (H : Hid (P d_0 = some r)) :
    Calls Try.prog 129 #[.int .i64 d_0] w (Gives (.bool r) w) := by
  have HB := Lib.hid (Below.refl w.heap.size w)
  unfold P at H
  go_enter Try.func129, Try.ntmps129
  replace H := bind_hid H
  obtain ⟨t_2, qt_2, H⟩ := H
  go_wp2_with fail
  go_at_call 113
  refine (Go.Proofs.Ytlljmgphgmklcaa.GsL1In.C (d_0) (0) (4000)  _    qt_2).mono ?_
  rintro e_t_2 wt_2 ⟨rfl, bt_2⟩
  have HBwt_2 := Lib.hid (Below.step HB.out bt_2)
  clear bt_2
  obtain rfl := ret_hid H
  go_wp2_with fail
  go_ret
  exact ⟨rfl, HBwt_2.out⟩
end Go.Proofs.Ytlljmgphgmklcaa.GsL2Day

/- loop.example/g01062/spec.l8Zone as a plain function, and the contract of the program's: where the plain one has an answer, the program has it. Conditions: slices read as lists. -/
namespace Go.Proofs.Ytlljmgphgmklcaa.GsL8Zone
set_option linter.unusedVariables false
set_option linter.unusedSimpArgs false
open Go.RowKit
open Go.Proofs.Ytlljmgphgmklcaa.Rowed Go.Proofs.Ytlljmgphgmklcaa.Turn Go.Proofs.Ytlljmgphgmklcaa.Aid Go.Proofs.Ytlljmgphgmklcaa.GoP Go.Proofs.Ytlljmgphgmklcaa.GoM

def P (zone : Int) : Option (Bool) :=
  Option.bind (Go.Proofs.Ytlljmgphgmklcaa.GsL1In.P zone 0 9) fun (t_2 : Bool) =>
  some t_2

set_option maxRecDepth 100000 in
set_option maxHeartbeats 2000000 in
theorem C (zone : Int)   (w : World)   {r : Bool} (H : Hid (P zone = some r)) :
    Calls Try.prog 139 #[.int .i64 zone] w (Gives (.bool r) w) := by
  have HB := Lib.hid (Below.refl w.heap.size w)
  unfold P at H
  go_enter Try.func139, Try.ntmps139
  replace H := bind_hid H
  obtain ⟨t_2, qt_2, H⟩ := H
  go_wp2_with fail
  go_at_call 113
  refine (Go.Proofs.Ytlljmgphgmklcaa.GsL1In.C (zone) (0) (9)  _    qt_2).mono ?_
  rintro e_t_2 wt_2 ⟨rfl, bt_2⟩
  have HBwt_2 := Lib.hid (Below.step HB.out bt_2)
  clear bt_2
  obtain rfl := ret_hid H
  go_wp2_with fail
  go_ret
  exact ⟨rfl, HBwt_2.out⟩
end Go.Proofs.Ytlljmgphgmklcaa.GsL8Zone

/- loop.example/g01062/spec.l8Grams as a plain function, and the contract of the program's: where the plain one has an answer, the program has it. Conditions: slices read as lists. -/
namespace Go.Proofs.Ytlljmgphgmklcaa.GsL8Grams
set_option linter.unusedVariables false
set_option linter.unusedSimpArgs false
open Go.RowKit
open Go.Proofs.Ytlljmgphgmklcaa.Rowed Go.Proofs.Ytlljmgphgmklcaa.Turn Go.Proofs.Ytlljmgphgmklcaa.Aid Go.Proofs.Ytlljmgphgmklcaa.GoP Go.Proofs.Ytlljmgphgmklcaa.GoM

def P (grams : Int) : Option (Bool) :=
  Option.bind (Go.Proofs.Ytlljmgphgmklcaa.GsL1In.P grams 1 2000) fun (t_2 : Bool) =>
  some t_2

set_option maxRecDepth 100000 in
set_option maxHeartbeats 2000000 in
theorem C (grams : Int)   (w : World)   {r : Bool} (H : Hid (P grams = some r)) :
    Calls Try.prog 134 #[.int .i64 grams] w (Gives (.bool r) w) := by
  have HB := Lib.hid (Below.refl w.heap.size w)
  unfold P at H
  go_enter Try.func134, Try.ntmps134
  replace H := bind_hid H
  obtain ⟨t_2, qt_2, H⟩ := H
  go_wp2_with fail
  go_at_call 113
  refine (Go.Proofs.Ytlljmgphgmklcaa.GsL1In.C (grams) (1) (2000)  _    qt_2).mono ?_
  rintro e_t_2 wt_2 ⟨rfl, bt_2⟩
  have HBwt_2 := Lib.hid (Below.step HB.out bt_2)
  clear bt_2
  obtain rfl := ret_hid H
  go_wp2_with fail
  go_ret
  exact ⟨rfl, HBwt_2.out⟩
end Go.Proofs.Ytlljmgphgmklcaa.GsL8Grams

/- loop.example/g01062/spec.l8Cents as a plain function, and the contract of the program's: where the plain one has an answer, the program has it. Conditions: slices read as lists. -/
namespace Go.Proofs.Ytlljmgphgmklcaa.GsL8Cents
set_option linter.unusedVariables false
set_option linter.unusedSimpArgs false
open Go.RowKit
open Go.Proofs.Ytlljmgphgmklcaa.Rowed Go.Proofs.Ytlljmgphgmklcaa.Turn Go.Proofs.Ytlljmgphgmklcaa.Aid Go.Proofs.Ytlljmgphgmklcaa.GoP Go.Proofs.Ytlljmgphgmklcaa.GoM

def P (cents : Int) : Option (Bool) :=
  Option.bind (Go.Proofs.Ytlljmgphgmklcaa.GsL1In.P cents 1 9999) fun (t_2 : Bool) =>
  some t_2

set_option maxRecDepth 100000 in
set_option maxHeartbeats 2000000 in
theorem C (cents : Int)   (w : World)   {r : Bool} (H : Hid (P cents = some r)) :
    Calls Try.prog 130 #[.int .i64 cents] w (Gives (.bool r) w) := by
  have HB := Lib.hid (Below.refl w.heap.size w)
  unfold P at H
  go_enter Try.func130, Try.ntmps130
  replace H := bind_hid H
  obtain ⟨t_2, qt_2, H⟩ := H
  go_wp2_with fail
  go_at_call 113
  refine (Go.Proofs.Ytlljmgphgmklcaa.GsL1In.C (cents) (1) (9999)  _    qt_2).mono ?_
  rintro e_t_2 wt_2 ⟨rfl, bt_2⟩
  have HBwt_2 := Lib.hid (Below.step HB.out bt_2)
  clear bt_2
  obtain rfl := ret_hid H
  go_wp2_with fail
  go_ret
  exact ⟨rfl, HBwt_2.out⟩
end Go.Proofs.Ytlljmgphgmklcaa.GsL8Cents

/- loop.example/g01062/spec.l9Office as a plain function, and the contract of the program's: where the plain one has an answer, the program has it. Conditions: slices read as lists. -/
namespace Go.Proofs.Ytlljmgphgmklcaa.GsL9Office
set_option linter.unusedVariables false
set_option linter.unusedSimpArgs false
open Go.RowKit
open Go.Proofs.Ytlljmgphgmklcaa.Rowed Go.Proofs.Ytlljmgphgmklcaa.Turn Go.Proofs.Ytlljmgphgmklcaa.Aid Go.Proofs.Ytlljmgphgmklcaa.GoP Go.Proofs.Ytlljmgphgmklcaa.GoM

def P (n_0 : Int) : Option (Bool) :=
  Option.bind (Go.Proofs.Ytlljmgphgmklcaa.GsL1In.P n_0 0 9) fun (t_2 : Bool) =>
  some t_2

set_option maxRecDepth 100000 in
set_option maxHeartbeats 2000000 in
theorem C (n_0 : Int)   (w : World)   {r : Bool} (H : Hid (P n_0 = some r)) :
    Calls Try.prog 109 #[.int .i64 n_0] w (Gives (.bool r) w) := by
  have HB := Lib.hid (Below.refl w.heap.size w)
  unfold P at H
  go_enter Try.func109, Try.ntmps109
  replace H := bind_hid H
  obtain ⟨t_2, qt_2, H⟩ := H
  go_wp2_with fail
  go_at_call 113
  refine (Go.Proofs.Ytlljmgphgmklcaa.GsL1In.C (n_0) (0) (9)  _    qt_2).mono ?_
  rintro e_t_2 wt_2 ⟨rfl, bt_2⟩
  have HBwt_2 := Lib.hid (Below.step HB.out bt_2)
  clear bt_2
  obtain rfl := ret_hid H
  go_wp2_with fail
  go_ret
  exact ⟨rfl, HBwt_2.out⟩
end Go.Proofs.Ytlljmgphgmklcaa.GsL9Office

/- loop.example/g01062/spec.l9Minute as a plain function, and the contract of the program's: where the plain one has an answer, the program has it. Conditions: slices read as lists. -/
namespace Go.Proofs.Ytlljmgphgmklcaa.GsL9Minute
set_option linter.unusedVariables false
set_option linter.unusedSimpArgs false
open Go.RowKit
open Go.Proofs.Ytlljmgphgmklcaa.Rowed Go.Proofs.Ytlljmgphgmklcaa.Turn Go.Proofs.Ytlljmgphgmklcaa.Aid Go.Proofs.Ytlljmgphgmklcaa.GoP Go.Proofs.Ytlljmgphgmklcaa.GoM

def P (n_0 : Int) : Option (Bool) :=
  Option.bind (Go.Proofs.Ytlljmgphgmklcaa.GsL1In.P n_0 0 9999) fun (t_2 : Bool) =>
  some t_2

set_option maxRecDepth 100000 in
set_option maxHeartbeats 2000000 in
theorem C (n_0 : Int)   (w : World)   {r : Bool} (H : Hid (P n_0 = some r)) :
    Calls Try.prog 140 #[.int .i64 n_0] w (Gives (.bool r) w) := by
  have HB := Lib.hid (Below.refl w.heap.size w)
  unfold P at H
  go_enter Try.func140, Try.ntmps140
  replace H := bind_hid H
  obtain ⟨t_2, qt_2, H⟩ := H
  go_wp2_with fail
  go_at_call 113
  refine (Go.Proofs.Ytlljmgphgmklcaa.GsL1In.C (n_0) (0) (9999)  _    qt_2).mono ?_
  rintro e_t_2 wt_2 ⟨rfl, bt_2⟩
  have HBwt_2 := Lib.hid (Below.step HB.out bt_2)
  clear bt_2
  obtain rfl := ret_hid H
  go_wp2_with fail
  go_ret
  exact ⟨rfl, HBwt_2.out⟩
end Go.Proofs.Ytlljmgphgmklcaa.GsL9Minute

/- loop.example/g01062/spec.l10One as a plain function, and the contract of the program's: where the plain one has an answer, the program has it. Conditions: slices read as lists. -/
namespace Go.Proofs.Ytlljmgphgmklcaa.GsL10One
set_option linter.unusedVariables false
set_option linter.unusedSimpArgs false
open Go.RowKit
open Go.Proofs.Ytlljmgphgmklcaa.Rowed Go.Proofs.Ytlljmgphgmklcaa.Turn Go.Proofs.Ytlljmgphgmklcaa.Aid Go.Proofs.Ytlljmgphgmklcaa.GoP Go.Proofs.Ytlljmgphgmklcaa.GoM

def P (x : Go.Proofs.Ytlljmgphgmklcaa.PCover.Cover) : Option (Bool) :=
  unCover x fun (x_id : Int) (x_day : Int) (x_zone : Int) (x_grams : Int) (x_paid : Int) (x_from_ : Int) (x_to_ : Int) (x_leave : Int) (x_arrive : Int) =>
  Option.bind (Go.Proofs.Ytlljmgphgmklcaa.GsL1In.P x_id 1 999) fun (t_4 : Bool) =>
  letK (!t_4) fun (t_5 : Bool) =>
  joinK (fun (t_11 : Bool) =>
  joinK (fun (t_17 : Bool) =>
  joinK (fun (t_23 : Bool) =>
  joinK (fun (t_29 : Bool) =>
  iteK t_29
  (some false)
  (Option.bind (Go.Proofs.Ytlljmgphgmklcaa.GsL9Office.P x_from_) fun (t_33 : Bool) =>
  joinK (fun (t_38 : Bool) =>
  joinK (fun (t_45 : Bool) =>
  joinK (fun (t_50 : Bool) =>
  joinK (fun (t_57 : Bool) =>
  some t_57) fun jt_57 => iteK t_50 (Option.bind (Go.Proofs.Ytlljmgphgmklcaa.GsL1In.P x_leave 0 x_arrive) fun (t_56 : Bool) =>
  appK jt_57 t_56) (appK jt_57 false)) fun jt_50 => iteK t_45 (Option.bind (Go.Proofs.Ytlljmgphgmklcaa.GsL9Minute.P x_arrive) fun (t_49 : Bool) =>
  appK jt_50 t_49) (appK jt_50 false)) fun jt_45 => iteK t_38 (letK (x_from_ != x_to_) fun (t_44 : Bool) =>
  appK jt_45 t_44) (appK jt_45 false)) fun jt_38 => iteK t_33 (Option.bind (Go.Proofs.Ytlljmgphgmklcaa.GsL9Office.P x_to_) fun (t_37 : Bool) =>
  appK jt_38 t_37) (appK jt_38 false))) fun jt_29 => iteK t_23 (appK jt_29 true) (Option.bind (Go.Proofs.Ytlljmgphgmklcaa.GsL8Cents.P x_paid) fun (t_27 : Bool) =>
  letK (!t_27) fun (t_28 : Bool) =>
  appK jt_29 t_28)) fun jt_23 => iteK t_17 (appK jt_23 true) (Option.bind (Go.Proofs.Ytlljmgphgmklcaa.GsL8Grams.P x_grams) fun (t_21 : Bool) =>
  letK (!t_21) fun (t_22 : Bool) =>
  appK jt_23 t_22)) fun jt_17 => iteK t_11 (appK jt_17 true) (Option.bind (Go.Proofs.Ytlljmgphgmklcaa.GsL8Zone.P x_zone) fun (t_15 : Bool) =>
  letK (!t_15) fun (t_16 : Bool) =>
  appK jt_17 t_16)) fun jt_11 => iteK t_5 (appK jt_11 true) (Option.bind (Go.Proofs.Ytlljmgphgmklcaa.GsL2Day.P x_day) fun (t_9 : Bool) =>
  letK (!t_9) fun (t_10 : Bool) =>
  appK jt_11 t_10)

set_option maxRecDepth 100000 in
set_option maxHeartbeats 2000000 in
theorem C (x : Go.Proofs.Ytlljmgphgmklcaa.PCover.Cover)   (w : World)   {r : Bool} (H : Hid (P x = some r)) :
    Calls Try.prog 77 #[x.val] w (Gives (.bool r) w) := by
  have HB := Lib.hid (Below.refl w.heap.size w)
  unfold P at H
  obtain ⟨x_id, x_day, x_zone, x_grams, x_paid, x_from_, x_to_, x_leave, x_arrive⟩ := x
  replace H := unCover_hid H
  unfold Go.Proofs.Ytlljmgphgmklcaa.PCover.Cover.val
  go_enter Try.func77, Try.ntmps77
  obtain ⟨w_x_0, hw_x_0⟩ : ∃ x, w.alloc (.cells #[.int .i64 x_id, .int .i64 x_day, .int .i64 x_zone, .int .i64 x_grams, .int .i64 x_paid, .int .i64 x_from_, .int .i64 x_to_, .int .i64 x_leave, .int .i64 x_arrive] 25) = x := ⟨_, rfl⟩
  have bw_x_0 : Below w.heap.size w w_x_0 := by rw [← hw_x_0]; exact (Below.refl _ _).alloc (Nat.le_refl _) _
  have HBw_x_0 := Lib.hid (Below.step HB.out bw_x_0)
  clear bw_x_0
  have kx_0_0 : w_x_0.cell? ⟨w.heap.size, 0, none⟩ = some (.int .i64 x_id) := by rw [← hw_x_0]; exact box_new _ _ _ 0 _ rfl
  have kx_0_1 : w_x_0.cell? ⟨w.heap.size, 1, none⟩ = some (.int .i64 x_day) := by rw [← hw_x_0]; exact box_new _ _ _ 1 _ rfl
  have kx_0_2 : w_x_0.cell? ⟨w.heap.size, 2, none⟩ = some (.int .i64 x_zone) := by rw [← hw_x_0]; exact box_new _ _ _ 2 _ rfl
  have kx_0_3 : w_x_0.cell? ⟨w.heap.size, 3, none⟩ = some (.int .i64 x_grams) := by rw [← hw_x_0]; exact box_new _ _ _ 3 _ rfl
  have kx_0_4 : w_x_0.cell? ⟨w.heap.size, 4, none⟩ = some (.int .i64 x_paid) := by rw [← hw_x_0]; exact box_new _ _ _ 4 _ rfl
  have kx_0_5 : w_x_0.cell? ⟨w.heap.size, 5, none⟩ = some (.int .i64 x_from_) := by rw [← hw_x_0]; exact box_new _ _ _ 5 _ rfl
  have kx_0_6 : w_x_0.cell? ⟨w.heap.size, 6, none⟩ = some (.int .i64 x_to_) := by rw [← hw_x_0]; exact box_new _ _ _ 6 _ rfl
  have kx_0_7 : w_x_0.cell? ⟨w.heap.size, 7, none⟩ = some (.int .i64 x_leave) := by rw [← hw_x_0]; exact box_new _ _ _ 7 _ rfl
  have kx_0_8 : w_x_0.cell? ⟨w.heap.size, 8, none⟩ = some (.int .i64 x_arrive) := by rw [← hw_x_0]; exact box_new _ _ _ 8 _ rfl
  replace H := bind_hid H
  obtain ⟨t_4, qt_4, H⟩ := H
  go_wp2_with fail
  go_at_call 113
  refine (Go.Proofs.Ytlljmgphgmklcaa.GsL1In.C (x_id) (1) (999)  _    qt_4).mono ?_
  rintro e_t_4 wt_4 ⟨rfl, bt_4⟩
  have HBwt_4 := Lib.hid (Below.step HBw_x_0.out bt_4)
  replace kx_0_0 := cell_below bt_4 kx_0_0
  replace kx_0_1 := cell_below bt_4 kx_0_1
  replace kx_0_2 := cell_below bt_4 kx_0_2
  replace kx_0_3 := cell_below bt_4 kx_0_3
  replace kx_0_4 := cell_below bt_4 kx_0_4
  replace kx_0_5 := cell_below bt_4 kx_0_5
  replace kx_0_6 := cell_below bt_4 kx_0_6
  replace kx_0_7 := cell_below bt_4 kx_0_7
  replace kx_0_8 := cell_below bt_4 kx_0_8
  clear bt_4
  cases t_4 with
  | false =>
    replace H := let_hid H
    obtain ⟨t_5, ht_5, H⟩ := H
    obtain rfl : t_5 = true := ht_5.symm
    replace H := join_hid H
    replace H := ite_t H
    replace H := app_hid H
    replace H := join_hid H
    replace H := ite_t H
    replace H := app_hid H
    replace H := join_hid H
    replace H := ite_t H
    replace H := app_hid H
    replace H := join_hid H
    replace H := ite_t H
    replace H := app_hid H
    replace H := ite_t H
    obtain rfl := ret_hid H
    go_wp2_with fail
    go_ret
    exact ⟨rfl, HBwt_4.out⟩
  | true =>
    replace H := let_hid H
    obtain ⟨t_5, ht_5, H⟩ := H
    obtain rfl : t_5 = false := ht_5.symm
    replace H := join_hid H
    replace H := ite_f H
    replace H := bind_hid H
    obtain ⟨t_9, qt_9, H⟩ := H
    go_wp2_with fail
    go_at_call 129
    refine (Go.Proofs.Ytlljmgphgmklcaa.GsL2Day.C (x_day)  _    qt_9).mono ?_
    rintro e_t_9 wt_9 ⟨rfl, bt_9⟩
    have HBwt_9 := Lib.hid (Below.step HBwt_4.out bt_9)
    replace kx_0_0 := cell_below bt_9 kx_0_0
    replace kx_0_1 := cell_below bt_9 kx_0_1
    replace kx_0_2 := cell_below bt_9 kx_0_2
    replace kx_0_3 := cell_below bt_9 kx_0_3
    replace kx_0_4 := cell_below bt_9 kx_0_4
    replace kx_0_5 := cell_below bt_9 kx_0_5
    replace kx_0_6 := cell_below bt_9 kx_0_6
    replace kx_0_7 := cell_below bt_9 kx_0_7
    replace kx_0_8 := cell_below bt_9 kx_0_8
    clear bt_9
    cases t_9 with
    | false =>
      replace H := let_hid H
      obtain ⟨t_10, ht_10, H⟩ := H
      obtain rfl : t_10 = true := ht_10.symm
      replace H := app_hid H
      replace H := join_hid H
      replace H := ite_t H
      replace H := app_hid H
      replace H := join_hid H
      replace H := ite_t H
      replace H := app_hid H
      replace H := join_hid H
      replace H := ite_t H
      replace H := app_hid H
      replace H := ite_t H
      obtain rfl := ret_hid H
      go_wp2_with fail
      go_ret
      exact ⟨rfl, HBwt_9.out⟩
    | true =>
      replace H := let_hid H
      obtain ⟨t_10, ht_10, H⟩ := H
      obtain rfl : t_10 = false := ht_10.symm
      replace H := app_hid H
      replace H := join_hid H
      replace H := ite_f H
      replace H := bind_hid H
      obtain ⟨t_15, qt_15, H⟩ := H
      go_wp2_with fail
      go_at_call 139
      refine (Go.Proofs.Ytlljmgphgmklcaa.GsL8Zone.C (x_zone)  _    qt_15).mono ?_
      rintro e_t_15 wt_15 ⟨rfl, bt_15⟩
      have HBwt_15 := Lib.hid (Below.step HBwt_9.out bt_15)
      replace kx_0_0 := cell_below bt_15 kx_0_0
      replace kx_0_1 := cell_below bt_15 kx_0_1
      replace kx_0_2 := cell_below bt_15 kx_0_2
      replace kx_0_3 := cell_below bt_15 kx_0_3
      replace kx_0_4 := cell_below bt_15 kx_0_4
      replace kx_0_5 := cell_below bt_15 kx_0_5
      replace kx_0_6 := cell_below bt_15 kx_0_6
      replace kx_0_7 := cell_below bt_15 kx_0_7
      replace kx_0_8 := cell_below bt_15 kx_0_8
      clear bt_15
      cases t_15 with
      | false =>
        replace H := let_hid H
        obtain ⟨t_16, ht_16, H⟩ := H
        obtain rfl : t_16 = true := ht_16.symm
        replace H := app_hid H
        replace H := join_hid H
        replace H := ite_t H
        replace H := app_hid H
        replace H := join_hid H
        replace H := ite_t H
        replace H := app_hid H
        replace H := ite_t H
        obtain rfl := ret_hid H
        go_wp2_with fail
        go_ret
        exact ⟨rfl, HBwt_15.out⟩
      | true =>
        replace H := let_hid H
        obtain ⟨t_16, ht_16, H⟩ := H
        obtain rfl : t_16 = false := ht_16.symm
        replace H := app_hid H
        replace H := join_hid H
        replace H := ite_f H
        replace H := bind_hid H
        obtain ⟨t_21, qt_21, H⟩ := H
        go_wp2_with fail
        go_at_call 134
        refine (Go.Proofs.Ytlljmgphgmklcaa.GsL8Grams.C (x_grams)  _    qt_21).mono ?_
        rintro e_t_21 wt_21 ⟨rfl, bt_21⟩
        have HBwt_21 := Lib.hid (Below.step HBwt_15.out bt_21)
        replace kx_0_0 := cell_below bt_21 kx_0_0
        replace kx_0_1 := cell_below bt_21 kx_0_1
        replace kx_0_2 := cell_below bt_21 kx_0_2
        replace kx_0_3 := cell_below bt_21 kx_0_3
        replace kx_0_4 := cell_below bt_21 kx_0_4
        replace kx_0_5 := cell_below bt_21 kx_0_5
        replace kx_0_6 := cell_below bt_21 kx_0_6
        replace kx_0_7 := cell_below bt_21 kx_0_7
        replace kx_0_8 := cell_below bt_21 kx_0_8
        clear bt_21
        cases t_21 with
        | false =>
          replace H := let_hid H
          obtain ⟨t_22, ht_22, H⟩ := H
          obtain rfl : t_22 = true := ht_22.symm
          replace H := app_hid H
          replace H := join_hid H
          replace H := ite_t H
          replace H := app_hid H
          replace H := ite_t H
          obtain rfl := ret_hid H
          go_wp2_with fail
          go_ret
          exact ⟨rfl, HBwt_21.out⟩
        | true =>
          replace H := let_hid H
          obtain ⟨t_22, ht_22, H⟩ := H
          obtain rfl : t_22 = false := ht_22.symm
          replace H := app_hid H
          replace H := join_hid H
          replace H := ite_f H
          replace H := bind_hid H
          obtain ⟨t_27, qt_27, H⟩ := H
          go_wp2_with fail
          go_at_call 130
          refine (Go.Proofs.Ytlljmgphgmklcaa.GsL8Cents.C (x_paid)  _    qt_27).mono ?_
          rintro e_t_27 wt_27 ⟨rfl, bt_27⟩
          have HBwt_27 := Lib.hid (Below.step HBwt_21.out bt_27)
          replace kx_0_0 := cell_below bt_27 kx_0_0
          replace kx_0_1 := cell_below bt_27 kx_0_1
          replace kx_0_2 := cell_below bt_27 kx_0_2
          replace kx_0_3 := cell_below bt_27 kx_0_3
          replace kx_0_4 := cell_below bt_27 kx_0_4
          replace kx_0_5 := cell_below bt_27 kx_0_5
          replace kx_0_6 := cell_below bt_27 kx_0_6
          replace kx_0_7 := cell_below bt_27 kx_0_7
          replace kx_0_8 := cell_below bt_27 kx_0_8
          clear bt_27
          cases t_27 with
          | false =>
            replace H := let_hid H
            obtain ⟨t_28, ht_28, H⟩ := H
            obtain rfl : t_28 = true := ht_28.symm
            replace H := app_hid H
            replace H := ite_t H
            obtain rfl := ret_hid H
            go_wp2_with fail
            go_ret
            exact ⟨rfl, HBwt_27.out⟩
          | true =>
            replace H := let_hid H
            obtain ⟨t_28, ht_28, H⟩ := H
            obtain rfl : t_28 = false := ht_28.symm
            replace H := app_hid H
            replace H := ite_f H
            replace H := bind_hid H
            obtain ⟨t_33, qt_33, H⟩ := H
            go_wp2_with fail
            go_at_call 109
            refine (Go.Proofs.Ytlljmgphgmklcaa.GsL9Office.C (x_from_)  _    qt_33).mono ?_
            rintro e_t_33 wt_33 ⟨rfl, bt_33⟩
            have HBwt_33 := Lib.hid (Below.step HBwt_27.out bt_33)
            replace kx_0_0 := cell_below bt_33 kx_0_0
            replace kx_0_1 := cell_below bt_33 kx_0_1
            replace kx_0_2 := cell_below bt_33 kx_0_2
            replace kx_0_3 := cell_below bt_33 kx_0_3
            replace kx_0_4 := cell_below bt_33 kx_0_4
            replace kx_0_5 := cell_below bt_33 kx_0_5
            replace kx_0_6 := cell_below bt_33 kx_0_6
            replace kx_0_7 := cell_below bt_33 kx_0_7
            replace kx_0_8 := cell_below bt_33 kx_0_8
            clear bt_33
            replace H := join_hid H
            cases t_33 with
            | false =>
              replace H := ite_f H
              replace H := app_hid H
              replace H := join_hid H
              replace H := ite_f H
              replace H := app_hid H
              replace H := join_hid H
              replace H := ite_f H
              replace H := app_hid H
              replace H := join_hid H
              replace H := ite_f H
              replace H := app_hid H
              obtain rfl := ret_hid H
              go_wp2_with fail
              go_ret
              exact ⟨rfl, HBwt_33.out⟩
            | true =>
              replace H := ite_t H
              replace H := bind_hid H
              obtain ⟨t_37, qt_37, H⟩ := H
              go_wp2_with fail
              go_at_call 109
              refine (Go.Proofs.Ytlljmgphgmklcaa.GsL9Office.C (x_to_)  _    qt_37).mono ?_
              rintro e_t_37 wt_37 ⟨rfl, bt_37⟩
              have HBwt_37 := Lib.hid (Below.step HBwt_33.out bt_37)
              replace kx_0_0 := cell_below bt_37 kx_0_0
              replace kx_0_1 := cell_below bt_37 kx_0_1
              replace kx_0_2 := cell_below bt_37 kx_0_2
              replace kx_0_3 := cell_below bt_37 kx_0_3
              replace kx_0_4 := cell_below bt_37 kx_0_4
              replace kx_0_5 := cell_below bt_37 kx_0_5
              replace kx_0_6 := cell_below bt_37 kx_0_6
              replace kx_0_7 := cell_below bt_37 kx_0_7
              replace kx_0_8 := cell_below bt_37 kx_0_8
              clear bt_37
              replace H := app_hid H
              replace H := join_hid H
              cases t_37 with
              | false =>
                replace H := ite_f H
                replace H := app_hid H
                replace H := join_hid H
                replace H := ite_f H
                replace H := app_hid H
                replace H := join_hid H
                replace H := ite_f H
                replace H := app_hid H
                obtain rfl := ret_hid H
                go_wp2_with fail
                go_ret
                exact ⟨rfl, HBwt_37.out⟩
              | true =>
                replace H := ite_t H
                replace H := let_hid H
                obtain ⟨t_44, ht_44, H⟩ := H
                replace H := app_hid H
                replace H := join_hid H
                cases t_44 with
                | false =>
                  replace H := ite_f H
                  replace H := app_hid H
                  replace H := join_hid H
                  replace H := ite_f H
                  replace H := app_hid H
                  obtain rfl := ret_hid H
                  go_wp2_with fail
                  go_ret
                  exact ⟨rfl, HBwt_37.out⟩
                | true =>
                  replace H := ite_t H
                  replace H := bind_hid H
                  obtain ⟨t_49, qt_49, H⟩ := H
                  go_wp2_with fail
                  go_at_call 140
                  refine (Go.Proofs.Ytlljmgphgmklcaa.GsL9Minute.C (x_arrive)  _    qt_49).mono ?_
                  rintro e_t_49 wt_49 ⟨rfl, bt_49⟩
                  have HBwt_49 := Lib.hid (Below.step HBwt_37.out bt_49)
                  replace kx_0_0 := cell_below bt_49 kx_0_0
                  replace kx_0_1 := cell_below bt_49 kx_0_1
                  replace kx_0_2 := cell_below bt_49 kx_0_2
                  replace kx_0_3 := cell_below bt_49 kx_0_3
                  replace kx_0_4 := cell_below bt_49 kx_0_4
                  replace kx_0_5 := cell_below bt_49 kx_0_5
                  replace kx_0_6 := cell_below bt_49 kx_0_6
                  replace kx_0_7 := cell_below bt_49 kx_0_7
                  replace kx_0_8 := cell_below bt_49 kx_0_8
                  clear bt_49
                  replace H := app_hid H
                  replace H := join_hid H
                  cases t_49 with
                  | false =>
                    replace H := ite_f H
                    replace H := app_hid H
                    obtain rfl := ret_hid H
                    go_wp2_with fail
                    go_ret
                    exact ⟨rfl, HBwt_49.out⟩
                  | true =>
                    replace H := ite_t H
                    replace H := bind_hid H
                    obtain ⟨t_56, qt_56, H⟩ := H
                    go_wp2_with fail
                    go_at_call 113
                    refine (Go.Proofs.Ytlljmgphgmklcaa.GsL1In.C (x_leave) (0) (x_arrive)  _    qt_56).mono ?_
                    rintro e_t_56 wt_56 ⟨rfl, bt_56⟩
                    have HBwt_56 := Lib.hid (Below.step HBwt_49.out bt_56)
                    replace kx_0_0 := cell_below bt_56 kx_0_0
                    replace kx_0_1 := cell_below bt_56 kx_0_1
                    replace kx_0_2 := cell_below bt_56 kx_0_2
                    replace kx_0_3 := cell_below bt_56 kx_0_3
                    replace kx_0_4 := cell_below bt_56 kx_0_4
                    replace kx_0_5 := cell_below bt_56 kx_0_5
                    replace kx_0_6 := cell_below bt_56 kx_0_6
                    replace kx_0_7 := cell_below bt_56 kx_0_7
                    replace kx_0_8 := cell_below bt_56 kx_0_8
                    clear bt_56
                    replace H := app_hid H
                    obtain rfl := ret_hid H
                    go_wp2_with fail
                    go_ret
                    exact ⟨rfl, HBwt_56.out⟩
end Go.Proofs.Ytlljmgphgmklcaa.GsL10One

/- loop.example/g01062/spec.IsCover as a plain function, and the contract of the program's: where the plain one has an answer, the program has it. Conditions: slices read as lists. -/
namespace Go.Proofs.Ytlljmgphgmklcaa.GsIsCover
set_option linter.unusedVariables false
set_option linter.unusedSimpArgs false
open Go.RowKit
open Go.Proofs.Ytlljmgphgmklcaa.Rowed Go.Proofs.Ytlljmgphgmklcaa.Turn Go.Proofs.Ytlljmgphgmklcaa.Aid Go.Proofs.Ytlljmgphgmklcaa.GoP Go.Proofs.Ytlljmgphgmklcaa.GoM

def P (x : Go.Proofs.Ytlljmgphgmklcaa.PCover.Cover) : Option (Bool) :=
  unCover x fun (x_id : Int) (x_day : Int) (x_zone : Int) (x_grams : Int) (x_paid : Int) (x_from_ : Int) (x_to_ : Int) (x_leave : Int) (x_arrive : Int) =>
  Option.bind (Go.Proofs.Ytlljmgphgmklcaa.GsL10One.P (Go.Proofs.Ytlljmgphgmklcaa.PCover.Cover.mk x_id x_day x_zone x_grams x_paid x_from_ x_to_ x_leave x_arrive)) fun (t_3 : Bool) =>
  some t_3

set_option maxRecDepth 100000 in
set_option maxHeartbeats 2000000 in
theorem C (x : Go.Proofs.Ytlljmgphgmklcaa.PCover.Cover)   (w : World)   {r : Bool} (H : Hid (P x = some r)) :
    Calls Try.prog 16 #[x.val] w (Gives (.bool r) w) := by
  have HB := Lib.hid (Below.refl w.heap.size w)
  unfold P at H
  obtain ⟨x_id, x_day, x_zone, x_grams, x_paid, x_from_, x_to_, x_leave, x_arrive⟩ := x
  replace H := unCover_hid H
  unfold Go.Proofs.Ytlljmgphgmklcaa.PCover.Cover.val
  go_enter Try.func16, Try.ntmps16
  obtain ⟨w_x_0, hw_x_0⟩ : ∃ x, w.alloc (.cells #[.int .i64 x_id, .int .i64 x_day, .int .i64 x_zone, .int .i64 x_grams, .int .i64 x_paid, .int .i64 x_from_, .int .i64 x_to_, .int .i64 x_leave, .int .i64 x_arrive] 25) = x := ⟨_, rfl⟩
  have bw_x_0 : Below w.heap.size w w_x_0 := by rw [← hw_x_0]; exact (Below.refl _ _).alloc (Nat.le_refl _) _
  have HBw_x_0 := Lib.hid (Below.step HB.out bw_x_0)
  clear bw_x_0
  have kx_0_0 : w_x_0.cell? ⟨w.heap.size, 0, none⟩ = some (.int .i64 x_id) := by rw [← hw_x_0]; exact box_new _ _ _ 0 _ rfl
  have kx_0_1 : w_x_0.cell? ⟨w.heap.size, 1, none⟩ = some (.int .i64 x_day) := by rw [← hw_x_0]; exact box_new _ _ _ 1 _ rfl
  have kx_0_2 : w_x_0.cell? ⟨w.heap.size, 2, none⟩ = some (.int .i64 x_zone) := by rw [← hw_x_0]; exact box_new _ _ _ 2 _ rfl
  have kx_0_3 : w_x_0.cell? ⟨w.heap.size, 3, none⟩ = some (.int .i64 x_grams) := by rw [← hw_x_0]; exact box_new _ _ _ 3 _ rfl
  have kx_0_4 : w_x_0.cell? ⟨w.heap.size, 4, none⟩ = some (.int .i64 x_paid) := by rw [← hw_x_0]; exact box_new _ _ _ 4 _ rfl
  have kx_0_5 : w_x_0.cell? ⟨w.heap.size, 5, none⟩ = some (.int .i64 x_from_) := by rw [← hw_x_0]; exact box_new _ _ _ 5 _ rfl
  have kx_0_6 : w_x_0.cell? ⟨w.heap.size, 6, none⟩ = some (.int .i64 x_to_) := by rw [← hw_x_0]; exact box_new _ _ _ 6 _ rfl
  have kx_0_7 : w_x_0.cell? ⟨w.heap.size, 7, none⟩ = some (.int .i64 x_leave) := by rw [← hw_x_0]; exact box_new _ _ _ 7 _ rfl
  have kx_0_8 : w_x_0.cell? ⟨w.heap.size, 8, none⟩ = some (.int .i64 x_arrive) := by rw [← hw_x_0]; exact box_new _ _ _ 8 _ rfl
  replace H := bind_hid H
  obtain ⟨t_3, qt_3, H⟩ := H
  go_wp2_with fail
  go_at_call 77
  refine (Go.Proofs.Ytlljmgphgmklcaa.GsL10One.C ((Go.Proofs.Ytlljmgphgmklcaa.PCover.Cover.mk x_id x_day x_zone x_grams x_paid x_from_ x_to_ x_leave x_arrive))  _    qt_3).mono ?_
  rintro e_t_3 wt_3 ⟨rfl, bt_3⟩
  have HBwt_3 := Lib.hid (Below.step HBw_x_0.out bt_3)
  replace kx_0_0 := cell_below bt_3 kx_0_0
  replace kx_0_1 := cell_below bt_3 kx_0_1
  replace kx_0_2 := cell_below bt_3 kx_0_2
  replace kx_0_3 := cell_below bt_3 kx_0_3
  replace kx_0_4 := cell_below bt_3 kx_0_4
  replace kx_0_5 := cell_below bt_3 kx_0_5
  replace kx_0_6 := cell_below bt_3 kx_0_6
  replace kx_0_7 := cell_below bt_3 kx_0_7
  replace kx_0_8 := cell_below bt_3 kx_0_8
  clear bt_3
  obtain rfl := ret_hid H
  go_wp2_with fail
  go_ret
  exact ⟨rfl, HBwt_3.out⟩
end Go.Proofs.Ytlljmgphgmklcaa.GsIsCover

/- loop.example/g01062/impl.within as a plain function, and the contract of the program's: where the plain one has an answer, the program has it. Conditions: slices read as lists. -/
namespace Go.Proofs.Ytlljmgphgmklcaa.GiWithin
set_option linter.unusedVariables false
set_option linter.unusedSimpArgs false
open Go.RowKit
open Go.Proofs.Ytlljmgphgmklcaa.Rowed Go.Proofs.Ytlljmgphgmklcaa.Turn Go.Proofs.Ytlljmgphgmklcaa.Aid Go.Proofs.Ytlljmgphgmklcaa.GoP Go.Proofs.Ytlljmgphgmklcaa.GoM

def P (n_0 : Int) (low : Int) (high : Int) : Option (Bool) :=
  letK (decide (low ≤ n_0)) fun (t_3 : Bool) =>
  joinK (fun (t_8 : Bool) =>
  some t_8) fun jt_8 => iteK t_3 (letK (decide (n_0 ≤ high)) fun (t_7 : Bool) =>
  appK jt_8 t_7) (appK jt_8 false)

set_option maxRecDepth 100000 in
set_option maxHeartbeats 2000000 in
theorem C (n_0 : Int) (low : Int) (high : Int)   (w : World)   {r : Bool} (H : Hid (P n_0 low high = some r)) :
    Calls Try.prog 78 #[.int .i64 n_0, .int .i64 low, .int .i64 high] w (Gives (.bool r) w) := by
  have HB := Lib.hid (Below.refl w.heap.size w)
  unfold P at H
  go_enter Try.func78, Try.ntmps78
  replace H := let_hid H
  obtain ⟨t_3, ht_3, H⟩ := H
  replace H := join_hid H
  cases t_3 with
  | false =>
    replace H := ite_f H
    replace H := app_hid H
    obtain rfl := ret_hid H
    go_wp2_with fail
    go_ret
    exact ⟨rfl, HB.out⟩
  | true =>
    replace H := ite_t H
    replace H := let_hid H
    obtain ⟨t_7, ht_7, H⟩ := H
    replace H := app_hid H
    obtain rfl := ret_hid H
    go_wp2_with fail
    go_ret
    exact ⟨rfl, HB.out⟩

set_option maxRecDepth 100000 in
set_option maxHeartbeats 2000000 in
theorem C0 (n_0 : Int) (low : Int) (high : Int)   (w : World)   {r : Bool} (H : Hid (P n_0 low high = some r)) :
    Calls Try.prog 78 #[.int .i64 n_0, .int .i64 low, .int .i64 high] w (fun e w'' => e = .returned (.bool r) ∧ w'' = w) := by
  have HB := Lib.hid (Below.refl w.heap.size w)
  unfold P at H
  go_enter Try.func78, Try.ntmps78
  replace H := let_hid H
  obtain ⟨t_3, ht_3, H⟩ := H
  replace H := join_hid H
  cases t_3 with
  | false =>
    replace H := ite_f H
    replace H := app_hid H
    obtain rfl := ret_hid H
    go_wp2_with fail
    go_ret
    exact ⟨rfl, rfl⟩
  | true =>
    replace H := ite_t H
    replace H := let_hid H
    obtain ⟨t_7, ht_7, H⟩ := H
    replace H := app_hid H
    obtain rfl := ret_hid H
    go_wp2_with fail
    go_ret
    exact ⟨rfl, rfl⟩
end Go.Proofs.Ytlljmgphgmklcaa.GiWithin

/- loop.example/g01062/impl.isDay as a plain function, and the contract of the program's: where the plain one has an answer, the program has it. Conditions: slices read as lists. -/
namespace Go.Proofs.Ytlljmgphgmklcaa.GiIsDay
set_option linter.unusedVariables false
set_option linter.unusedSimpArgs false
open Go.RowKit
open Go.Proofs.Ytlljmgphgmklcaa.Rowed Go.Proofs.Ytlljmgphgmklcaa.Turn Go.Proofs.Ytlljmgphgmklcaa.Aid Go.Proofs.Ytlljmgphgmklcaa.GoP Go.Proofs.Ytlljmgphgmklcaa.GoM

def P (day : Int) : Option (Bool) :=
  Option.bind (Go.Proofs.Ytlljmgphgmklcaa.GiWithin.P day 0 4000) fun (t_2 : Bool) =>
  some t_2

set_option maxRecDepth 100000 in
set_option maxHeartbeats 2000000 in
theorem C (day : Int)   (w : World)   {r : Bool} (H : Hid (P day = some r)) :
    Calls Try.prog 79 #[.int .i64 day] w (Gives (.bool r) w) := by
  have HB := Lib.hid (Below.refl w.heap.size w)
  unfold P at H
  go_enter Try.func79, Try.ntmps79
  replace H := bind_hid H
  obtain ⟨t_2, qt_2, H⟩ := H
  go_wp2_with fail
  go_at_call 78
  refine (Go.Proofs.Ytlljmgphgmklcaa.GiWithin.C (day) (0) (4000)  _    qt_2).mono ?_
  rintro e_t_2 wt_2 ⟨rfl, bt_2⟩
  have HBwt_2 := Lib.hid (Below.step HB.out bt_2)
  clear bt_2
  obtain rfl := ret_hid H
  go_wp2_with fail
  go_ret
  exact ⟨rfl, HBwt_2.out⟩
end Go.Proofs.Ytlljmgphgmklcaa.GiIsDay

/- loop.example/g01062/impl.isZone as a plain function, and the contract of the program's: where the plain one has an answer, the program has it. Conditions: slices read as lists. -/
namespace Go.Proofs.Ytlljmgphgmklcaa.GiIsZone
set_option linter.unusedVariables false
set_option linter.unusedSimpArgs false
open Go.RowKit
open Go.Proofs.Ytlljmgphgmklcaa.Rowed Go.Proofs.Ytlljmgphgmklcaa.Turn Go.Proofs.Ytlljmgphgmklcaa.Aid Go.Proofs.Ytlljmgphgmklcaa.GoP Go.Proofs.Ytlljmgphgmklcaa.GoM

def P (zone : Int) : Option (Bool) :=
  Option.bind (Go.Proofs.Ytlljmgphgmklcaa.GiWithin.P zone 0 9) fun (t_2 : Bool) =>
  some t_2

set_option maxRecDepth 100000 in
set_option maxHeartbeats 2000000 in
theorem C (zone : Int)   (w : World)   {r : Bool} (H : Hid (P zone = some r)) :
    Calls Try.prog 80 #[.int .i64 zone] w (Gives (.bool r) w) := by
  have HB := Lib.hid (Below.refl w.heap.size w)
  unfold P at H
  go_enter Try.func80, Try.ntmps80
  replace H := bind_hid H
  obtain ⟨t_2, qt_2, H⟩ := H
  go_wp2_with fail
  go_at_call 78
  refine (Go.Proofs.Ytlljmgphgmklcaa.GiWithin.C (zone) (0) (9)  _    qt_2).mono ?_
  rintro e_t_2 wt_2 ⟨rfl, bt_2⟩
  have HBwt_2 := Lib.hid (Below.step HB.out bt_2)
  clear bt_2
  obtain rfl := ret_hid H
  go_wp2_with fail
  go_ret
  exact ⟨rfl, HBwt_2.out⟩
end Go.Proofs.Ytlljmgphgmklcaa.GiIsZone

/- loop.example/g01062/impl.isWeight as a plain function, and the contract of the program's: where the plain one has an answer, the program has it. Conditions: slices read as lists. -/
namespace Go.Proofs.Ytlljmgphgmklcaa.GiIsWeight
set_option linter.unusedVariables false
set_option linter.unusedSimpArgs false
open Go.RowKit
open Go.Proofs.Ytlljmgphgmklcaa.Rowed Go.Proofs.Ytlljmgphgmklcaa.Turn Go.Proofs.Ytlljmgphgmklcaa.Aid Go.Proofs.Ytlljmgphgmklcaa.GoP Go.Proofs.Ytlljmgphgmklcaa.GoM

def P (grams : Int) : Option (Bool) :=
  Option.bind (Go.Proofs.Ytlljmgphgmklcaa.GiWithin.P grams 1 2000) fun (t_2 : Bool) =>
  some t_2

set_option maxRecDepth 100000 in
set_option maxHeartbeats 2000000 in
theorem C (grams : Int)   (w : World)   {r : Bool} (H : Hid (P grams = some r)) :
    Calls Try.prog 81 #[.int .i64 grams] w (Gives (.bool r) w) := by
  have HB := Lib.hid (Below.refl w.heap.size w)
  unfold P at H
  go_enter Try.func81, Try.ntmps81
  replace H := bind_hid H
  obtain ⟨t_2, qt_2, H⟩ := H
  go_wp2_with fail
  go_at_call 78
  refine (Go.Proofs.Ytlljmgphgmklcaa.GiWithin.C (grams) (1) (2000)  _    qt_2).mono ?_
  rintro e_t_2 wt_2 ⟨rfl, bt_2⟩
  have HBwt_2 := Lib.hid (Below.step HB.out bt_2)
  clear bt_2
  obtain rfl := ret_hid H
  go_wp2_with fail
  go_ret
  exact ⟨rfl, HBwt_2.out⟩
end Go.Proofs.Ytlljmgphgmklcaa.GiIsWeight

/- loop.example/g01062/impl.isRateCents as a plain function, and the contract of the program's: where the plain one has an answer, the program has it. Conditions: slices read as lists. -/
namespace Go.Proofs.Ytlljmgphgmklcaa.GiIsRateCents
set_option linter.unusedVariables false
set_option linter.unusedSimpArgs false
open Go.RowKit
open Go.Proofs.Ytlljmgphgmklcaa.Rowed Go.Proofs.Ytlljmgphgmklcaa.Turn Go.Proofs.Ytlljmgphgmklcaa.Aid Go.Proofs.Ytlljmgphgmklcaa.GoP Go.Proofs.Ytlljmgphgmklcaa.GoM

def P (cents : Int) : Option (Bool) :=
  Option.bind (Go.Proofs.Ytlljmgphgmklcaa.GiWithin.P cents 1 9999) fun (t_2 : Bool) =>
  some t_2

set_option maxRecDepth 100000 in
set_option maxHeartbeats 2000000 in
theorem C (cents : Int)   (w : World)   {r : Bool} (H : Hid (P cents = some r)) :
    Calls Try.prog 82 #[.int .i64 cents] w (Gives (.bool r) w) := by
  have HB := Lib.hid (Below.refl w.heap.size w)
  unfold P at H
  go_enter Try.func82, Try.ntmps82
  replace H := bind_hid H
  obtain ⟨t_2, qt_2, H⟩ := H
  go_wp2_with fail
  go_at_call 78
  refine (Go.Proofs.Ytlljmgphgmklcaa.GiWithin.C (cents) (1) (9999)  _    qt_2).mono ?_
  rintro e_t_2 wt_2 ⟨rfl, bt_2⟩
  have HBwt_2 := Lib.hid (Below.step HB.out bt_2)
  clear bt_2
  obtain rfl := ret_hid H
  go_wp2_with fail
  go_ret
  exact ⟨rfl, HBwt_2.out⟩
end Go.Proofs.Ytlljmgphgmklcaa.GiIsRateCents

/- loop.example/g01062/impl.isPostOffice as a plain function, and the contract of the program's: where the plain one has an answer, the program has it. Conditions: slices read as lists. -/
namespace Go.Proofs.Ytlljmgphgmklcaa.GiIsPostOffice
set_option linter.unusedVariables false
set_option linter.unusedSimpArgs false
open Go.RowKit
open Go.Proofs.Ytlljmgphgmklcaa.Rowed Go.Proofs.Ytlljmgphgmklcaa.Turn Go.Proofs.Ytlljmgphgmklcaa.Aid Go.Proofs.Ytlljmgphgmklcaa.GoP Go.Proofs.Ytlljmgphgmklcaa.GoM

def P (office : Int) : Option (Bool) :=
  Option.bind (Go.Proofs.Ytlljmgphgmklcaa.GiWithin.P office 0 9) fun (t_2 : Bool) =>
  some t_2

set_option maxRecDepth 100000 in
set_option maxHeartbeats 2000000 in
theorem C (office : Int)   (w : World)   {r : Bool} (H : Hid (P office = some r)) :
    Calls Try.prog 83 #[.int .i64 office] w (Gives (.bool r) w) := by
  have HB := Lib.hid (Below.refl w.heap.size w)
  unfold P at H
  go_enter Try.func83, Try.ntmps83
  replace H := bind_hid H
  obtain ⟨t_2, qt_2, H⟩ := H
  go_wp2_with fail
  go_at_call 78
  refine (Go.Proofs.Ytlljmgphgmklcaa.GiWithin.C (office) (0) (9)  _    qt_2).mono ?_
  rintro e_t_2 wt_2 ⟨rfl, bt_2⟩
  have HBwt_2 := Lib.hid (Below.step HB.out bt_2)
  clear bt_2
  obtain rfl := ret_hid H
  go_wp2_with fail
  go_ret
  exact ⟨rfl, HBwt_2.out⟩
end Go.Proofs.Ytlljmgphgmklcaa.GiIsPostOffice

/- loop.example/g01062/impl.isMinute as a plain function, and the contract of the program's: where the plain one has an answer, the program has it. Conditions: slices read as lists. -/
namespace Go.Proofs.Ytlljmgphgmklcaa.GiIsMinute
set_option linter.unusedVariables false
set_option linter.unusedSimpArgs false
open Go.RowKit
open Go.Proofs.Ytlljmgphgmklcaa.Rowed Go.Proofs.Ytlljmgphgmklcaa.Turn Go.Proofs.Ytlljmgphgmklcaa.Aid Go.Proofs.Ytlljmgphgmklcaa.GoP Go.Proofs.Ytlljmgphgmklcaa.GoM

def P (minute : Int) : Option (Bool) :=
  Option.bind (Go.Proofs.Ytlljmgphgmklcaa.GiWithin.P minute 0 9999) fun (t_2 : Bool) =>
  some t_2

set_option maxRecDepth 100000 in
set_option maxHeartbeats 2000000 in
theorem C (minute : Int)   (w : World)   {r : Bool} (H : Hid (P minute = some r)) :
    Calls Try.prog 84 #[.int .i64 minute] w (Gives (.bool r) w) := by
  have HB := Lib.hid (Below.refl w.heap.size w)
  unfold P at H
  go_enter Try.func84, Try.ntmps84
  replace H := bind_hid H
  obtain ⟨t_2, qt_2, H⟩ := H
  go_wp2_with fail
  go_at_call 78
  refine (Go.Proofs.Ytlljmgphgmklcaa.GiWithin.C (minute) (0) (9999)  _    qt_2).mono ?_
  rintro e_t_2 wt_2 ⟨rfl, bt_2⟩
  have HBwt_2 := Lib.hid (Below.step HB.out bt_2)
  clear bt_2
  obtain rfl := ret_hid H
  go_wp2_with fail
  go_ret
  exact ⟨rfl, HBwt_2.out⟩
end Go.Proofs.Ytlljmgphgmklcaa.GiIsMinute

/- loop.example/g01062/impl.IsCover as a plain function, and the contract of the program's: where the plain one has an answer, the program has it. Conditions: slices read as lists. -/
namespace Go.Proofs.Ytlljmgphgmklcaa.GiIsCover
set_option linter.unusedVariables false
set_option linter.unusedSimpArgs false
open Go.RowKit
open Go.Proofs.Ytlljmgphgmklcaa.Rowed Go.Proofs.Ytlljmgphgmklcaa.Turn Go.Proofs.Ytlljmgphgmklcaa.Aid Go.Proofs.Ytlljmgphgmklcaa.GoP Go.Proofs.Ytlljmgphgmklcaa.GoM

def P (x : Go.Proofs.Ytlljmgphgmklcaa.PCover.Cover) : Option (Bool) :=
  unCover x fun (x_id : Int) (x_day : Int) (x_zone : Int) (x_grams : Int) (x_paid : Int) (x_from_ : Int) (x_to_ : Int) (x_leave : Int) (x_arrive : Int) =>
  Option.bind (Go.Proofs.Ytlljmgphgmklcaa.GiWithin.P x_id 1 999) fun (t_4 : Bool) =>
  joinK (fun (t_9 : Bool) =>
  joinK (fun (t_14 : Bool) =>
  joinK (fun (t_19 : Bool) =>
  joinK (fun (t_24 : Bool) =>
  joinK (fun (t_29 : Bool) =>
  joinK (fun (t_34 : Bool) =>
  joinK (fun (t_41 : Bool) =>
  joinK (fun (t_46 : Bool) =>
  joinK (fun (t_51 : Bool) =>
  joinK (fun (t_58 : Bool) =>
  some t_58) fun jt_58 => iteK t_51 (letK (decide (x_leave ≤ x_arrive)) fun (t_57 : Bool) =>
  appK jt_58 t_57) (appK jt_58 false)) fun jt_51 => iteK t_46 (Option.bind (Go.Proofs.Ytlljmgphgmklcaa.GiIsMinute.P x_arrive) fun (t_50 : Bool) =>
  appK jt_51 t_50) (appK jt_51 false)) fun jt_46 => iteK t_41 (Option.bind (Go.Proofs.Ytlljmgphgmklcaa.GiIsMinute.P x_leave) fun (t_45 : Bool) =>
  appK jt_46 t_45) (appK jt_46 false)) fun jt_41 => iteK t_34 (letK (x_from_ != x_to_) fun (t_40 : Bool) =>
  appK jt_41 t_40) (appK jt_41 false)) fun jt_34 => iteK t_29 (Option.bind (Go.Proofs.Ytlljmgphgmklcaa.GiIsPostOffice.P x_to_) fun (t_33 : Bool) =>
  appK jt_34 t_33) (appK jt_34 false)) fun jt_29 => iteK t_24 (Option.bind (Go.Proofs.Ytlljmgphgmklcaa.GiIsPostOffice.P x_from_) fun (t_28 : Bool) =>
  appK jt_29 t_28) (appK jt_29 false)) fun jt_24 => iteK t_19 (Option.bind (Go.Proofs.Ytlljmgphgmklcaa.GiIsRateCents.P x_paid) fun (t_23 : Bool) =>
  appK jt_24 t_23) (appK jt_24 false)) fun jt_19 => iteK t_14 (Option.bind (Go.Proofs.Ytlljmgphgmklcaa.GiIsWeight.P x_grams) fun (t_18 : Bool) =>
  appK jt_19 t_18) (appK jt_19 false)) fun jt_14 => iteK t_9 (Option.bind (Go.Proofs.Ytlljmgphgmklcaa.GiIsZone.P x_zone) fun (t_13 : Bool) =>
  appK jt_14 t_13) (appK jt_14 false)) fun jt_9 => iteK t_4 (Option.bind (Go.Proofs.Ytlljmgphgmklcaa.GiIsDay.P x_day) fun (t_8 : Bool) =>
  appK jt_9 t_8) (appK jt_9 false)

set_option maxRecDepth 100000 in
set_option maxHeartbeats 2000000 in
theorem C (x : Go.Proofs.Ytlljmgphgmklcaa.PCover.Cover)   (w : World)   {r : Bool} (H : Hid (P x = some r)) :
    Calls Try.prog 18 #[x.val] w (Gives (.bool r) w) := by
  have HB := Lib.hid (Below.refl w.heap.size w)
  unfold P at H
  obtain ⟨x_id, x_day, x_zone, x_grams, x_paid, x_from_, x_to_, x_leave, x_arrive⟩ := x
  replace H := unCover_hid H
  unfold Go.Proofs.Ytlljmgphgmklcaa.PCover.Cover.val
  go_enter Try.func18, Try.ntmps18
  obtain ⟨w_x_0, hw_x_0⟩ : ∃ x, w.alloc (.cells #[.int .i64 x_id, .int .i64 x_day, .int .i64 x_zone, .int .i64 x_grams, .int .i64 x_paid, .int .i64 x_from_, .int .i64 x_to_, .int .i64 x_leave, .int .i64 x_arrive] 25) = x := ⟨_, rfl⟩
  have bw_x_0 : Below w.heap.size w w_x_0 := by rw [← hw_x_0]; exact (Below.refl _ _).alloc (Nat.le_refl _) _
  have HBw_x_0 := Lib.hid (Below.step HB.out bw_x_0)
  clear bw_x_0
  have kx_0_0 : w_x_0.cell? ⟨w.heap.size, 0, none⟩ = some (.int .i64 x_id) := by rw [← hw_x_0]; exact box_new _ _ _ 0 _ rfl
  have kx_0_1 : w_x_0.cell? ⟨w.heap.size, 1, none⟩ = some (.int .i64 x_day) := by rw [← hw_x_0]; exact box_new _ _ _ 1 _ rfl
  have kx_0_2 : w_x_0.cell? ⟨w.heap.size, 2, none⟩ = some (.int .i64 x_zone) := by rw [← hw_x_0]; exact box_new _ _ _ 2 _ rfl
  have kx_0_3 : w_x_0.cell? ⟨w.heap.size, 3, none⟩ = some (.int .i64 x_grams) := by rw [← hw_x_0]; exact box_new _ _ _ 3 _ rfl
  have kx_0_4 : w_x_0.cell? ⟨w.heap.size, 4, none⟩ = some (.int .i64 x_paid) := by rw [← hw_x_0]; exact box_new _ _ _ 4 _ rfl
  have kx_0_5 : w_x_0.cell? ⟨w.heap.size, 5, none⟩ = some (.int .i64 x_from_) := by rw [← hw_x_0]; exact box_new _ _ _ 5 _ rfl
  have kx_0_6 : w_x_0.cell? ⟨w.heap.size, 6, none⟩ = some (.int .i64 x_to_) := by rw [← hw_x_0]; exact box_new _ _ _ 6 _ rfl
  have kx_0_7 : w_x_0.cell? ⟨w.heap.size, 7, none⟩ = some (.int .i64 x_leave) := by rw [← hw_x_0]; exact box_new _ _ _ 7 _ rfl
  have kx_0_8 : w_x_0.cell? ⟨w.heap.size, 8, none⟩ = some (.int .i64 x_arrive) := by rw [← hw_x_0]; exact box_new _ _ _ 8 _ rfl
  replace H := bind_hid H
  obtain ⟨t_4, qt_4, H⟩ := H
  go_wp2_with fail
  go_at_call 78
  refine (Go.Proofs.Ytlljmgphgmklcaa.GiWithin.C (x_id) (1) (999)  _    qt_4).mono ?_
  rintro e_t_4 wt_4 ⟨rfl, bt_4⟩
  have HBwt_4 := Lib.hid (Below.step HBw_x_0.out bt_4)
  replace kx_0_0 := cell_below bt_4 kx_0_0
  replace kx_0_1 := cell_below bt_4 kx_0_1
  replace kx_0_2 := cell_below bt_4 kx_0_2
  replace kx_0_3 := cell_below bt_4 kx_0_3
  replace kx_0_4 := cell_below bt_4 kx_0_4
  replace kx_0_5 := cell_below bt_4 kx_0_5
  replace kx_0_6 := cell_below bt_4 kx_0_6
  replace kx_0_7 := cell_below bt_4 kx_0_7
  replace kx_0_8 := cell_below bt_4 kx_0_8
  clear bt_4
  replace H := join_hid H
  cases t_4 with
  | false =>
    replace H := ite_f H
    replace H := app_hid H
    replace H := join_hid H
    replace H := ite_f H
    replace H := app_hid H
    replace H := join_hid H
    replace H := ite_f H
    replace H := app_hid H
    replace H := join_hid H
    replace H := ite_f H
    replace H := app_hid H
    replace H := join_hid H
    replace H := ite_f H
    replace H := app_hid H
    replace H := join_hid H
    replace H := ite_f H
    replace H := app_hid H
    replace H := join_hid H
    replace H := ite_f H
    replace H := app_hid H
    replace H := join_hid H
    replace H := ite_f H
    replace H := app_hid H
    replace H := join_hid H
    replace H := ite_f H
    replace H := app_hid H
    replace H := join_hid H
    replace H := ite_f H
    replace H := app_hid H
    obtain rfl := ret_hid H
    go_wp2_with fail
    go_ret
    exact ⟨rfl, HBwt_4.out⟩
  | true =>
    replace H := ite_t H
    replace H := bind_hid H
    obtain ⟨t_8, qt_8, H⟩ := H
    go_wp2_with fail
    go_at_call 79
    refine (Go.Proofs.Ytlljmgphgmklcaa.GiIsDay.C (x_day)  _    qt_8).mono ?_
    rintro e_t_8 wt_8 ⟨rfl, bt_8⟩
    have HBwt_8 := Lib.hid (Below.step HBwt_4.out bt_8)
    replace kx_0_0 := cell_below bt_8 kx_0_0
    replace kx_0_1 := cell_below bt_8 kx_0_1
    replace kx_0_2 := cell_below bt_8 kx_0_2
    replace kx_0_3 := cell_below bt_8 kx_0_3
    replace kx_0_4 := cell_below bt_8 kx_0_4
    replace kx_0_5 := cell_below bt_8 kx_0_5
    replace kx_0_6 := cell_below bt_8 kx_0_6
    replace kx_0_7 := cell_below bt_8 kx_0_7
    replace kx_0_8 := cell_below bt_8 kx_0_8
    clear bt_8
    replace H := app_hid H
    replace H := join_hid H
    cases t_8 with
    | false =>
      replace H := ite_f H
      replace H := app_hid H
      replace H := join_hid H
      replace H := ite_f H
      replace H := app_hid H
      replace H := join_hid H
      replace H := ite_f H
      replace H := app_hid H
      replace H := join_hid H
      replace H := ite_f H
      replace H := app_hid H
      replace H := join_hid H
      replace H := ite_f H
      replace H := app_hid H
      replace H := join_hid H
      replace H := ite_f H
      replace H := app_hid H
      replace H := join_hid H
      replace H := ite_f H
      replace H := app_hid H
      replace H := join_hid H
      replace H := ite_f H
      replace H := app_hid H
      replace H := join_hid H
      replace H := ite_f H
      replace H := app_hid H
      obtain rfl := ret_hid H
      go_wp2_with fail
      go_ret
      exact ⟨rfl, HBwt_8.out⟩
    | true =>
      replace H := ite_t H
      replace H := bind_hid H
      obtain ⟨t_13, qt_13, H⟩ := H
      go_wp2_with fail
      go_at_call 80
      refine (Go.Proofs.Ytlljmgphgmklcaa.GiIsZone.C (x_zone)  _    qt_13).mono ?_
      rintro e_t_13 wt_13 ⟨rfl, bt_13⟩
      have HBwt_13 := Lib.hid (Below.step HBwt_8.out bt_13)
      replace kx_0_0 := cell_below bt_13 kx_0_0
      replace kx_0_1 := cell_below bt_13 kx_0_1
      replace kx_0_2 := cell_below bt_13 kx_0_2
      replace kx_0_3 := cell_below bt_13 kx_0_3
      replace kx_0_4 := cell_below bt_13 kx_0_4
      replace kx_0_5 := cell_below bt_13 kx_0_5
      replace kx_0_6 := cell_below bt_13 kx_0_6
      replace kx_0_7 := cell_below bt_13 kx_0_7
      replace kx_0_8 := cell_below bt_13 kx_0_8
      clear bt_13
      replace H := app_hid H
      replace H := join_hid H
      cases t_13 with
      | false =>
        replace H := ite_f H
        replace H := app_hid H
        replace H := join_hid H
        replace H := ite_f H
        replace H := app_hid H
        replace H := join_hid H
        replace H := ite_f H
        replace H := app_hid H
        replace H := join_hid H
        replace H := ite_f H
        replace H := app_hid H
        replace H := join_hid H
        replace H := ite_f H
        replace H := app_hid H
        replace H := join_hid H
        replace H := ite_f H
        replace H := app_hid H
        replace H := join_hid H
        replace H := ite_f H
        replace H := app_hid H
        replace H := join_hid H
        replace H := ite_f H
        replace H := app_hid H
        obtain rfl := ret_hid H
        go_wp2_with fail
        go_ret
        exact ⟨rfl, HBwt_13.out⟩
      | true =>
        replace H := ite_t H
        replace H := bind_hid H
        obtain ⟨t_18, qt_18, H⟩ := H
        go_wp2_with fail
        go_at_call 81
        refine (Go.Proofs.Ytlljmgphgmklcaa.GiIsWeight.C (x_grams)  _    qt_18).mono ?_
        rintro e_t_18 wt_18 ⟨rfl, bt_18⟩
        have HBwt_18 := Lib.hid (Below.step HBwt_13.out bt_18)
        replace kx_0_0 := cell_below bt_18 kx_0_0
        replace kx_0_1 := cell_below bt_18 kx_0_1
        replace kx_0_2 := cell_below bt_18 kx_0_2
        replace kx_0_3 := cell_below bt_18 kx_0_3
        replace kx_0_4 := cell_below bt_18 kx_0_4
        replace kx_0_5 := cell_below bt_18 kx_0_5
        replace kx_0_6 := cell_below bt_18 kx_0_6
        replace kx_0_7 := cell_below bt_18 kx_0_7
        replace kx_0_8 := cell_below bt_18 kx_0_8
        clear bt_18
        replace H := app_hid H
        replace H := join_hid H
        cases t_18 with
        | false =>
          replace H := ite_f H
          replace H := app_hid H
          replace H := join_hid H
          replace H := ite_f H
          replace H := app_hid H
          replace H := join_hid H
          replace H := ite_f H
          replace H := app_hid H
          replace H := join_hid H
          replace H := ite_f H
          replace H := app_hid H
          replace H := join_hid H
          replace H := ite_f H
          replace H := app_hid H
          replace H := join_hid H
          replace H := ite_f H
          replace H := app_hid H
          replace H := join_hid H
          replace H := ite_f H
          replace H := app_hid H
          obtain rfl := ret_hid H
          go_wp2_with fail
          go_ret
          exact ⟨rfl, HBwt_18.out⟩
        | true =>
          replace H := ite_t H
          replace H := bind_hid H
          obtain ⟨t_23, qt_23, H⟩ := H
          go_wp2_with fail
          go_at_call 82
          refine (Go.Proofs.Ytlljmgphgmklcaa.GiIsRateCents.C (x_paid)  _    qt_23).mono ?_
          rintro e_t_23 wt_23 ⟨rfl, bt_23⟩
          have HBwt_23 := Lib.hid (Below.step HBwt_18.out bt_23)
          replace kx_0_0 := cell_below bt_23 kx_0_0
          replace kx_0_1 := cell_below bt_23 kx_0_1
          replace kx_0_2 := cell_below bt_23 kx_0_2
          replace kx_0_3 := cell_below bt_23 kx_0_3
          replace kx_0_4 := cell_below bt_23 kx_0_4
          replace kx_0_5 := cell_below bt_23 kx_0_5
          replace kx_0_6 := cell_below bt_23 kx_0_6
          replace kx_0_7 := cell_below bt_23 kx_0_7
          replace kx_0_8 := cell_below bt_23 kx_0_8
          clear bt_23
          replace H := app_hid H
          replace H := join_hid H
          cases t_23 with
          | false =>
            replace H := ite_f H
            replace H := app_hid H
            replace H := join_hid H
            replace H := ite_f H
            replace H := app_hid H
            replace H := join_hid H
            replace H := ite_f H
            replace H := app_hid H
            replace H := join_hid H
            replace H := ite_f H
            replace H := app_hid H
            replace H := join_hid H
            replace H := ite_f H
            replace H := app_hid H
            replace H := join_hid H
            replace H := ite_f H
            replace H := app_hid H
            obtain rfl := ret_hid H
            go_wp2_with fail
            go_ret
            exact ⟨rfl, HBwt_23.out⟩
          | true =>
            replace H := ite_t H
            replace H := bind_hid H
            obtain ⟨t_28, qt_28, H⟩ := H
            go_wp2_with fail
            go_at_call 83
            refine (Go.Proofs.Ytlljmgphgmklcaa.GiIsPostOffice.C (x_from_)  _    qt_28).mono ?_
            rintro e_t_28 wt_28 ⟨rfl, bt_28⟩
            have HBwt_28 := Lib.hid (Below.step HBwt_23.out bt_28)
            replace kx_0_0 := cell_below bt_28 kx_0_0
            replace kx_0_1 := cell_below bt_28 kx_0_1
            replace kx_0_2 := cell_below bt_28 kx_0_2
            replace kx_0_3 := cell_below bt_28 kx_0_3
            replace kx_0_4 := cell_below bt_28 kx_0_4
            replace kx_0_5 := cell_below bt_28 kx_0_5
            replace kx_0_6 := cell_below bt_28 kx_0_6
            replace kx_0_7 := cell_below bt_28 kx_0_7
            replace kx_0_8 := cell_below bt_28 kx_0_8
            clear bt_28
            replace H := app_hid H
            replace H := join_hid H
            cases t_28 with
            | false =>
              replace H := ite_f H
              replace H := app_hid H
              replace H := join_hid H
              replace H := ite_f H
              replace H := app_hid H
              replace H := join_hid H
              replace H := ite_f H
              replace H := app_hid H
              replace H := join_hid H
              replace H := ite_f H
              replace H := app_hid H
              replace H := join_hid H
              replace H := ite_f H
              replace H := app_hid H
              obtain rfl := ret_hid H
              go_wp2_with fail
              go_ret
              exact ⟨rfl, HBwt_28.out⟩
            | true =>
              replace H := ite_t H
              replace H := bind_hid H
              obtain ⟨t_33, qt_33, H⟩ := H
              go_wp2_with fail
              go_at_call 83
              refine (Go.Proofs.Ytlljmgphgmklcaa.GiIsPostOffice.C (x_to_)  _    qt_33).mono ?_
              rintro e_t_33 wt_33 ⟨rfl, bt_33⟩
              have HBwt_33 := Lib.hid (Below.step HBwt_28.out bt_33)
              replace kx_0_0 := cell_below bt_33 kx_0_0
              replace kx_0_1 := cell_below bt_33 kx_0_1
              replace kx_0_2 := cell_below bt_33 kx_0_2
              replace kx_0_3 := cell_below bt_33 kx_0_3
              replace kx_0_4 := cell_below bt_33 kx_0_4
              replace kx_0_5 := cell_below bt_33 kx_0_5
              replace kx_0_6 := cell_below bt_33 kx_0_6
              replace kx_0_7 := cell_below bt_33 kx_0_7
              replace kx_0_8 := cell_below bt_33 kx_0_8
              clear bt_33
              replace H := app_hid H
              replace H := join_hid H
              cases t_33 with
              | false =>
                replace H := ite_f H
                replace H := app_hid H
                replace H := join_hid H
                replace H := ite_f H
                replace H := app_hid H
                replace H := join_hid H
                replace H := ite_f H
                replace H := app_hid H
                replace H := join_hid H
                replace H := ite_f H
                replace H := app_hid H
                obtain rfl := ret_hid H
                go_wp2_with fail
                go_ret
                exact ⟨rfl, HBwt_33.out⟩
              | true =>
                replace H := ite_t H
                replace H := let_hid H
                obtain ⟨t_40, ht_40, H⟩ := H
                replace H := app_hid H
                replace H := join_hid H
                cases t_40 with
                | false =>
                  replace H := ite_f H
                  replace H := app_hid H
                  replace H := join_hid H
                  replace H := ite_f H
                  replace H := app_hid H
                  replace H := join_hid H
                  replace H := ite_f H
                  replace H := app_hid H
                  obtain rfl := ret_hid H
                  go_wp2_with fail
                  go_ret
                  exact ⟨rfl, HBwt_33.out⟩
                | true =>
                  replace H := ite_t H
                  replace H := bind_hid H
                  obtain ⟨t_45, qt_45, H⟩ := H
                  go_wp2_with fail
                  go_at_call 84
                  refine (Go.Proofs.Ytlljmgphgmklcaa.GiIsMinute.C (x_leave)  _    qt_45).mono ?_
                  rintro e_t_45 wt_45 ⟨rfl, bt_45⟩
                  have HBwt_45 := Lib.hid (Below.step HBwt_33.out bt_45)
                  replace kx_0_0 := cell_below bt_45 kx_0_0
                  replace kx_0_1 := cell_below bt_45 kx_0_1
                  replace kx_0_2 := cell_below bt_45 kx_0_2
                  replace kx_0_3 := cell_below bt_45 kx_0_3
                  replace kx_0_4 := cell_below bt_45 kx_0_4
                  replace kx_0_5 := cell_below bt_45 kx_0_5
                  replace kx_0_6 := cell_below bt_45 kx_0_6
                  replace kx_0_7 := cell_below bt_45 kx_0_7
                  replace kx_0_8 := cell_below bt_45 kx_0_8
                  clear bt_45
                  replace H := app_hid H
                  replace H := join_hid H
                  cases t_45 with
                  | false =>
                    replace H := ite_f H
                    replace H := app_hid H
                    replace H := join_hid H
                    replace H := ite_f H
                    replace H := app_hid H
                    obtain rfl := ret_hid H
                    go_wp2_with fail
                    go_ret
                    exact ⟨rfl, HBwt_45.out⟩
                  | true =>
                    replace H := ite_t H
                    replace H := bind_hid H
                    obtain ⟨t_50, qt_50, H⟩ := H
                    go_wp2_with fail
                    go_at_call 84
                    refine (Go.Proofs.Ytlljmgphgmklcaa.GiIsMinute.C (x_arrive)  _    qt_50).mono ?_
                    rintro e_t_50 wt_50 ⟨rfl, bt_50⟩
                    have HBwt_50 := Lib.hid (Below.step HBwt_45.out bt_50)
                    replace kx_0_0 := cell_below bt_50 kx_0_0
                    replace kx_0_1 := cell_below bt_50 kx_0_1
                    replace kx_0_2 := cell_below bt_50 kx_0_2
                    replace kx_0_3 := cell_below bt_50 kx_0_3
                    replace kx_0_4 := cell_below bt_50 kx_0_4
                    replace kx_0_5 := cell_below bt_50 kx_0_5
                    replace kx_0_6 := cell_below bt_50 kx_0_6
                    replace kx_0_7 := cell_below bt_50 kx_0_7
                    replace kx_0_8 := cell_below bt_50 kx_0_8
                    clear bt_50
                    replace H := app_hid H
                    replace H := join_hid H
                    cases t_50 with
                    | false =>
                      replace H := ite_f H
                      replace H := app_hid H
                      obtain rfl := ret_hid H
                      go_wp2_with fail
                      go_ret
                      exact ⟨rfl, HBwt_50.out⟩
                    | true =>
                      replace H := ite_t H
                      replace H := let_hid H
                      obtain ⟨t_57, ht_57, H⟩ := H
                      replace H := app_hid H
                      obtain rfl := ret_hid H
                      go_wp2_with fail
                      go_ret
                      exact ⟨rfl, HBwt_50.out⟩
end Go.Proofs.Ytlljmgphgmklcaa.GiIsCover

/- loop.example/g01062/laws.FnExactIsCover as a plain function, and the contract of the program's: where the plain one has an answer, the program has it. Conditions: slices read as lists. -/
namespace Go.Proofs.Ytlljmgphgmklcaa.GlFnExactIsCover
set_option linter.unusedVariables false
set_option linter.unusedSimpArgs false
open Go.RowKit
open Go.Proofs.Ytlljmgphgmklcaa.Rowed Go.Proofs.Ytlljmgphgmklcaa.Turn Go.Proofs.Ytlljmgphgmklcaa.Aid Go.Proofs.Ytlljmgphgmklcaa.GoP Go.Proofs.Ytlljmgphgmklcaa.GoM

def P (aX : Go.Proofs.Ytlljmgphgmklcaa.PCover.Cover) : Option (Bool) :=
  unCover aX fun (aX_id : Int) (aX_day : Int) (aX_zone : Int) (aX_grams : Int) (aX_paid : Int) (aX_from_ : Int) (aX_to_ : Int) (aX_leave : Int) (aX_arrive : Int) =>
  Option.bind (Go.Proofs.Ytlljmgphgmklcaa.GlToCover.P (Go.Proofs.Ytlljmgphgmklcaa.PCover.Cover.mk aX_id aX_day aX_zone aX_grams aX_paid aX_from_ aX_to_ aX_leave aX_arrive)) fun (t_3 : Go.Proofs.Ytlljmgphgmklcaa.PCover.Cover) =>
  unCover t_3 fun (t_3_id : Int) (t_3_day : Int) (t_3_zone : Int) (t_3_grams : Int) (t_3_paid : Int) (t_3_from_ : Int) (t_3_to_ : Int) (t_3_leave : Int) (t_3_arrive : Int) =>
  Option.bind (Go.Proofs.Ytlljmgphgmklcaa.GsIsCover.P (Go.Proofs.Ytlljmgphgmklcaa.PCover.Cover.mk t_3_id t_3_day t_3_zone t_3_grams t_3_paid t_3_from_ t_3_to_ t_3_leave t_3_arrive)) fun (t_4 : Bool) =>
  Option.bind (Go.Proofs.Ytlljmgphgmklcaa.GlToCover.P (Go.Proofs.Ytlljmgphgmklcaa.PCover.Cover.mk aX_id aX_day aX_zone aX_grams aX_paid aX_from_ aX_to_ aX_leave aX_arrive)) fun (t_7 : Go.Proofs.Ytlljmgphgmklcaa.PCover.Cover) =>
  unCover t_7 fun (t_7_id : Int) (t_7_day : Int) (t_7_zone : Int) (t_7_grams : Int) (t_7_paid : Int) (t_7_from_ : Int) (t_7_to_ : Int) (t_7_leave : Int) (t_7_arrive : Int) =>
  Option.bind (Go.Proofs.Ytlljmgphgmklcaa.GiIsCover.P (Go.Proofs.Ytlljmgphgmklcaa.PCover.Cover.mk t_7_id t_7_day t_7_zone t_7_grams t_7_paid t_7_from_ t_7_to_ t_7_leave t_7_arrive)) fun (t_8 : Bool) =>
  letK (!(t_8 == t_4)) fun (t_12 : Bool) =>
  iteK t_12
  (some false)
  (some true)

set_option maxRecDepth 100000 in
set_option maxHeartbeats 2000000 in
theorem C (aX : Go.Proofs.Ytlljmgphgmklcaa.PCover.Cover)   (w : World)   {r : Bool} (H : Hid (P aX = some r)) :
    Calls Try.prog 3 #[aX.val] w (Gives (.bool r) w) := by
  have HB := Lib.hid (Below.refl w.heap.size w)
  unfold P at H
  obtain ⟨aX_id, aX_day, aX_zone, aX_grams, aX_paid, aX_from_, aX_to_, aX_leave, aX_arrive⟩ := aX
  replace H := unCover_hid H
  unfold Go.Proofs.Ytlljmgphgmklcaa.PCover.Cover.val
  go_enter Try.func3, Try.ntmps3
  obtain ⟨w_aX_0, hw_aX_0⟩ : ∃ x, w.alloc (.cells #[.int .i64 aX_id, .int .i64 aX_day, .int .i64 aX_zone, .int .i64 aX_grams, .int .i64 aX_paid, .int .i64 aX_from_, .int .i64 aX_to_, .int .i64 aX_leave, .int .i64 aX_arrive] 23) = x := ⟨_, rfl⟩
  have bw_aX_0 : Below w.heap.size w w_aX_0 := by rw [← hw_aX_0]; exact (Below.refl _ _).alloc (Nat.le_refl _) _
  have HBw_aX_0 := Lib.hid (Below.step HB.out bw_aX_0)
  clear bw_aX_0
  have kaX_0_0 : w_aX_0.cell? ⟨w.heap.size, 0, none⟩ = some (.int .i64 aX_id) := by rw [← hw_aX_0]; exact box_new _ _ _ 0 _ rfl
  have kaX_0_1 : w_aX_0.cell? ⟨w.heap.size, 1, none⟩ = some (.int .i64 aX_day) := by rw [← hw_aX_0]; exact box_new _ _ _ 1 _ rfl
  have kaX_0_2 : w_aX_0.cell? ⟨w.heap.size, 2, none⟩ = some (.int .i64 aX_zone) := by rw [← hw_aX_0]; exact box_new _ _ _ 2 _ rfl
  have kaX_0_3 : w_aX_0.cell? ⟨w.heap.size, 3, none⟩ = some (.int .i64 aX_grams) := by rw [← hw_aX_0]; exact box_new _ _ _ 3 _ rfl
  have kaX_0_4 : w_aX_0.cell? ⟨w.heap.size, 4, none⟩ = some (.int .i64 aX_paid) := by rw [← hw_aX_0]; exact box_new _ _ _ 4 _ rfl
  have kaX_0_5 : w_aX_0.cell? ⟨w.heap.size, 5, none⟩ = some (.int .i64 aX_from_) := by rw [← hw_aX_0]; exact box_new _ _ _ 5 _ rfl
  have kaX_0_6 : w_aX_0.cell? ⟨w.heap.size, 6, none⟩ = some (.int .i64 aX_to_) := by rw [← hw_aX_0]; exact box_new _ _ _ 6 _ rfl
  have kaX_0_7 : w_aX_0.cell? ⟨w.heap.size, 7, none⟩ = some (.int .i64 aX_leave) := by rw [← hw_aX_0]; exact box_new _ _ _ 7 _ rfl
  have kaX_0_8 : w_aX_0.cell? ⟨w.heap.size, 8, none⟩ = some (.int .i64 aX_arrive) := by rw [← hw_aX_0]; exact box_new _ _ _ 8 _ rfl
  replace H := bind_hid H
  obtain ⟨t_3, qt_3, H⟩ := H
  obtain ⟨t_3_id, t_3_day, t_3_zone, t_3_grams, t_3_paid, t_3_from_, t_3_to_, t_3_leave, t_3_arrive⟩ := t_3
  replace H := unCover_hid H
  go_wp2_with fail
  go_at_call 17
  refine (Go.Proofs.Ytlljmgphgmklcaa.GlToCover.C ((Go.Proofs.Ytlljmgphgmklcaa.PCover.Cover.mk aX_id aX_day aX_zone aX_grams aX_paid aX_from_ aX_to_ aX_leave aX_arrive))  _    qt_3).mono ?_
  rintro e_t_3 wt_3 ⟨rfl, bt_3⟩
  unfold Go.Proofs.Ytlljmgphgmklcaa.PCover.Cover.val
  have HBwt_3 := Lib.hid (Below.step HBw_aX_0.out bt_3)
  replace kaX_0_0 := cell_below bt_3 kaX_0_0
  replace kaX_0_1 := cell_below bt_3 kaX_0_1
  replace kaX_0_2 := cell_below bt_3 kaX_0_2
  replace kaX_0_3 := cell_below bt_3 kaX_0_3
  replace kaX_0_4 := cell_below bt_3 kaX_0_4
  replace kaX_0_5 := cell_below bt_3 kaX_0_5
  replace kaX_0_6 := cell_below bt_3 kaX_0_6
  replace kaX_0_7 := cell_below bt_3 kaX_0_7
  replace kaX_0_8 := cell_below bt_3 kaX_0_8
  clear bt_3
  replace H := bind_hid H
  obtain ⟨t_4, qt_4, H⟩ := H
  go_wp2_with fail
  go_at_call 16
  refine (Go.Proofs.Ytlljmgphgmklcaa.GsIsCover.C ((Go.Proofs.Ytlljmgphgmklcaa.PCover.Cover.mk t_3_id t_3_day t_3_zone t_3_grams t_3_paid t_3_from_ t_3_to_ t_3_leave t_3_arrive))  _    qt_4).mono ?_
  rintro e_t_4 wt_4 ⟨rfl, bt_4⟩
  have HBwt_4 := Lib.hid (Below.step HBwt_3.out bt_4)
  replace kaX_0_0 := cell_below bt_4 kaX_0_0
  replace kaX_0_1 := cell_below bt_4 kaX_0_1
  replace kaX_0_2 := cell_below bt_4 kaX_0_2
  replace kaX_0_3 := cell_below bt_4 kaX_0_3
  replace kaX_0_4 := cell_below bt_4 kaX_0_4
  replace kaX_0_5 := cell_below bt_4 kaX_0_5
  replace kaX_0_6 := cell_below bt_4 kaX_0_6
  replace kaX_0_7 := cell_below bt_4 kaX_0_7
  replace kaX_0_8 := cell_below bt_4 kaX_0_8
  clear bt_4
  replace H := bind_hid H
  obtain ⟨t_7, qt_7, H⟩ := H
  obtain ⟨t_7_id, t_7_day, t_7_zone, t_7_grams, t_7_paid, t_7_from_, t_7_to_, t_7_leave, t_7_arrive⟩ := t_7
  replace H := unCover_hid H
  go_wp2_with fail
  go_at_call 17
  refine (Go.Proofs.Ytlljmgphgmklcaa.GlToCover.C ((Go.Proofs.Ytlljmgphgmklcaa.PCover.Cover.mk aX_id aX_day aX_zone aX_grams aX_paid aX_from_ aX_to_ aX_leave aX_arrive))  _    qt_7).mono ?_
  rintro e_t_7 wt_7 ⟨rfl, bt_7⟩
  unfold Go.Proofs.Ytlljmgphgmklcaa.PCover.Cover.val
  have HBwt_7 := Lib.hid (Below.step HBwt_4.out bt_7)
  replace kaX_0_0 := cell_below bt_7 kaX_0_0
  replace kaX_0_1 := cell_below bt_7 kaX_0_1
  replace kaX_0_2 := cell_below bt_7 kaX_0_2
  replace kaX_0_3 := cell_below bt_7 kaX_0_3
  replace kaX_0_4 := cell_below bt_7 kaX_0_4
  replace kaX_0_5 := cell_below bt_7 kaX_0_5
  replace kaX_0_6 := cell_below bt_7 kaX_0_6
  replace kaX_0_7 := cell_below bt_7 kaX_0_7
  replace kaX_0_8 := cell_below bt_7 kaX_0_8
  clear bt_7
  replace H := bind_hid H
  obtain ⟨t_8, qt_8, H⟩ := H
  go_wp2_with fail
  go_at_call 18
  refine (Go.Proofs.Ytlljmgphgmklcaa.GiIsCover.C ((Go.Proofs.Ytlljmgphgmklcaa.PCover.Cover.mk t_7_id t_7_day t_7_zone t_7_grams t_7_paid t_7_from_ t_7_to_ t_7_leave t_7_arrive))  _    qt_8).mono ?_
  rintro e_t_8 wt_8 ⟨rfl, bt_8⟩
  have HBwt_8 := Lib.hid (Below.step HBwt_7.out bt_8)
  replace kaX_0_0 := cell_below bt_8 kaX_0_0
  replace kaX_0_1 := cell_below bt_8 kaX_0_1
  replace kaX_0_2 := cell_below bt_8 kaX_0_2
  replace kaX_0_3 := cell_below bt_8 kaX_0_3
  replace kaX_0_4 := cell_below bt_8 kaX_0_4
  replace kaX_0_5 := cell_below bt_8 kaX_0_5
  replace kaX_0_6 := cell_below bt_8 kaX_0_6
  replace kaX_0_7 := cell_below bt_8 kaX_0_7
  replace kaX_0_8 := cell_below bt_8 kaX_0_8
  clear bt_8
  replace H := let_hid H
  obtain ⟨t_12, ht_12, H⟩ := H
  cases t_12 with
  | false =>
    replace H := ite_f H
    obtain rfl := ret_hid H
    go_wp2_with fail
    go_ret
    exact ⟨rfl, HBwt_8.out⟩
  | true =>
    replace H := ite_t H
    obtain rfl := ret_hid H
    go_wp2_with fail
    go_ret
    exact ⟨rfl, HBwt_8.out⟩
end Go.Proofs.Ytlljmgphgmklcaa.GlFnExactIsCover

/- Plain words on stamps: what a stamp is, when one is valid, when a list of them is; the cells of a list of records. No condition. -/
namespace Go.Proofs.Ytlljmgphgmklcaa.PlainStamp
set_option linter.unusedVariables false

/-- a number lies in a..b -/
def inB (x a b : Int) : Bool := decide (a ≤ x ∧ x ≤ b)
theorem inB_yes {x a b : Int} (h1 : a ≤ x) (h2 : x ≤ b) : inB x a b = true := by unfold inB; exact decide_eq_true ⟨h1, h2⟩
theorem inB_of {x a b : Int} (h : inB x a b = true) : a ≤ x ∧ x ≤ b := by unfold inB at h; exact of_decide_eq_true h
theorem inB_no {x a b : Int} (h : x < a ∨ b < x) : inB x a b = false := by unfold inB; exact decide_eq_false (by omega)

structure St where
  id : Int
  face : Int
  color : Int
  year : Int
deriving DecidableEq

def St.cells (s : St) : List Value := [.int .i64 s.id, .int .i64 s.face, .int .i64 s.color, .int .i64 s.year]
def St.val (s : St) : Value := .agg #[.int .i64 s.id, .int .i64 s.face, .int .i64 s.color, .int .i64 s.year]
/-- each field fits an int -/
def St.fits (s : St) : Prop := (Lit.int .i64 s.id).wf = true ∧ (Lit.int .i64 s.face).wf = true ∧ (Lit.int .i64 s.color).wf = true ∧ (Lit.int .i64 s.year).wf = true

def okSt (s : St) : Bool := inB s.id 1 999 && inB s.face 0 9999 && inB s.color 0 99 && inB s.year 1840 2100
theorem okSt_yes {s : St} (h : okSt s = true) : (1 ≤ s.id ∧ s.id ≤ 999) ∧ (0 ≤ s.face ∧ s.face ≤ 9999) ∧ (0 ≤ s.color ∧ s.color ≤ 99) ∧ (1840 ≤ s.year ∧ s.year ≤ 2100) := by
  unfold okSt at h
  simp only [Bool.and_eq_true] at h
  exact ⟨inB_of h.1.1.1, inB_of h.1.1.2, inB_of h.1.2, inB_of h.2⟩

/-- the stamp at k is valid, and its id is above the one ahead of it -/
def okAt (l : List St) (k : Nat) : Bool :=
  match l[k]? with
  | none => true
  | some s => okSt s && (decide (k = 0) || (match l[k-1]? with | none => true | some r => decide (r.id < s.id)))
def okUp (l : List St) (k : Nat) : Bool := (List.range k).all (okAt l)
theorem okUp_zero (l : List St) : okUp l 0 = true := by simp [okUp]
theorem okUp_succ (l : List St) (k : Nat) : okUp l (k + 1) = (okUp l k && okAt l k) := by simp [okUp, List.range_succ, List.all_append]
theorem okUp_not {l : List St} {k n : Nat} (h : okAt l k = false) (hk : k < n) : okUp l n = false := by
  unfold okUp
  rw [Bool.eq_false_iff]
  intro hall
  have := List.all_eq_true.1 hall k (List.mem_range.2 hk)
  rw [h] at this; exact absurd this (by simp)
/-- a list of at most twelve valid stamps with rising ids -/
def okSts (l : List St) : Bool := decide (l.length ≤ 12) && okUp l l.length
theorem okAt_of {l : List St} {k : Nat} {s : St} (hs : l[k]? = some s) (h : okAt l k = true) : okSt s = true ∧ ∀ r, 0 < k → l[k-1]? = some r → r.id < s.id := by
  unfold okAt at h
  rw [hs] at h
  simp only [Bool.and_eq_true, Bool.or_eq_true, decide_eq_true_eq] at h
  refine ⟨h.1, fun r hk hr => ?_⟩
  rcases h.2 with h0 | h0
  · omega
  · rw [hr] at h0; simpa using h0
theorem okSts_len {l : List St} (h : okSts l = true) : l.length ≤ 12 := by unfold okSts at h; simp only [Bool.and_eq_true, decide_eq_true_eq] at h; exact h.1
theorem okSts_at {l : List St} (h : okSts l = true) {k : Nat} {s : St} (hs : l[k]? = some s) : okSt s = true ∧ ∀ r, 0 < k → l[k-1]? = some r → r.id < s.id := by
  unfold okSts at h
  simp only [Bool.and_eq_true, decide_eq_true_eq] at h
  exact okAt_of hs (List.all_eq_true.1 h.2 k (List.mem_range.2 (List.getElem?_eq_some_iff.1 hs).1))
theorem okSts_mem {l : List St} (h : okSts l = true) {s : St} (hs : s ∈ l) : okSt s = true := by
  obtain ⟨k, hk⟩ := List.getElem?_of_mem hs
  exact (okSts_at h hk).1

/-- the cells of a list of stamps, one after the other -/
def flat (l : List St) : List Value := l.flatMap St.cells
theorem flat_nil : flat [] = [] := rfl
theorem flat_cons (s : St) (l : List St) : flat (s :: l) = s.cells ++ flat l := by simp [flat]
theorem flat_len (l : List St) : (flat l).length = l.length * 4 := by
  induction l with
  | nil => rfl
  | cons s l ih => rw [flat_cons, List.length_append, ih]; simp [St.cells]; omega
theorem flat_at : ∀ (l : List St) (k : Nat) (s : St), l[k]? = some s → ∀ j, j < 4 → (flat l)[k * 4 + j]? = s.cells[j]?
  | [], k, s, h, _, _ => by simp at h
  | r :: l, 0, s, h, j, hj => by
    obtain rfl : r = s := by simpa using h
    rw [flat_cons, List.getElem?_append_left (by simp [St.cells]; omega)]; simp
  | r :: l, k + 1, s, h, j, hj => by
    rw [flat_cons, List.getElem?_append_right (by simp [St.cells]; omega), show (k + 1) * 4 + j - r.cells.length = k * 4 + j by simp [St.cells]; omega]
    exact flat_at l k s (by simpa using h) j hj
end Go.Proofs.Ytlljmgphgmklcaa.PlainStamp

/- Words for reckoning with plain functions; within and l1In. No condition. -/
namespace Go.Proofs.Ytlljmgphgmklcaa.QBase
set_option linter.unusedVariables false
set_option linter.unusedSimpArgs false
open Go.RowKit
open Go.Proofs.Ytlljmgphgmklcaa.GoP Go.Proofs.Ytlljmgphgmklcaa.PlainStamp

theorem iteK_if {ρ : Type} (c : Bool) (a b : Option ρ) : iteK c a b = if c = true then a else b := by cases c <;> rfl
theorem bind2_some {α β ρ : Type} (a : α) (b : β) (f : α → β → Option ρ) : bind2 (some (a, b)) f = f a b := rfl
theorem bind3_some {α β γ ρ : Type} (a : α) (b : β) (c : γ) (f : α → β → γ → Option ρ) : bind3 (some (a, b, c)) f = f a b c := rfl
theorem unp2_mk {α β ρ : Type} (a : α) (b : β) (f : α → β → Option ρ) : unp2 (a, b) f = f a b := rfl
theorem unp3_mk {α β γ ρ : Type} (a : α) (b : β) (c : γ) (f : α → β → γ → Option ρ) : unp3 (a, b, c) f = f a b c := rfl
theorem guardK_pos {ρ : Type} {p : Prop} [Decidable p] {a : Option ρ} (h : p) : guardK p a = a := if_pos h
theorem cut2 {α β : Type} {x : Option (α × β)} {p : α × β} (h : x = some p) : x = some (p.1, p.2) := h
theorem cut3 {α β γ : Type} {x : Option (α × β × γ)} {p : α × β × γ} (h : x = some p) : x = some (p.1, p.2.1, p.2.2) := h
theorem within_eq (n a b : Int) : GiWithin.P n a b = some (inB n a b) := by
  simp only [GiWithin.P, letK, joinK, appK, iteK_if, inB]
  by_cases h1 : a ≤ n <;> by_cases h2 : n ≤ b <;> simp [h1, h2]
theorem l1In_eq (n a b : Int) : GsL1In.P n a b = some (inB n a b) := by
  simp only [GsL1In.P, letK, joinK, appK, iteK_if, inB]
  by_cases h1 : a ≤ n <;> by_cases h2 : n ≤ b <;> simp [h1, h2]
end Go.Proofs.Ytlljmgphgmklcaa.QBase

/- Reckoning with the loops of plain functions; lists of valid records with rising ids. No condition. -/
namespace Go.Proofs.Ytlljmgphgmklcaa.QLoop
set_option linter.unusedVariables false
open Go.RowKit
open Go.Proofs.Ytlljmgphgmklcaa.GoP Go.Proofs.Ytlljmgphgmklcaa.QBase

theorem cnt_ex {σ ρ : Type} {f : Nat → σ → (σ → Option ρ) → (σ → Option ρ) → Option ρ} {fin : σ → Option ρ} {Q : ρ → Prop} {n : Nat} (I : Nat → σ → Prop)
    (step : ∀ k s nx, k < n → I k s → (∀ s', I (k + 1) s' → ∃ r, nx s' = some r ∧ Q r) → ∃ r, f k s nx fin = some r ∧ Q r) (done : ∀ s, I n s → ∃ r, fin s = some r ∧ Q r) :
    ∀ m k s, k + m = n → I k s → ∃ r, cntK f m k s fin = some r ∧ Q r := by
  intro m
  induction m with
  | zero => intro k s hk hI; obtain rfl : k = n := by omega
            exact done s hI
  | succ m ih => intro k s hk hI; exact step k s _ (by omega) hI (fun s' h' => ih (k + 1) s' (by omega) h')
theorem cnt_is {σ ρ : Type} {f : Nat → σ → (σ → Option ρ) → (σ → Option ρ) → Option ρ} {fin : σ → Option ρ} {n : Nat} (r : ρ) (I : Nat → σ → Prop)
    (step : ∀ k s nx, k < n → I k s → (∀ s', I (k + 1) s' → nx s' = some r) → f k s nx fin = some r) (done : ∀ s, I n s → fin s = some r) (s : σ) (h0 : I 0 s) : cntK f n 0 s fin = some r := by
  obtain ⟨r', h, rfl⟩ := cnt_ex (Q := fun x => x = r) I (fun k s nx hk hI hn => ⟨r, step k s nx hk hI (fun s' h' => by obtain ⟨_, h, rfl⟩ := hn s' h'; exact h), rfl⟩) (fun s h => ⟨r, done s h, rfl⟩) n 0 s (by omega) h0
  exact h
theorem at_lt {α : Type} {l : List α} {k : Nat} (h : k < l.length) : ∃ x, l[k]? = some x ∧ idx l (k : Int) = some x := ⟨l[k], List.getElem?_eq_getElem h, by rw [idx_nat, List.getElem?_eq_getElem h]⟩
theorem idx_pred {α : Type} {l : List α} {k : Nat} {x : α} (hk : 0 < k) (hb : k ≤ 9223372036854775807) (h : l[k - 1]? = some x) : idx l (IntKind.i64.wrap ((k : Int) - 1)) = some x := by
  rw [IntWalk.i64_in _ (by omega), show ((k : Int) - 1) = ((k - 1 : Nat) : Int) by omega, idx_nat, h]
theorem take_next {α : Type} {l : List α} {k : Nat} {x : α} (h : l[k]? = some x) : l.take (k + 1) = l.take k ++ [x] := by
  obtain ⟨hk, e⟩ := List.getElem?_eq_some_iff.1 h
  rw [List.take_succ_eq_append_getElem hk, e]
theorem all_next {α : Type} {p : α → Bool} {l : List α} {k : Nat} {x : α} (h : l[k]? = some x) : (l.take (k + 1)).all p = ((l.take k).all p && p x) := by
  rw [take_next h]; simp
theorem not_all {α : Type} {p : α → Bool} {l : List α} {k : Nat} {x : α} (h : l[k]? = some x) (hp : p x = false) : l.all p = false := by
  rw [Bool.eq_false_iff]
  intro ha
  have := List.all_eq_true.1 ha x (List.mem_of_getElem? h)
  rw [hp] at this; exact absurd this (by simp)
theorem wrap_in {x : Int} (h1 : -9223372036854775808 ≤ x) (h2 : x ≤ 9223372036854775807) : IntKind.i64.wrap x = x := IntWalk.i64_in _ (by omega)

/-- valid, and above the one ahead of it -/
def upAt {α : Type} (ok : α → Bool) (id : α → Int) (l : List α) (k : Nat) : Bool :=
  match l[k]? with
  | none => true
  | some s => ok s && (decide (k = 0) || (match l[k-1]? with | none => true | some r => decide (id r < id s)))
def upTo {α : Type} (ok : α → Bool) (id : α → Int) (l : List α) (k : Nat) : Bool := (List.range k).all (upAt ok id l)
theorem upTo_zero {α : Type} (ok : α → Bool) (id : α → Int) (l : List α) : upTo ok id l 0 = true := rfl
theorem upTo_succ {α : Type} (ok : α → Bool) (id : α → Int) (l : List α) (k : Nat) : upTo ok id l (k + 1) = (upTo ok id l k && upAt ok id l k) := by simp [upTo, List.range_succ, List.all_append]
theorem upTo_not {α : Type} {ok : α → Bool} {id : α → Int} {l : List α} {k n : Nat} (h : upAt ok id l k = false) (hk : k < n) : upTo ok id l n = false := by
  unfold upTo
  rw [Bool.eq_false_iff]
  intro ha
  have := List.all_eq_true.1 ha k (List.mem_range.2 hk)
  rw [h] at this; exact absurd this (by simp)
/-- a list of at most m valid records with rising ids -/
def upL {α : Type} (m : Nat) (ok : α → Bool) (id : α → Int) (l : List α) : Bool := decide (l.length ≤ m) && upTo ok id l l.length
theorem upAt_bad {α : Type} {ok : α → Bool} {id : α → Int} {l : List α} {k : Nat} {s : α} (hs : l[k]? = some s) (h : ok s = false) : upAt ok id l k = false := by unfold upAt; rw [hs]; simp [h]
theorem upAt_first {α : Type} {ok : α → Bool} {id : α → Int} {l : List α} {s : α} (hs : l[0]? = some s) (h : ok s = true) : upAt ok id l 0 = true := by unfold upAt; rw [hs]; simp [h]
theorem upAt_next {α : Type} {ok : α → Bool} {id : α → Int} {l : List α} {k : Nat} {s r : α} (hs : l[k]? = some s) (hr : l[k-1]? = some r) (hk : 0 < k) (h : ok s = true) : upAt ok id l k = decide (id r < id s) := by
  unfold upAt; rw [hs]; simp only [hr, h, Bool.true_and, decide_eq_false (show ¬ k = 0 by omega), Bool.false_or]
theorem upL_len {α : Type} {m : Nat} {ok : α → Bool} {id : α → Int} {l : List α} (h : upL m ok id l = true) : l.length ≤ m := by unfold upL at h; simp only [Bool.and_eq_true, decide_eq_true_eq] at h; exact h.1
theorem upL_ok {α : Type} {m : Nat} {ok : α → Bool} {id : α → Int} {l : List α} (h : upL m ok id l = true) {k : Nat} {s : α} (hs : l[k]? = some s) : ok s = true := by
  unfold upL at h
  simp only [Bool.and_eq_true, decide_eq_true_eq] at h
  have := List.all_eq_true.1 h.2 k (List.mem_range.2 (List.getElem?_eq_some_iff.1 hs).1)
  unfold upAt at this
  rw [hs] at this
  simp only [Bool.and_eq_true] at this
  exact this.1
theorem upL_mem {α : Type} {m : Nat} {ok : α → Bool} {id : α → Int} {l : List α} (h : upL m ok id l = true) {s : α} (hs : s ∈ l) : ok s = true := by
  obtain ⟨k, hk⟩ := List.getElem?_of_mem hs
  exact upL_ok h hk
/-- a loop that goes through a list of records and stops with 'false' at the first that is bad -/
theorem up_loop {α : Type} {ok : α → Bool} {id : α → Int} {l : List α} {R : Type} {no : R} {f : Nat → Unit → (Unit → Option R) → (Unit → Option R) → Option R} {fin : Unit → Option R}
    (step : ∀ k nx s, l[k]? = some s → (ok s = false → f k () nx fin = some no) ∧ (ok s = true → (k = 0 → f k () nx fin = nx ()) ∧ (0 < k → ∀ r, l[k-1]? = some r → (id r < id s → f k () nx fin = nx ()) ∧ (id s ≤ id r → f k () nx fin = some no)))) :
    cntK f l.length 0 () fin = if upTo ok id l l.length then fin () else some no := by
  have key : ∀ m k, k + m = l.length → upTo ok id l k = true → cntK f m k () fin = if upTo ok id l l.length then fin () else some no := by
    intro m
    induction m with
    | zero => intro k hk hu; obtain rfl : k = l.length := by omega
              rw [hu]; rfl
    | succ m ih =>
      intro k hk hu
      have hlt : k < l.length := by omega
      obtain ⟨s, hs, _⟩ := at_lt hlt
      obtain ⟨h1, h2⟩ := step k (fun s' => cntK f m (k + 1) s' fin) s hs
      show f k () _ fin = _
      cases hok : ok s with
      | false => rw [h1 hok, upTo_not (upAt_bad hs hok) hlt]; rfl
      | true =>
        obtain ⟨h3, h4⟩ := h2 hok
        by_cases hk0 : k = 0
        · rw [h3 hk0]
          subst hk0
          exact ih 1 (by omega) (by rw [upTo_succ, hu, upAt_first hs hok]; rfl)
        · obtain ⟨r, hr, _⟩ := at_lt (l := l) (k := k - 1) (by omega)
          obtain ⟨h5, h6⟩ := h4 (by omega) r hr
          by_cases hlt2 : id r < id s
          · rw [h5 hlt2]
            exact ih (k + 1) (by omega) (by rw [upTo_succ, hu, upAt_next hs hr (by omega) hok]; simpa using hlt2)
          · rw [h6 (by omega), upTo_not (by rw [upAt_next hs hr (by omega) hok]; simpa using hlt2) hlt]; rfl
  exact key l.length 0 (by omega) (upTo_zero ok id l)
end Go.Proofs.Ytlljmgphgmklcaa.QLoop

/- Plain words on the record Rate: its fields, its cells, a list of it as cells one after the other. No condition. -/
namespace Go.Proofs.Ytlljmgphgmklcaa.PRate
set_option linter.unusedVariables false
set_option maxRecDepth 100000

structure Rate where
  zone : Int
  grams : Int
  from_ : Int
  until_ : Int
  cents : Int
def Rate.cells (s : Rate) : List Value := [.int .i64 s.zone, .int .i64 s.grams, .int .i64 s.from_, .int .i64 s.until_, .int .i64 s.cents]
def Rate.val (s : Rate) : Value := .agg #[.int .i64 s.zone, .int .i64 s.grams, .int .i64 s.from_, .int .i64 s.until_, .int .i64 s.cents]
/-- each field fits -/
def Rate.fits (s : Rate) : Prop := (Lit.int .i64 s.zone).wf = true ∧ (Lit.int .i64 s.grams).wf = true ∧ (Lit.int .i64 s.from_).wf = true ∧ (Lit.int .i64 s.until_).wf = true ∧ (Lit.int .i64 s.cents).wf = true
def zero : Rate := ⟨0, 0, 0, 0, 0⟩
/-- the letters of its texts -/
def Rate.wt (s : Rate) : Nat := 0
def wts (l : List Rate) : Nat := (l.map Rate.wt).sum
theorem wts_snoc (l : List Rate) (s : Rate) : wts (l ++ [s]) = wts l + s.wt := by unfold wts; simp [List.sum_append]
theorem wts_succ {l : List Rate} {k : Nat} {s : Rate} (h : l[k]? = some s) : wts (l.take (k + 1)) = wts (l.take k) + s.wt := by
  have hk := List.getElem?_eq_some_iff.1 h
  rw [List.take_succ_eq_append_getElem hk.1, hk.2, wts_snoc]
theorem wts_take (l : List Rate) (k : Nat) : wts (l.take k) ≤ wts l := by
  have : wts l = wts (l.take k) + wts (l.drop k) := by
    unfold wts; rw [← List.sum_append, ← List.map_append, List.take_append_drop]
  omega
theorem wts_all (l : List Rate) : wts (l.take l.length) = wts l := by rw [List.take_of_length_le (Nat.le_refl _)]

/-- the cells of a list of records, one after the other -/
def flat (l : List Rate) : List Value := l.flatMap Rate.cells
theorem flat_nil : flat [] = [] := rfl
theorem flat_cons (s : Rate) (l : List Rate) : flat (s :: l) = s.cells ++ flat l := by simp [flat]
theorem flat_snoc (l : List Rate) (s : Rate) : flat (l ++ [s]) = flat l ++ s.cells := by simp [flat]
theorem flat_len (l : List Rate) : (flat l).length = l.length * 5 := by
  induction l with
  | nil => rfl
  | cons s l ih => rw [flat_cons, List.length_append, ih]; simp [Rate.cells]; omega
theorem flat_at : ∀ (l : List Rate) (k : Nat) (s : Rate), l[k]? = some s → ∀ j, j < 5 → (flat l)[k * 5 + j]? = s.cells[j]?
  | [], k, s, h, _, _ => by simp at h
  | r :: l, 0, s, h, j, hj => by
    obtain rfl : r = s := by simpa using h
    rw [flat_cons, List.getElem?_append_left (by simp [Rate.cells]; omega)]; simp
  | r :: l, k + 1, s, h, j, hj => by
    rw [flat_cons, List.getElem?_append_right (by simp [Rate.cells]; omega), show (k + 1) * 5 + j - r.cells.length = k * 5 + j by simp [Rate.cells]; omega]
    exact flat_at l k s (by simpa using h) j hj
end Go.Proofs.Ytlljmgphgmklcaa.PRate

/- Plain words on the record rateClass: its fields, its cells, a list of it as cells one after the other. No condition. -/
namespace Go.Proofs.Ytlljmgphgmklcaa.PrateClass
set_option linter.unusedVariables false
set_option maxRecDepth 100000

structure rateClass where
  zone : Int
  grams : Int
def rateClass.cells (s : rateClass) : List Value := [.int .i64 s.zone, .int .i64 s.grams]
def rateClass.val (s : rateClass) : Value := .agg #[.int .i64 s.zone, .int .i64 s.grams]
/-- each field fits -/
def rateClass.fits (s : rateClass) : Prop := (Lit.int .i64 s.zone).wf = true ∧ (Lit.int .i64 s.grams).wf = true
def zero : rateClass := ⟨0, 0⟩
/-- the letters of its texts -/
def rateClass.wt (s : rateClass) : Nat := 0
def wts (l : List rateClass) : Nat := (l.map rateClass.wt).sum
theorem wts_snoc (l : List rateClass) (s : rateClass) : wts (l ++ [s]) = wts l + s.wt := by unfold wts; simp [List.sum_append]
theorem wts_succ {l : List rateClass} {k : Nat} {s : rateClass} (h : l[k]? = some s) : wts (l.take (k + 1)) = wts (l.take k) + s.wt := by
  have hk := List.getElem?_eq_some_iff.1 h
  rw [List.take_succ_eq_append_getElem hk.1, hk.2, wts_snoc]
theorem wts_take (l : List rateClass) (k : Nat) : wts (l.take k) ≤ wts l := by
  have : wts l = wts (l.take k) + wts (l.drop k) := by
    unfold wts; rw [← List.sum_append, ← List.map_append, List.take_append_drop]
  omega
theorem wts_all (l : List rateClass) : wts (l.take l.length) = wts l := by rw [List.take_of_length_le (Nat.le_refl _)]

/-- the cells of a list of records, one after the other -/
def flat (l : List rateClass) : List Value := l.flatMap rateClass.cells
theorem flat_nil : flat [] = [] := rfl
theorem flat_cons (s : rateClass) (l : List rateClass) : flat (s :: l) = s.cells ++ flat l := by simp [flat]
theorem flat_snoc (l : List rateClass) (s : rateClass) : flat (l ++ [s]) = flat l ++ s.cells := by simp [flat]
theorem flat_len (l : List rateClass) : (flat l).length = l.length * 2 := by
  induction l with
  | nil => rfl
  | cons s l ih => rw [flat_cons, List.length_append, ih]; simp [rateClass.cells]; omega
theorem flat_at : ∀ (l : List rateClass) (k : Nat) (s : rateClass), l[k]? = some s → ∀ j, j < 2 → (flat l)[k * 2 + j]? = s.cells[j]?
  | [], k, s, h, _, _ => by simp at h
  | r :: l, 0, s, h, j, hj => by
    obtain rfl : r = s := by simpa using h
    rw [flat_cons, List.getElem?_append_left (by simp [rateClass.cells]; omega)]; simp
  | r :: l, k + 1, s, h, j, hj => by
    rw [flat_cons, List.getElem?_append_right (by simp [rateClass.cells]; omega), show (k + 1) * 2 + j - r.cells.length = k * 2 + j by simp [rateClass.cells]; omega]
    exact flat_at l k s (by simpa using h) j hj
end Go.Proofs.Ytlljmgphgmklcaa.PrateClass

/- A record Rate opened into its fields. No condition. -/
namespace Go.Proofs.Ytlljmgphgmklcaa.GoP
set_option linter.unusedVariables false
open Go.RowKit
def unRate {ρ : Type} (s : Go.Proofs.Ytlljmgphgmklcaa.PRate.Rate) (f : Int → Int → Int → Int → Int → Option ρ) : Option ρ := f s.zone s.grams s.from_ s.until_ s.cents
theorem unRate_hid {ρ : Type} {x0 : Int} {x1 : Int} {x2 : Int} {x3 : Int} {x4 : Int} {f : Int → Int → Int → Int → Int → Option ρ} {r : ρ} (H : Hid (unRate ⟨x0, x1, x2, x3, x4⟩ f = some r)) : Hid (f x0 x1 x2 x3 x4 = some r) := H
end Go.Proofs.Ytlljmgphgmklcaa.GoP

/- A record rateClass opened into its fields. No condition. -/
namespace Go.Proofs.Ytlljmgphgmklcaa.GoP
set_option linter.unusedVariables false
open Go.RowKit
def unrateClass {ρ : Type} (s : Go.Proofs.Ytlljmgphgmklcaa.PrateClass.rateClass) (f : Int → Int → Option ρ) : Option ρ := f s.zone s.grams
theorem unrateClass_hid {ρ : Type} {x0 : Int} {x1 : Int} {f : Int → Int → Option ρ} {r : ρ} (H : Hid (unrateClass ⟨x0, x1⟩ f = some r)) : Hid (f x0 x1 = some r) := H
end Go.Proofs.Ytlljmgphgmklcaa.GoP

/- loop.example/g01062/impl.IsRate as a plain function, and the contract of the program's: where the plain one has an answer, the program has it. Conditions: slices read as lists. -/
namespace Go.Proofs.Ytlljmgphgmklcaa.GiIsRate
set_option linter.unusedVariables false
set_option linter.unusedSimpArgs false
open Go.RowKit
open Go.Proofs.Ytlljmgphgmklcaa.Rowed Go.Proofs.Ytlljmgphgmklcaa.Turn Go.Proofs.Ytlljmgphgmklcaa.Aid Go.Proofs.Ytlljmgphgmklcaa.GoP Go.Proofs.Ytlljmgphgmklcaa.GoM

def P (r_0 : Go.Proofs.Ytlljmgphgmklcaa.PRate.Rate) : Option (Bool) :=
  unRate r_0 fun (r_0_zone : Int) (r_0_grams : Int) (r_0_from_ : Int) (r_0_until_ : Int) (r_0_cents : Int) =>
  Option.bind (Go.Proofs.Ytlljmgphgmklcaa.GiIsZone.P r_0_zone) fun (t_4 : Bool) =>
  joinK (fun (t_9 : Bool) =>
  joinK (fun (t_14 : Bool) =>
  joinK (fun (t_19 : Bool) =>
  joinK (fun (t_24 : Bool) =>
  joinK (fun (t_31 : Bool) =>
  some t_31) fun jt_31 => iteK t_24 (letK (decide (r_0_from_ ≤ r_0_until_)) fun (t_30 : Bool) =>
  appK jt_31 t_30) (appK jt_31 false)) fun jt_24 => iteK t_19 (Option.bind (Go.Proofs.Ytlljmgphgmklcaa.GiIsDay.P r_0_until_) fun (t_23 : Bool) =>
  appK jt_24 t_23) (appK jt_24 false)) fun jt_19 => iteK t_14 (Option.bind (Go.Proofs.Ytlljmgphgmklcaa.GiIsDay.P r_0_from_) fun (t_18 : Bool) =>
  appK jt_19 t_18) (appK jt_19 false)) fun jt_14 => iteK t_9 (Option.bind (Go.Proofs.Ytlljmgphgmklcaa.GiIsRateCents.P r_0_cents) fun (t_13 : Bool) =>
  appK jt_14 t_13) (appK jt_14 false)) fun jt_9 => iteK t_4 (Option.bind (Go.Proofs.Ytlljmgphgmklcaa.GiIsWeight.P r_0_grams) fun (t_8 : Bool) =>
  appK jt_9 t_8) (appK jt_9 false)

set_option maxRecDepth 100000 in
set_option maxHeartbeats 2000000 in
theorem C (r_0 : Go.Proofs.Ytlljmgphgmklcaa.PRate.Rate)   (w : World)   {r : Bool} (H : Hid (P r_0 = some r)) :
    Calls Try.prog 132 #[r_0.val] w (Gives (.bool r) w) := by
  have HB := Lib.hid (Below.refl w.heap.size w)
  unfold P at H
  obtain ⟨r_0_zone, r_0_grams, r_0_from_, r_0_until_, r_0_cents⟩ := r_0
  replace H := unRate_hid H
  unfold Go.Proofs.Ytlljmgphgmklcaa.PRate.Rate.val
  go_enter Try.func132, Try.ntmps132
  obtain ⟨w_r_0, hw_r_0⟩ : ∃ x, w.alloc (.cells #[.int .i64 r_0_zone, .int .i64 r_0_grams, .int .i64 r_0_from_, .int .i64 r_0_until_, .int .i64 r_0_cents] 104) = x := ⟨_, rfl⟩
  have bw_r_0 : Below w.heap.size w w_r_0 := by rw [← hw_r_0]; exact (Below.refl _ _).alloc (Nat.le_refl _) _
  have HBw_r_0 := Lib.hid (Below.step HB.out bw_r_0)
  clear bw_r_0
  have kr_0_0 : w_r_0.cell? ⟨w.heap.size, 0, none⟩ = some (.int .i64 r_0_zone) := by rw [← hw_r_0]; exact box_new _ _ _ 0 _ rfl
  have kr_0_1 : w_r_0.cell? ⟨w.heap.size, 1, none⟩ = some (.int .i64 r_0_grams) := by rw [← hw_r_0]; exact box_new _ _ _ 1 _ rfl
  have kr_0_2 : w_r_0.cell? ⟨w.heap.size, 2, none⟩ = some (.int .i64 r_0_from_) := by rw [← hw_r_0]; exact box_new _ _ _ 2 _ rfl
  have kr_0_3 : w_r_0.cell? ⟨w.heap.size, 3, none⟩ = some (.int .i64 r_0_until_) := by rw [← hw_r_0]; exact box_new _ _ _ 3 _ rfl
  have kr_0_4 : w_r_0.cell? ⟨w.heap.size, 4, none⟩ = some (.int .i64 r_0_cents) := by rw [← hw_r_0]; exact box_new _ _ _ 4 _ rfl
  replace H := bind_hid H
  obtain ⟨t_4, qt_4, H⟩ := H
  go_wp2_with fail
  go_at_call 80
  refine (Go.Proofs.Ytlljmgphgmklcaa.GiIsZone.C (r_0_zone)  _    qt_4).mono ?_
  rintro e_t_4 wt_4 ⟨rfl, bt_4⟩
  have HBwt_4 := Lib.hid (Below.step HBw_r_0.out bt_4)
  replace kr_0_0 := cell_below bt_4 kr_0_0
  replace kr_0_1 := cell_below bt_4 kr_0_1
  replace kr_0_2 := cell_below bt_4 kr_0_2
  replace kr_0_3 := cell_below bt_4 kr_0_3
  replace kr_0_4 := cell_below bt_4 kr_0_4
  clear bt_4
  replace H := join_hid H
  cases t_4 with
  | false =>
    replace H := ite_f H
    replace H := app_hid H
    replace H := join_hid H
    replace H := ite_f H
    replace H := app_hid H
    replace H := join_hid H
    replace H := ite_f H
    replace H := app_hid H
    replace H := join_hid H
    replace H := ite_f H
    replace H := app_hid H
    replace H := join_hid H
    replace H := ite_f H
    replace H := app_hid H
    obtain rfl := ret_hid H
    go_wp2_with fail
    go_ret
    exact ⟨rfl, HBwt_4.out⟩
  | true =>
    replace H := ite_t H
    replace H := bind_hid H
    obtain ⟨t_8, qt_8, H⟩ := H
    go_wp2_with fail
    go_at_call 81
    refine (Go.Proofs.Ytlljmgphgmklcaa.GiIsWeight.C (r_0_grams)  _    qt_8).mono ?_
    rintro e_t_8 wt_8 ⟨rfl, bt_8⟩
    have HBwt_8 := Lib.hid (Below.step HBwt_4.out bt_8)
    replace kr_0_0 := cell_below bt_8 kr_0_0
    replace kr_0_1 := cell_below bt_8 kr_0_1
    replace kr_0_2 := cell_below bt_8 kr_0_2
    replace kr_0_3 := cell_below bt_8 kr_0_3
    replace kr_0_4 := cell_below bt_8 kr_0_4
    clear bt_8
    replace H := app_hid H
    replace H := join_hid H
    cases t_8 with
    | false =>
      replace H := ite_f H
      replace H := app_hid H
      replace H := join_hid H
      replace H := ite_f H
      replace H := app_hid H
      replace H := join_hid H
      replace H := ite_f H
      replace H := app_hid H
      replace H := join_hid H
      replace H := ite_f H
      replace H := app_hid H
      obtain rfl := ret_hid H
      go_wp2_with fail
      go_ret
      exact ⟨rfl, HBwt_8.out⟩
    | true =>
      replace H := ite_t H
      replace H := bind_hid H
      obtain ⟨t_13, qt_13, H⟩ := H
      go_wp2_with fail
      go_at_call 82
      refine (Go.Proofs.Ytlljmgphgmklcaa.GiIsRateCents.C (r_0_cents)  _    qt_13).mono ?_
      rintro e_t_13 wt_13 ⟨rfl, bt_13⟩
      have HBwt_13 := Lib.hid (Below.step HBwt_8.out bt_13)
      replace kr_0_0 := cell_below bt_13 kr_0_0
      replace kr_0_1 := cell_below bt_13 kr_0_1
      replace kr_0_2 := cell_below bt_13 kr_0_2
      replace kr_0_3 := cell_below bt_13 kr_0_3
      replace kr_0_4 := cell_below bt_13 kr_0_4
      clear bt_13
      replace H := app_hid H
      replace H := join_hid H
      cases t_13 with
      | false =>
        replace H := ite_f H
        replace H := app_hid H
        replace H := join_hid H
        replace H := ite_f H
        replace H := app_hid H
        replace H := join_hid H
        replace H := ite_f H
        replace H := app_hid H
        obtain rfl := ret_hid H
        go_wp2_with fail
        go_ret
        exact ⟨rfl, HBwt_13.out⟩
      | true =>
        replace H := ite_t H
        replace H := bind_hid H
        obtain ⟨t_18, qt_18, H⟩ := H
        go_wp2_with fail
        go_at_call 79
        refine (Go.Proofs.Ytlljmgphgmklcaa.GiIsDay.C (r_0_from_)  _    qt_18).mono ?_
        rintro e_t_18 wt_18 ⟨rfl, bt_18⟩
        have HBwt_18 := Lib.hid (Below.step HBwt_13.out bt_18)
        replace kr_0_0 := cell_below bt_18 kr_0_0
        replace kr_0_1 := cell_below bt_18 kr_0_1
        replace kr_0_2 := cell_below bt_18 kr_0_2
        replace kr_0_3 := cell_below bt_18 kr_0_3
        replace kr_0_4 := cell_below bt_18 kr_0_4
        clear bt_18
        replace H := app_hid H
        replace H := join_hid H
        cases t_18 with
        | false =>
          replace H := ite_f H
          replace H := app_hid H
          replace H := join_hid H
          replace H := ite_f H
          replace H := app_hid H
          obtain rfl := ret_hid H
          go_wp2_with fail
          go_ret
          exact ⟨rfl, HBwt_18.out⟩
        | true =>
          replace H := ite_t H
          replace H := bind_hid H
          obtain ⟨t_23, qt_23, H⟩ := H
          go_wp2_with fail
          go_at_call 79
          refine (Go.Proofs.Ytlljmgphgmklcaa.GiIsDay.C (r_0_until_)  _    qt_23).mono ?_
          rintro e_t_23 wt_23 ⟨rfl, bt_23⟩
          have HBwt_23 := Lib.hid (Below.step HBwt_18.out bt_23)
          replace kr_0_0 := cell_below bt_23 kr_0_0
          replace kr_0_1 := cell_below bt_23 kr_0_1
          replace kr_0_2 := cell_below bt_23 kr_0_2
          replace kr_0_3 := cell_below bt_23 kr_0_3
          replace kr_0_4 := cell_below bt_23 kr_0_4
          clear bt_23
          replace H := app_hid H
          replace H := join_hid H
          cases t_23 with
          | false =>
            replace H := ite_f H
            replace H := app_hid H
            obtain rfl := ret_hid H
            go_wp2_with fail
            go_ret
            exact ⟨rfl, HBwt_23.out⟩
          | true =>
            replace H := ite_t H
            replace H := let_hid H
            obtain ⟨t_30, ht_30, H⟩ := H
            replace H := app_hid H
            obtain rfl := ret_hid H
            go_wp2_with fail
            go_ret
            exact ⟨rfl, HBwt_23.out⟩
end Go.Proofs.Ytlljmgphgmklcaa.GiIsRate

/- loop.example/g01062/spec.l8One as a plain function, and the contract of the program's: where the plain one has an answer, the program has it. Conditions: slices read as lists. -/
namespace Go.Proofs.Ytlljmgphgmklcaa.GsL8One
set_option linter.unusedVariables false
set_option linter.unusedSimpArgs false
open Go.RowKit
open Go.Proofs.Ytlljmgphgmklcaa.Rowed Go.Proofs.Ytlljmgphgmklcaa.Turn Go.Proofs.Ytlljmgphgmklcaa.Aid Go.Proofs.Ytlljmgphgmklcaa.GoP Go.Proofs.Ytlljmgphgmklcaa.GoM

def P (r_0 : Go.Proofs.Ytlljmgphgmklcaa.PRate.Rate) : Option (Bool) :=
  unRate r_0 fun (r_0_zone : Int) (r_0_grams : Int) (r_0_from_ : Int) (r_0_until_ : Int) (r_0_cents : Int) =>
  Option.bind (Go.Proofs.Ytlljmgphgmklcaa.GsL8Zone.P r_0_zone) fun (t_4 : Bool) =>
  joinK (fun (t_9 : Bool) =>
  joinK (fun (t_14 : Bool) =>
  joinK (fun (t_21 : Bool) =>
  joinK (fun (t_26 : Bool) =>
  some t_26) fun jt_26 => iteK t_21 (Option.bind (Go.Proofs.Ytlljmgphgmklcaa.GsL8Cents.P r_0_cents) fun (t_25 : Bool) =>
  appK jt_26 t_25) (appK jt_26 false)) fun jt_21 => iteK t_14 (Option.bind (Go.Proofs.Ytlljmgphgmklcaa.GsL1In.P r_0_from_ 0 r_0_until_) fun (t_20 : Bool) =>
  appK jt_21 t_20) (appK jt_21 false)) fun jt_14 => iteK t_9 (Option.bind (Go.Proofs.Ytlljmgphgmklcaa.GsL2Day.P r_0_until_) fun (t_13 : Bool) =>
  appK jt_14 t_13) (appK jt_14 false)) fun jt_9 => iteK t_4 (Option.bind (Go.Proofs.Ytlljmgphgmklcaa.GsL8Grams.P r_0_grams) fun (t_8 : Bool) =>
  appK jt_9 t_8) (appK jt_9 false)

set_option maxRecDepth 100000 in
set_option maxHeartbeats 2000000 in
theorem C (r_0 : Go.Proofs.Ytlljmgphgmklcaa.PRate.Rate)   (w : World)   {r : Bool} (H : Hid (P r_0 = some r)) :
    Calls Try.prog 141 #[r_0.val] w (Gives (.bool r) w) := by
  have HB := Lib.hid (Below.refl w.heap.size w)
  unfold P at H
  obtain ⟨r_0_zone, r_0_grams, r_0_from_, r_0_until_, r_0_cents⟩ := r_0
  replace H := unRate_hid H
  unfold Go.Proofs.Ytlljmgphgmklcaa.PRate.Rate.val
  go_enter Try.func141, Try.ntmps141
  obtain ⟨w_r_0, hw_r_0⟩ : ∃ x, w.alloc (.cells #[.int .i64 r_0_zone, .int .i64 r_0_grams, .int .i64 r_0_from_, .int .i64 r_0_until_, .int .i64 r_0_cents] 104) = x := ⟨_, rfl⟩
  have bw_r_0 : Below w.heap.size w w_r_0 := by rw [← hw_r_0]; exact (Below.refl _ _).alloc (Nat.le_refl _) _
  have HBw_r_0 := Lib.hid (Below.step HB.out bw_r_0)
  clear bw_r_0
  have kr_0_0 : w_r_0.cell? ⟨w.heap.size, 0, none⟩ = some (.int .i64 r_0_zone) := by rw [← hw_r_0]; exact box_new _ _ _ 0 _ rfl
  have kr_0_1 : w_r_0.cell? ⟨w.heap.size, 1, none⟩ = some (.int .i64 r_0_grams) := by rw [← hw_r_0]; exact box_new _ _ _ 1 _ rfl
  have kr_0_2 : w_r_0.cell? ⟨w.heap.size, 2, none⟩ = some (.int .i64 r_0_from_) := by rw [← hw_r_0]; exact box_new _ _ _ 2 _ rfl
  have kr_0_3 : w_r_0.cell? ⟨w.heap.size, 3, none⟩ = some (.int .i64 r_0_until_) := by rw [← hw_r_0]; exact box_new _ _ _ 3 _ rfl
  have kr_0_4 : w_r_0.cell? ⟨w.heap.size, 4, none⟩ = some (.int .i64 r_0_cents) := by rw [← hw_r_0]; exact box_new _ _ _ 4 _ rfl
  replace H := bind_hid H
  obtain ⟨t_4, qt_4, H⟩ := H
  go_wp2_with fail
  go_at_call 139
  refine (Go.Proofs.Ytlljmgphgmklcaa.GsL8Zone.C (r_0_zone)  _    qt_4).mono ?_
  rintro e_t_4 wt_4 ⟨rfl, bt_4⟩
  have HBwt_4 := Lib.hid (Below.step HBw_r_0.out bt_4)
  replace kr_0_0 := cell_below bt_4 kr_0_0
  replace kr_0_1 := cell_below bt_4 kr_0_1
  replace kr_0_2 := cell_below bt_4 kr_0_2
  replace kr_0_3 := cell_below bt_4 kr_0_3
  replace kr_0_4 := cell_below bt_4 kr_0_4
  clear bt_4
  replace H := join_hid H
  cases t_4 with
  | false =>
    replace H := ite_f H
    replace H := app_hid H
    replace H := join_hid H
    replace H := ite_f H
    replace H := app_hid H
    replace H := join_hid H
    replace H := ite_f H
    replace H := app_hid H
    replace H := join_hid H
    replace H := ite_f H
    replace H := app_hid H
    obtain rfl := ret_hid H
    go_wp2_with fail
    go_ret
    exact ⟨rfl, HBwt_4.out⟩
  | true =>
    replace H := ite_t H
    replace H := bind_hid H
    obtain ⟨t_8, qt_8, H⟩ := H
    go_wp2_with fail
    go_at_call 134
    refine (Go.Proofs.Ytlljmgphgmklcaa.GsL8Grams.C (r_0_grams)  _    qt_8).mono ?_
    rintro e_t_8 wt_8 ⟨rfl, bt_8⟩
    have HBwt_8 := Lib.hid (Below.step HBwt_4.out bt_8)
    replace kr_0_0 := cell_below bt_8 kr_0_0
    replace kr_0_1 := cell_below bt_8 kr_0_1
    replace kr_0_2 := cell_below bt_8 kr_0_2
    replace kr_0_3 := cell_below bt_8 kr_0_3
    replace kr_0_4 := cell_below bt_8 kr_0_4
    clear bt_8
    replace H := app_hid H
    replace H := join_hid H
    cases t_8 with
    | false =>
      replace H := ite_f H
      replace H := app_hid H
      replace H := join_hid H
      replace H := ite_f H
      replace H := app_hid H
      replace H := join_hid H
      replace H := ite_f H
      replace H := app_hid H
      obtain rfl := ret_hid H
      go_wp2_with fail
      go_ret
      exact ⟨rfl, HBwt_8.out⟩
    | true =>
      replace H := ite_t H
      replace H := bind_hid H
      obtain ⟨t_13, qt_13, H⟩ := H
      go_wp2_with fail
      go_at_call 129
      refine (Go.Proofs.Ytlljmgphgmklcaa.GsL2Day.C (r_0_until_)  _    qt_13).mono ?_
      rintro e_t_13 wt_13 ⟨rfl, bt_13⟩
      have HBwt_13 := Lib.hid (Below.step HBwt_8.out bt_13)
      replace kr_0_0 := cell_below bt_13 kr_0_0
      replace kr_0_1 := cell_below bt_13 kr_0_1
      replace kr_0_2 := cell_below bt_13 kr_0_2
      replace kr_0_3 := cell_below bt_13 kr_0_3
      replace kr_0_4 := cell_below bt_13 kr_0_4
      clear bt_13
      replace H := app_hid H
      replace H := join_hid H
      cases t_13 with
      | false =>
        replace H := ite_f H
        replace H := app_hid H
        replace H := join_hid H
        replace H := ite_f H
        replace H := app_hid H
        obtain rfl := ret_hid H
        go_wp2_with fail
        go_ret
        exact ⟨rfl, HBwt_13.out⟩
      | true =>
        replace H := ite_t H
        replace H := bind_hid H
        obtain ⟨t_20, qt_20, H⟩ := H
        go_wp2_with fail
        go_at_call 113
        refine (Go.Proofs.Ytlljmgphgmklcaa.GsL1In.C (r_0_from_) (0) (r_0_until_)  _    qt_20).mono ?_
        rintro e_t_20 wt_20 ⟨rfl, bt_20⟩
        have HBwt_20 := Lib.hid (Below.step HBwt_13.out bt_20)
        replace kr_0_0 := cell_below bt_20 kr_0_0
        replace kr_0_1 := cell_below bt_20 kr_0_1
        replace kr_0_2 := cell_below bt_20 kr_0_2
        replace kr_0_3 := cell_below bt_20 kr_0_3
        replace kr_0_4 := cell_below bt_20 kr_0_4
        clear bt_20
        replace H := app_hid H
        replace H := join_hid H
        cases t_20 with
        | false =>
          replace H := ite_f H
          replace H := app_hid H
          obtain rfl := ret_hid H
          go_wp2_with fail
          go_ret
          exact ⟨rfl, HBwt_20.out⟩
        | true =>
          replace H := ite_t H
          replace H := bind_hid H
          obtain ⟨t_25, qt_25, H⟩ := H
          go_wp2_with fail
          go_at_call 130
          refine (Go.Proofs.Ytlljmgphgmklcaa.GsL8Cents.C (r_0_cents)  _    qt_25).mono ?_
          rintro e_t_25 wt_25 ⟨rfl, bt_25⟩
          have HBwt_25 := Lib.hid (Below.step HBwt_20.out bt_25)
          replace kr_0_0 := cell_below bt_25 kr_0_0
          replace kr_0_1 := cell_below bt_25 kr_0_1
          replace kr_0_2 := cell_below bt_25 kr_0_2
          replace kr_0_3 := cell_below bt_25 kr_0_3
          replace kr_0_4 := cell_below bt_25 kr_0_4
          clear bt_25
          replace H := app_hid H
          obtain rfl := ret_hid H
          go_wp2_with fail
          go_ret
          exact ⟨rfl, HBwt_25.out⟩
end Go.Proofs.Ytlljmgphgmklcaa.GsL8One

/- The contracts of the laws' helpers on slices of ints: toIntS, eqIntS, markIntS, heldIntS. Condition: the slice reads as a list of ints. -/
namespace Go.Proofs.Ytlljmgphgmklcaa.HelpInt
set_option linter.unusedVariables false
open Go.RowKit
open Go.Proofs.Ytlljmgphgmklcaa.Rowed

/-- ints as values -/
def iv (l : List Int) : List Value := l.map (Value.int .i64)
theorem iv_len (l : List Int) : (iv l).length = l.length := by simp [iv]
theorem iv_at (l : List Int) (k : Nat) : (iv l)[k]? = (l[k]?).map (Value.int .i64) := by simp [iv]
theorem iv_snoc (l : List Int) (x : Int) : iv (l ++ [x]) = iv l ++ [.int .i64 x] := by simp [iv]
/-- the slice 'A, n' reads as the ints l -/
abbrev Ints (w : World) (A : Option Addr) (n : Nat) (l : List Int) : Prop := Cells w 1 A n (iv l)
theorem add_none (b o n : Nat) : (⟨b, o, none⟩ : Addr).add n = ⟨b, o + n, none⟩ := by
  unfold Addr.add; split
  · rename_i h; subst h; rfl
  · rfl
theorem Ints.at_ {w : World} {A : Option Addr} {n k : Nat} {l : List Int} (h : Ints w A n l) (hk : k < n) : ∃ (b o : Nat) (x : Int), A = some ⟨b, o, none⟩ ∧ l[k]? = some x ∧ w.cell? ⟨b, o + k, none⟩ = some (.int .i64 x) := by
  have hl : k < l.length := by have := h.1; rw [iv_len] at this; omega
  obtain ⟨⟨b, o, sp⟩, e, hc⟩ := h.2 (by rw [iv_len]; omega)
  have h0 := hc 0 _ (by rw [iv_at, List.getElem?_eq_getElem (show 0 < l.length by omega)]; rfl)
  obtain rfl : sp = none := cell_spot (b := b) (o := o) h0
  have hs := List.getElem?_eq_getElem hl
  have := hc k (.int .i64 l[k]) (by rw [iv_at, hs]; rfl)
  rw [add_none] at this
  exact ⟨b, o, l[k], e, hs, this⟩

set_option maxHeartbeats 800000 in
/-- eqIntS, where both slices hold the same ints -/
theorem eq_same (A B : Option Addr) (n c d : Nat) (l : List Int) (w : World) (h1 : Ints w A n l) (h2 : Ints w B n l) (hn : n ≤ 9223372036854775807) :
    Calls Try.prog 34 #[.slice A n c, .slice B n d] w fun e w' => e = .returned (.bool true) ∧ DrawnTo w w' := by
  have H1 := Lib.hid h1
  have H2 := Lib.hid h2
  clear h1 h2
  go_enter Try.func34, Try.ntmps34
  go_wp2
  go_loopw [5] (fun i wr => ∃ k : Nat, k ≤ n ∧ i = .int .i64 k ∧ DrawnTo w wr) (fun i _ => n - (intOf i).toNat)
  case atStart => exact ⟨0, Nat.zero_le _, rfl, 0, rfl⟩
  case round =>
    obtain ⟨k, hk, rfl, m, rfl⟩ := hrel
    by_cases hlt : k < n
    · obtain ⟨ab, ao, x, rfl, hx, hc1⟩ := Ints.at_ H1.out hlt
      obtain ⟨bb, bo, y, rfl, hy, hc2⟩ := Ints.at_ H2.out hlt
      obtain rfl : x = y := by rw [hx] at hy; exact Option.some.inj hy
      clear hx hy
      have hb1 : 0 ≤ (k : Int) := by omega
      have hb2 : (k : Int) < n := by omega
      go_wp2_with fail
      go_quiet (fail)
      go_wp2_with fail
      go_roundw
      case rel => exact ⟨k + 1, by omega, by go_num, _, rfl⟩
      case measure => simp [intOf]; omega
    · go_wp2
      go_ret
      exact ⟨rfl, m, rfl⟩

/-- the marks k, k + 1, .. -/
def imarks (k n : Nat) : List Value := (List.range n).map fun i => Value.int .i64 ((k + i : Nat) : Int)
theorem imarks_len (k n : Nat) : (imarks k n).length = n := by simp [imarks]
theorem imarks_at (k n i : Nat) (h : i < n) : (imarks k n)[i]? = some (.int .i64 ((k + i : Nat) : Int)) := by
  unfold imarks; rw [List.getElem?_map, List.getElem?_range h]; rfl
theorem grown_of {W W' : World} (h : Below W.heap.size W W') : W.grownBy W' none := ⟨h.os, h.tape, h.output, h.size, fun k hk _ => h.block k hk⟩
theorem grown_tr {a b c : World} {r : Option Nat} (h : a.grownBy b r) (k : b.grownBy c r) : a.grownBy c r :=
  ⟨k.os.trans h.os, k.tape.trans h.tape, k.output.trans h.output, Nat.le_trans h.size k.size, fun i hi hr => (k.block i (Nat.lt_of_lt_of_le hi h.size) hr).trans (h.block i hi hr)⟩
theorem grown_refl (w : World) (r : Option Nat) : w.grownBy w r := ⟨rfl, rfl, rfl, Nat.le_refl _, fun _ _ _ => rfl⟩

def MarkRel (w : World) (base n c k : Nat) (A : Option Addr) (xs : List Value) (i : Nat) (wr : World) : Prop :=
  wr.ownsRow base 3 1 (.slice A n c) n (fill (imarks k n) xs i) ∧ w.grownBy wr (Value.slice A n c).ownBlock

theorem mark_next {w wr : World} {base n c k i : Nat} {A : Option Addr} {xs : List Value} (h : MarkRel w base n c k A xs i wr) (hxs : xs.length = n) (hi : i < n) :
    ∃ g y, A = some ⟨g, 0, none⟩ ∧ wr.cell? ⟨g, i, none⟩ = some y ∧ wr.frozen? ⟨g, i, none⟩ = false ∧ MarkRel w base n c k A xs (i + 1) (wr.setCell ⟨g, i, none⟩ (.int .i64 ((k + i : Nat) : Int))) := by
  obtain ⟨g, rfl⟩ : ∃ g, A = some ⟨g, 0, none⟩ := by
    rcases h.1.2 with ⟨_, h0⟩ | ⟨g, cap, cur, hv, _⟩
    · omega
    · injection hv with h1 h2 h3; exact ⟨g, h1⟩
  have h1 := h.1
  have hlen : (fill (imarks k n) xs i).length = n := by rw [fill_len _ _ _ (by rw [imarks_len, hxs])]; exact hxs
  have hc := h1.cellAt i (by omega)
  rw [List.getElem?_eq_getElem (by omega)] at hc
  refine ⟨g, _, rfl, hc, h1.frozenAt i, ?_, ?_⟩
  · have := (h1.stored i (.int .i64 ((k + i : Nat) : Int))).1
    rw [fill_set _ _ _ _ (by omega) (imarks_at k n i hi)] at this
    exact this
  · exact grown_tr h.2 (h1.stored i (.int .i64 ((k + i : Nat) : Int))).2

def MarkPost (w : World) (base n c k : Nat) (A : Option Addr) (e : Ending) (w' : World) : Prop :=
  e = .returned (.int .i64 ((k + n : Nat) : Int)) ∧ w'.ownsRow base 3 1 (.slice A n c) n (imarks k n) ∧ w.grownBy w' (Value.slice A n c).ownBlock

set_option maxHeartbeats 1000000 in
theorem mark_any (w : World) (base n c k : Nat) (A : Option Addr) (xs : List Value) (h : w.ownsRow base 3 1 (.slice A n c) n xs) (hn : n ≤ 1048576) (hk2 : k ≤ 100000000000) :
    Calls Try.prog 38 #[.slice A n c, .int .i64 (k : Int)] w (MarkPost w base n c k A) := by
  have hxs : Hid (xs.length = n) := Lib.hid (by have := h.1; omega)
  have HR0 : Hid (MarkRel w base n c k A xs 0 w) := Lib.hid ⟨by rw [fill_zero]; exact h, grown_refl _ _⟩
  clear h
  go_enter Try.func38, Try.ntmps38
  go_wp2_with fail
  go_loopw [1, 5] (fun t i wr => ∃ j : Nat, j ≤ n ∧ i = .int .i64 j ∧ t = .int .i64 ((k + j : Nat) : Int) ∧ Hid (MarkRel w base n c k A xs j wr)) (fun _ i _ => n - (intOf i).toNat)
  case atStart => exact ⟨0, Nat.zero_le _, rfl, rfl, HR0⟩
  case round =>
    obtain ⟨j, hj, rfl, rfl, HR⟩ := hrel
    by_cases hlt : j < n
    · obtain ⟨g, y, rfl, hc, hf, hR1⟩ := mark_next HR.out hxs.out hlt
      have HR1 := Lib.hid hR1
      clear hR1
      go_wp2_with fail
      go_roundw
      case rel => exact ⟨j + 1, by omega, by go_num, by go_num, HR1⟩
      case measure => simp [intOf]; omega
    · obtain rfl : j = n := by omega
      have HF := Lib.hid HR.out.1
      go_wp2_with fail
      go_ret
      exact ⟨rfl, by rw [← fill_all (imarks k j) xs (by rw [imarks_len]; exact hxs.out), imarks_len]; exact HF.out, HR.out.2⟩

set_option maxHeartbeats 1000000 in
theorem held_any (w : World) (n c k : Nat) (A : Option Addr) (h : Cells w 1 A n (imarks k n)) (hn : n ≤ 1048576) (hk2 : k ≤ 100000000000) :
    Calls Try.prog 39 #[.slice A n c, .int .i64 (k : Int)] w fun e w' => e = .returned (.int .i64 ((k + n : Nat) : Int)) ∧ w = w' := by
  have HH : Hid (Ints w A n ((List.range n).map fun i => ((k + i : Nat) : Int))) := Lib.hid (by show Cells w 1 A n _; unfold iv; rw [List.map_map]; exact h)
  clear h
  go_enter Try.func39, Try.ntmps39
  go_wp2_with fail
  go_loop [1, 5] (fun t i => ∃ j : Nat, j ≤ n ∧ i = .int .i64 j ∧ t = .int .i64 ((k + j : Nat) : Int)) (fun _ i => n - (intOf i).toNat)
  case atStart => exact ⟨0, Nat.zero_le _, rfl, rfl⟩
  case round =>
    obtain ⟨j, hj, rfl, rfl⟩ := hrel
    by_cases hlt : j < n
    · obtain ⟨ab, ao, x, rfl, hx, hc⟩ := Ints.at_ HH.out hlt
      rw [List.getElem?_map, List.getElem?_range hlt] at hx
      obtain rfl : ((k + j : Nat) : Int) = x := by simpa using hx
      clear hx
      go_wp2_with fail
      go_round
      case rel => exact ⟨j + 1, by omega, by go_num, by go_num⟩
      case measure => simp [intOf]; omega
    · obtain rfl : j = n := by omega
      go_wp2_with fail
      go_ret
      exact ⟨rfl, rfl⟩

/-- a slice that is owned, as a slice that reads -/
theorem own_cells {w : World} {base n c size : Nat} {A : Option Addr} {e : TypeId} {xs : List Value} (h : w.ownsRow base e size (.slice A n c) n xs) : Cells w size A n xs := by
  rcases h.2 with ⟨hv, h0⟩ | ⟨g, cap, cur, hv, _⟩
  · subst h0
    have := h.1
    exact ⟨h.1, fun hn => by omega⟩
  · injection hv with h1 h2 h3
    subst h1
    exact Cells.of_own h
theorem own_base_le {w : World} {base n c size b : Nat} {A : Option Addr} {e : TypeId} {xs : List Value} (h : w.ownsRow base e size (.slice A n c) n xs) (hb : (Value.slice A n c).ownBlock = some b) : base ≤ b ∧ b < w.heap.size := h.lt b hb
theorem own_below {w w' : World} {base n c size : Nat} {A : Option Addr} {e : TypeId} {xs : List Value} (h : w.ownsRow base e size (.slice A n c) n xs) (hb : Below w.heap.size w w') : w'.ownsRow base e size (.slice A n c) n xs :=
  h.kept (grown_of hb) (by cases (Value.slice A n c).ownBlock <;> simp)
/-- what is written is another block -/
theorem own_grown {w w' : World} {base n c size : Nat} {A : Option Addr} {e : TypeId} {xs : List Value} {r : Option Nat} (h : w.ownsRow base e size (.slice A n c) n xs) (hg : w.grownBy w' r) (hne : ∀ b, (Value.slice A n c).ownBlock = some b → r ≠ some b) : w'.ownsRow base e size (.slice A n c) n xs := by
  refine h.kept hg ?_
  cases ho : (Value.slice A n c).ownBlock with
  | none => exact .inl rfl
  | some b => exact .inr (fun e => hne b ho e.symm)
theorem cells_grown {w w' : World} {size n : Nat} {A : Option Addr} {xs : List Value} {r : Option Nat} (h : Cells w size A n xs) (hg : w.grownBy w' r) (hne : ∀ a, A = some a → r ≠ some a.block) : Cells w' size A n xs :=
  ⟨h.1, fun hn => by
    obtain ⟨ad, rfl, hc⟩ := h.2 hn
    exact ⟨_, rfl, fun j u hu => hg.cell (hc j u hu) (by rw [add_block]; exact fun e => hne ad rfl e.symm)⟩⟩
end Go.Proofs.Ytlljmgphgmklcaa.HelpInt

/- loop.example/g01062/impl.classOf as a plain function, and the contract of the program's: where the plain one has an answer, the program has it. Conditions: slices read as lists. -/
namespace Go.Proofs.Ytlljmgphgmklcaa.GiClassOf
set_option linter.unusedVariables false
set_option linter.unusedSimpArgs false
open Go.RowKit
open Go.Proofs.Ytlljmgphgmklcaa.Rowed Go.Proofs.Ytlljmgphgmklcaa.Turn Go.Proofs.Ytlljmgphgmklcaa.Aid Go.Proofs.Ytlljmgphgmklcaa.GoP Go.Proofs.Ytlljmgphgmklcaa.GoM

def P (r_0 : Go.Proofs.Ytlljmgphgmklcaa.PRate.Rate) : Option (Go.Proofs.Ytlljmgphgmklcaa.PrateClass.rateClass) :=
  unRate r_0 fun (r_0_zone : Int) (r_0_grams : Int) (r_0_from_ : Int) (r_0_until_ : Int) (r_0_cents : Int) =>
  some (Go.Proofs.Ytlljmgphgmklcaa.PrateClass.rateClass.mk r_0_zone r_0_grams)

set_option maxRecDepth 100000 in
set_option maxHeartbeats 2000000 in
theorem C (r_0 : Go.Proofs.Ytlljmgphgmklcaa.PRate.Rate)   (w : World)   {r : Go.Proofs.Ytlljmgphgmklcaa.PrateClass.rateClass} (H : Hid (P r_0 = some r)) :
    Calls Try.prog 127 #[r_0.val] w (Gives ((Go.Proofs.Ytlljmgphgmklcaa.PrateClass.rateClass.val r)) w) := by
  have HB := Lib.hid (Below.refl w.heap.size w)
  unfold P at H
  obtain ⟨r_0_zone, r_0_grams, r_0_from_, r_0_until_, r_0_cents⟩ := r_0
  replace H := unRate_hid H
  unfold Go.Proofs.Ytlljmgphgmklcaa.PRate.Rate.val
  go_enter Try.func127, Try.ntmps127
  obtain ⟨w_r_0, hw_r_0⟩ : ∃ x, w.alloc (.cells #[.int .i64 r_0_zone, .int .i64 r_0_grams, .int .i64 r_0_from_, .int .i64 r_0_until_, .int .i64 r_0_cents] 104) = x := ⟨_, rfl⟩
  have bw_r_0 : Below w.heap.size w w_r_0 := by rw [← hw_r_0]; exact (Below.refl _ _).alloc (Nat.le_refl _) _
  have HBw_r_0 := Lib.hid (Below.step HB.out bw_r_0)
  clear bw_r_0
  have kr_0_0 : w_r_0.cell? ⟨w.heap.size, 0, none⟩ = some (.int .i64 r_0_zone) := by rw [← hw_r_0]; exact box_new _ _ _ 0 _ rfl
  have kr_0_1 : w_r_0.cell? ⟨w.heap.size, 1, none⟩ = some (.int .i64 r_0_grams) := by rw [← hw_r_0]; exact box_new _ _ _ 1 _ rfl
  have kr_0_2 : w_r_0.cell? ⟨w.heap.size, 2, none⟩ = some (.int .i64 r_0_from_) := by rw [← hw_r_0]; exact box_new _ _ _ 2 _ rfl
  have kr_0_3 : w_r_0.cell? ⟨w.heap.size, 3, none⟩ = some (.int .i64 r_0_until_) := by rw [← hw_r_0]; exact box_new _ _ _ 3 _ rfl
  have kr_0_4 : w_r_0.cell? ⟨w.heap.size, 4, none⟩ = some (.int .i64 r_0_cents) := by rw [← hw_r_0]; exact box_new _ _ _ 4 _ rfl
  obtain ⟨w_t_1, hw_t_1⟩ : ∃ x, w_r_0.alloc (.cells #[.int .i64 0, .int .i64 0] 141) = x := ⟨_, rfl⟩
  have bw_t_1 : Below w_r_0.heap.size w_r_0 w_t_1 := by rw [← hw_t_1]; exact (Below.refl _ _).alloc (Nat.le_refl _) _
  have Dt_1_r_0 := Lib.hid (apart_box kr_0_0)
  have HBw_t_1 := Lib.hid (Below.step HBw_r_0.out bw_t_1)
  have kr_0_0__763 := cell_below bw_t_1 kr_0_0
  have kr_0_1__764 := cell_below bw_t_1 kr_0_1
  have kr_0_2__765 := cell_below bw_t_1 kr_0_2
  have kr_0_3__766 := cell_below bw_t_1 kr_0_3
  have kr_0_4__767 := cell_below bw_t_1 kr_0_4
  clear bw_t_1
  have kt_1_0 : w_t_1.cell? ⟨w_r_0.heap.size, 0, none⟩ = some (.int .i64 0) := by rw [← hw_t_1]; exact box_new _ _ _ 0 _ rfl
  have kt_1_1 : w_t_1.cell? ⟨w_r_0.heap.size, 1, none⟩ = some (.int .i64 0) := by rw [← hw_t_1]; exact box_new _ _ _ 1 _ rfl
  have Ot_1 : Hid (w_t_1.ownsRow w.heap.size 141 2 (.slice (some ⟨w_r_0.heap.size, 0, none⟩) 1 1) 1 [.int .i64 0, .int .i64 0]) := Lib.hid (by rw [← hw_t_1]; exact own_laid (n := 1) HBw_r_0.out.size rfl rfl (by unfold maxLen; omega))
  obtain ⟨wb7_7, hwb7_7⟩ : ∃ x, ((w_t_1).setCell ⟨w_r_0.heap.size, 0, none⟩ (.int .i64 r_0_zone)).setCell ⟨w_r_0.heap.size, 1, none⟩ (.int .i64 r_0_grams) = x := ⟨_, rfl⟩
  have z0b7_7 := Ot_1.out.frozenAt 0
  have z1b7_7 := Ot_1.out.frozenAt 1
  have Sb7_7 := Lib.hid (own_stores [(0, .int .i64 r_0_zone), (1, .int .i64 r_0_grams)] Ot_1.out)
  have Pb7_7 : Hid (wb7_7.ownsRow w.heap.size 141 2 (.slice (some ⟨w_r_0.heap.size, 0, none⟩) 1 1) 1 [.int .i64 r_0_zone, .int .i64 r_0_grams]) := Lib.hid (by rw [← hwb7_7]; exact Sb7_7.out.1)
  have Gb7_7 : Hid (w_t_1.grownBy wb7_7 (Value.slice (some ⟨w_r_0.heap.size, 0, none⟩) 1 1).ownBlock) := Lib.hid (by rw [← hwb7_7]; exact Sb7_7.out.2)
  have HBwb7_7 := Lib.hid (HBw_t_1.out.grown Gb7_7.out HBw_t_1.out.size (fun q hq => (Ot_1.out.lt q hq).1))
  clear Sb7_7
  have kr_0_0__768 := cell_other kr_0_0__763 Gb7_7.out Dt_1_r_0.out
  have kr_0_1__769 := cell_other kr_0_1__764 Gb7_7.out Dt_1_r_0.out
  have kr_0_2__770 := cell_other kr_0_2__765 Gb7_7.out Dt_1_r_0.out
  have kr_0_3__771 := cell_other kr_0_3__766 Gb7_7.out Dt_1_r_0.out
  have kr_0_4__772 := cell_other kr_0_4__767 Gb7_7.out Dt_1_r_0.out
  clear Ot_1 Gb7_7
  have kt_1_0__773 : wb7_7.cell? ⟨w_r_0.heap.size, 0, none⟩ = some (.int .i64 r_0_zone) := Pb7_7.out.cells rfl 0 _ rfl
  have kt_1_1__774 : wb7_7.cell? ⟨w_r_0.heap.size, 1, none⟩ = some (.int .i64 r_0_grams) := Pb7_7.out.cells rfl 1 _ rfl
  cases ret_hid H
  go_wp2_with fail
  (try simp only [Exit.inBlock, Exit.then])
  refine bodyPost_ret (v := .agg #[.int .i64 r_0_zone, .int .i64 r_0_grams]) ?hr_ ?hd_ ?_
  case hd_ => rfl
  case hr_ => simp [results, Try.results127, kt_1_0__773, kt_1_1__774, go_sem]
  exact ⟨rfl, HBwb7_7.out⟩
end Go.Proofs.Ytlljmgphgmklcaa.GiClassOf

/- cmp.isNaN[int] as a plain function, and the contract of the program's: where the plain one has an answer, the program has it. Conditions: slices read as lists. -/
namespace Go.Proofs.Ytlljmgphgmklcaa.GxCmpIsNaNInt
set_option linter.unusedVariables false
set_option linter.unusedSimpArgs false
open Go.RowKit
open Go.Proofs.Ytlljmgphgmklcaa.Rowed Go.Proofs.Ytlljmgphgmklcaa.Turn Go.Proofs.Ytlljmgphgmklcaa.Aid Go.Proofs.Ytlljmgphgmklcaa.GoP Go.Proofs.Ytlljmgphgmklcaa.GoM

def P (x : Int) : Option (Bool) :=
  some false

set_option maxRecDepth 100000 in
set_option maxHeartbeats 2000000 in
theorem C (x : Int)   (w : World)   {r : Bool} (H : Hid (P x = some r)) :
    Calls Try.prog 163 #[.int .i64 x] w (Gives (.bool r) w) := by
  have HB := Lib.hid (Below.refl w.heap.size w)
  unfold P at H
  go_enter Try.func163, Try.ntmps163
  obtain rfl := ret_hid H
  go_wp2_with fail
  go_ret
  exact ⟨rfl, HB.out⟩

set_option maxRecDepth 100000 in
set_option maxHeartbeats 2000000 in
theorem C0 (x : Int)   (w : World)   {r : Bool} (H : Hid (P x = some r)) :
    Calls Try.prog 163 #[.int .i64 x] w (fun e w'' => e = .returned (.bool r) ∧ w'' = w) := by
  have HB := Lib.hid (Below.refl w.heap.size w)
  unfold P at H
  go_enter Try.func163, Try.ntmps163
  obtain rfl := ret_hid H
  go_wp2_with fail
  go_ret
  exact ⟨rfl, rfl⟩
end Go.Proofs.Ytlljmgphgmklcaa.GxCmpIsNaNInt

/- cmp.Compare[int] as a plain function, and the contract of the program's: where the plain one has an answer, the program has it. Conditions: slices read as lists. -/
namespace Go.Proofs.Ytlljmgphgmklcaa.GxCmpCompareInt
set_option linter.unusedVariables false
set_option linter.unusedSimpArgs false
open Go.RowKit
open Go.Proofs.Ytlljmgphgmklcaa.Rowed Go.Proofs.Ytlljmgphgmklcaa.Turn Go.Proofs.Ytlljmgphgmklcaa.Aid Go.Proofs.Ytlljmgphgmklcaa.GoP Go.Proofs.Ytlljmgphgmklcaa.GoM

def P (x : Int) (y : Int) : Option (Int) :=
  Option.bind (Go.Proofs.Ytlljmgphgmklcaa.GxCmpIsNaNInt.P x) fun (t_2 : Bool) =>
  Option.bind (Go.Proofs.Ytlljmgphgmklcaa.GxCmpIsNaNInt.P y) fun (t_5 : Bool) =>
  iteK t_2
  (iteK t_5
  (some 0)
  (some (-1)))
  (iteK t_5
  (some 1)
  (letK (decide (x < y)) fun (t_15 : Bool) =>
  iteK t_15
  (some (-1))
  (letK (decide (y < x)) fun (t_19 : Bool) =>
  iteK t_19
  (some 1)
  (some 0))))

set_option maxRecDepth 100000 in
set_option maxHeartbeats 2000000 in
theorem C (x : Int) (y : Int)   (w : World)   {r : Int} (H : Hid (P x y = some r)) :
    Calls Try.prog 161 #[.int .i64 x, .int .i64 y] w (Gives (.int .i64 r) w) := by
  have HB := Lib.hid (Below.refl w.heap.size w)
  unfold P at H
  go_enter Try.func161, Try.ntmps161
  replace H := bind_hid H
  obtain ⟨t_2, qt_2, H⟩ := H
  go_wp2_with fail
  go_at_call 163
  refine (Go.Proofs.Ytlljmgphgmklcaa.GxCmpIsNaNInt.C (x)  _    qt_2).mono ?_
  rintro e_t_2 wt_2 ⟨rfl, bt_2⟩
  have HBwt_2 := Lib.hid (Below.step HB.out bt_2)
  clear bt_2
  replace H := bind_hid H
  obtain ⟨t_5, qt_5, H⟩ := H
  go_wp2_with fail
  go_at_call 163
  refine (Go.Proofs.Ytlljmgphgmklcaa.GxCmpIsNaNInt.C (y)  _    qt_5).mono ?_
  rintro e_t_5 wt_5 ⟨rfl, bt_5⟩
  have HBwt_5 := Lib.hid (Below.step HBwt_2.out bt_5)
  clear bt_5
  cases t_2 with
  | false =>
    replace H := ite_f H
    cases t_5 with
    | false =>
      replace H := ite_f H
      replace H := let_hid H
      obtain ⟨t_15, ht_15, H⟩ := H
      cases t_15 with
      | false =>
        replace H := ite_f H
        replace H := let_hid H
        obtain ⟨t_19, ht_19, H⟩ := H
        cases t_19 with
        | false =>
          replace H := ite_f H
          obtain rfl := ret_hid H
          go_wp2_with fail
          go_ret
          exact ⟨rfl, HBwt_5.out⟩
        | true =>
          replace H := ite_t H
          obtain rfl := ret_hid H
          go_wp2_with fail
          go_ret
          exact ⟨rfl, HBwt_5.out⟩
      | true =>
        replace H := ite_t H
        obtain rfl := ret_hid H
        go_wp2_with fail
        go_ret
        exact ⟨rfl, HBwt_5.out⟩
    | true =>
      replace H := ite_t H
      obtain rfl := ret_hid H
      go_wp2_with fail
      go_ret
      exact ⟨rfl, HBwt_5.out⟩
  | true =>
    replace H := ite_t H
    cases t_5 with
    | false =>
      replace H := ite_f H
      obtain rfl := ret_hid H
      go_wp2_with fail
      go_ret
      exact ⟨rfl, HBwt_5.out⟩
    | true =>
      replace H := ite_t H
      obtain rfl := ret_hid H
      go_wp2_with fail
      go_ret
      exact ⟨rfl, HBwt_5.out⟩
end Go.Proofs.Ytlljmgphgmklcaa.GxCmpCompareInt

/- cmp.Or[int] as a plain function, and the contract of the program's: where the plain one has an answer, the program has it. Conditions: slices read as lists. -/
namespace Go.Proofs.Ytlljmgphgmklcaa.GxCmpOrInt
set_option linter.unusedVariables false
set_option linter.unusedSimpArgs false
open Go.RowKit
open Go.Proofs.Ytlljmgphgmklcaa.Rowed Go.Proofs.Ytlljmgphgmklcaa.Turn Go.Proofs.Ytlljmgphgmklcaa.Aid Go.Proofs.Ytlljmgphgmklcaa.GoP Go.Proofs.Ytlljmgphgmklcaa.GoM

def l0 (vals : (List Int)) (k0 : Nat) (s : Unit) (nx0 bk0 : Unit → Option (Int)) : Option (Int) :=
  
  Option.bind (idx vals (k0 : Int)) fun (yt_6 : Int) =>
  letK (yt_6 != 0) fun (t_11 : Bool) =>
  iteK t_11
  (some yt_6)
  (appK nx0 ())

def e0  (s : Unit) : Option (Int) :=
  
  some 0

def P (vals : (List Int)) : Option (Int) :=
  cntK (l0 vals) (vals.length) 0 () (e0 )

set_option maxRecDepth 100000 in
set_option maxHeartbeats 2000000 in
theorem C (vals : (List Int)) (A0 : Option Addr) (c0 : Nat)  (w : World) (M0 : Hid (Cells w 1 A0 vals.length (Go.Proofs.Ytlljmgphgmklcaa.HelpInt.iv vals))) (N0 : Hid (vals.length ≤ 9223372036854775807))  {r : Int} (H : Hid (P vals = some r)) :
    Calls Try.prog 160 #[.slice A0 vals.length c0] w (Gives (.int .i64 r) w) := by
  have HB := Lib.hid (Below.refl w.heap.size w)
  unfold P at H
  have N0o := N0.out
  go_enter Try.func160, Try.ntmps160
  go_wp2_with fail
  go_loopg [8] (vals.length) (fun m_ v8_ wr => ∃ (k0 : Nat) , k0 + m_ = vals.length ∧ v8_ = .int .i64 (k0 : Int) ∧ Hid (cntK (l0 vals) m_ k0 () (e0 ) = some r) ∧ Hid (Below w.heap.size w wr))
  case atStart => exact ⟨0, by omega, rfl, H, HB⟩
  case round =>
    obtain ⟨k0, hkm0, rfl, H, HBwr0⟩ := hrel
    rename World => wr0
    cases gk with
    | zero =>
      obtain rfl : k0 = vals.length := by omega
      have hc0 : decide (((vals.length : Nat) : Int) < ((vals.length : Nat) : Int)) = false := by simp
      replace H := cnt_zero H
      unfold e0 at H
      obtain rfl := ret_hid H
      go_wp2_with fail
      go_ret
      exact ⟨rfl, HBwr0.out⟩
    | succ m0 =>
      have hlt0 : k0 < vals.length := by omega
      have hc0 : decide ((k0 : Int) < ((vals.length : Nat) : Int)) = true := by simp; omega
      replace H := cnt_succ H
      unfold l0 at H
      replace H := idx_hid H
      obtain ⟨nt_6, yt_6, et_6, lt_6, gt_6, H⟩ := H
      obtain rfl : k0 = nt_6 := by omega
      clear et_6
      obtain ⟨ab_t_6, ao_t_6, zt_6, At_6, z_t_6, ct_6_0⟩ := Go.Proofs.Ytlljmgphgmklcaa.HelpInt.Ints.at_ M0.out lt_6
      obtain rfl := Option.some.inj (gt_6.out.symm.trans z_t_6)
      subst At_6
      have ltt_6 := cell_lt ct_6_0
      replace ct_6_0 := cell_below HBwr0.out ct_6_0
      clear z_t_6
      have b0t_6 : (0 : Int) ≤ (k0 : Int) := by omega
      have b1t_6 : (k0 : Int) < ((vals.length : Nat) : Int) := by omega
      have b2t_6 : ((k0 : Int)).toNat = k0 := by omega
      replace H := let_hid H
      obtain ⟨t_11, ht_11, H⟩ := H
      cases t_11 with
      | false =>
        replace H := ite_f H
        replace H := app_hid H
        go_wp2_with fail
        go_roundg m0
        case measure => omega
        case rel => exact ⟨k0 + 1, by omega, by go_num, H, HBwr0⟩
      | true =>
        replace H := ite_t H
        obtain rfl := ret_hid H
        go_wp2_with fail
        go_ret
        exact ⟨rfl, HBwr0.out⟩
end Go.Proofs.Ytlljmgphgmklcaa.GxCmpOrInt

