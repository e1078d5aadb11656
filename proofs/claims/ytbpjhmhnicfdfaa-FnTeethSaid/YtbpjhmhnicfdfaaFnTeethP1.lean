/- The texts on which the proof of FnTeeth stands, one behind the other (1 of 3). No condition of their own. -/
import Derived.Lib.Hide
import Derived.Below
import Derived.Laws.OwnMore
import Derived.Laws.World
import Derived.Deep.Draws
import Derived.Lib.QuietBelow
import Derived.Lib.Strings
import Derived.OwnWalk
import Derived.Laws.Strings3
import Derived.Laws.AppendOwnNone
import Derived.Laws.DeepStrings4
import Derived.Laws.Slices
import Derived.Deep.Slices
import Derived.Laws.MakeOwn
import Derived.Maps.AppendAt
import Derived.Lib.LaidU8
import Derived.WalkKit
import Derived.WalkSpells
import Derived.Test.YtbpjhmhnicfdfaaChecked
import Derived.BigQuiet
import Derived.Deep.QuietTactic
import Derived.Laws.AppendOwn
import Derived.IntWalk
import Derived.Laws.Bits64
import Derived.Outline
import Derived.WalkLawsBesides
import Derived.Deep.LoopGhost
import Derived.Deep.AppendLies
import Derived.Deep.RegionHeld3
/- Words in which a Go function is written as a plain function that either has an answer or has none (a panic, or a loop that does not end in time); and how such a sentence is taken apart. No condition. -/
namespace Go.Proofs.Ytbpjhmhnicfdfaa.GoP
set_option linter.unusedVariables false
open Go.RowKit

def idx {α : Type} (l : List α) (i : Int) : Option α := if 0 ≤ i then l[i.toNat]? else none
def letK {α ρ : Type} (x : α) (f : α → Option ρ) : Option ρ := f x
def iteK {ρ : Type} (c : Bool) (a b : Option ρ) : Option ρ := match c with | true => a | false => b
def joinK {γ : Type} {ρ : Type} (rest : γ) (f : γ → Option ρ) : Option ρ := f rest
def appK {α ρ : Type} (j : α → Option ρ) (x : α) : Option ρ := j x
def guardK {ρ : Type} (p : Prop) [Decidable p] (a : Option ρ) : Option ρ := if p then a else none
def bind2 {α β ρ : Type} (x : Option (α × β)) (f : α → β → Option ρ) : Option ρ := match x with | none => none | some (a, b) => f a b
def bind3 {α β γ ρ : Type} (x : Option (α × β × γ)) (f : α → β → γ → Option ρ) : Option ρ := match x with | none => none | some (a, b, c) => f a b c
def bind4 {α β γ δ ρ : Type} (x : Option (α × β × γ × δ)) (f : α → β → γ → δ → Option ρ) : Option ρ := match x with | none => none | some (a, b, c, d) => f a b c d
def unp2 {α β ρ : Type} (s : α × β) (f : α → β → Option ρ) : Option ρ := f s.1 s.2
def unp3 {α β γ ρ : Type} (s : α × β × γ) (f : α → β → γ → Option ρ) : Option ρ := f s.1 s.2.1 s.2.2
def unp4 {α β γ δ ρ : Type} (s : α × β × γ × δ) (f : α → β → γ → δ → Option ρ) : Option ρ := f s.1 s.2.1 s.2.2.1 s.2.2.2
/-- m rounds, counted from k on -/
def cntK {σ ρ : Type} (f : Nat → σ → (σ → Option ρ) → (σ → Option ρ) → Option ρ) : Nat → Nat → σ → (σ → Option ρ) → Option ρ
  | 0, _, s, fin => fin s
  | m + 1, k, s, fin => f k s (fun s' => cntK f m (k + 1) s' fin) fin
/-- rounds until one ends the loop, n at most -/
def loopK {σ ρ : Type} (f : σ → (σ → Option ρ) → (σ → Option ρ) → Option ρ) : Nat → σ → (σ → Option ρ) → Option ρ
  | 0, _, _ => none
  | n + 1, s, fin => f s (fun s' => loopK f n s' fin) fin

theorem let_hid {α ρ : Type} {x : α} {f : α → Option ρ} {r : ρ} (H : Hid (letK x f = some r)) : ∃ y, x = y ∧ Hid (f y = some r) := ⟨x, rfl, H⟩
theorem bind_hid {α ρ : Type} {x : Option α} {f : α → Option ρ} {r : ρ} (H : Hid (x.bind f = some r)) : ∃ y, Hid (x = some y) ∧ Hid (f y = some r) := by
  have h : x.bind f = some r := H
  cases x with
  | none => simp at h
  | some y => exact ⟨y, rfl, h⟩
theorem bind2_hid {α β ρ : Type} {x : Option (α × β)} {f : α → β → Option ρ} {r : ρ} (H : Hid (bind2 x f = some r)) : ∃ a b, Hid (x = some (a, b)) ∧ Hid (f a b = some r) := by
  have h : bind2 x f = some r := H
  cases x with
  | none => simp [bind2] at h
  | some y => exact ⟨y.1, y.2, rfl, h⟩
theorem bind3_hid {α β γ ρ : Type} {x : Option (α × β × γ)} {f : α → β → γ → Option ρ} {r : ρ} (H : Hid (bind3 x f = some r)) : ∃ a b c, Hid (x = some (a, b, c)) ∧ Hid (f a b c = some r) := by
  have h : bind3 x f = some r := H
  cases x with
  | none => simp [bind3] at h
  | some y => exact ⟨y.1, y.2.1, y.2.2, rfl, h⟩
theorem bind4_hid {α β γ δ ρ : Type} {x : Option (α × β × γ × δ)} {f : α → β → γ → δ → Option ρ} {r : ρ} (H : Hid (bind4 x f = some r)) : ∃ a b c d, Hid (x = some (a, b, c, d)) ∧ Hid (f a b c d = some r) := by
  have h : bind4 x f = some r := H
  cases x with
  | none => simp [bind4] at h
  | some y => exact ⟨y.1, y.2.1, y.2.2.1, y.2.2.2, rfl, h⟩
theorem ite_t {ρ : Type} {a b : Option ρ} {r : ρ} (H : Hid (iteK true a b = some r)) : Hid (a = some r) := H
theorem ite_f {ρ : Type} {a b : Option ρ} {r : ρ} (H : Hid (iteK false a b = some r)) : Hid (b = some r) := H
theorem join_hid {γ ρ : Type} {j : γ} {f : γ → Option ρ} {r : ρ} (H : Hid (joinK j f = some r)) : Hid (f j = some r) := H
theorem app_hid {α ρ : Type} {j : α → Option ρ} {x : α} {r : ρ} (H : Hid (appK j x = some r)) : Hid (j x = some r) := H
theorem guard_hid {ρ : Type} {p : Prop} [Decidable p] {a : Option ρ} {r : ρ} (H : Hid (guardK p a = some r)) : p ∧ Hid (a = some r) := by
  have h : guardK p a = some r := H
  unfold guardK at h
  by_cases hp : p
  · rw [if_pos hp] at h; exact ⟨hp, h⟩
  · rw [if_neg hp] at h; simp at h
theorem unp2_hid {α β ρ : Type} {a : α} {b : β} {f : α → β → Option ρ} {r : ρ} (H : Hid (unp2 (a, b) f = some r)) : Hid (f a b = some r) := H
theorem unp3_hid {α β γ ρ : Type} {a : α} {b : β} {c : γ} {f : α → β → γ → Option ρ} {r : ρ} (H : Hid (unp3 (a, b, c) f = some r)) : Hid (f a b c = some r) := H
theorem unp4_hid {α β γ δ ρ : Type} {a : α} {b : β} {c : γ} {d : δ} {f : α → β → γ → δ → Option ρ} {r : ρ} (H : Hid (unp4 (a, b, c, d) f = some r)) : Hid (f a b c d = some r) := H
theorem cnt_zero {σ ρ : Type} {f : Nat → σ → (σ → Option ρ) → (σ → Option ρ) → Option ρ} {k : Nat} {s : σ} {fin : σ → Option ρ} {r : ρ} (H : Hid (cntK f 0 k s fin = some r)) : Hid (fin s = some r) := H
theorem cnt_succ {σ ρ : Type} {f : Nat → σ → (σ → Option ρ) → (σ → Option ρ) → Option ρ} {m k : Nat} {s : σ} {fin : σ → Option ρ} {r : ρ} (H : Hid (cntK f (m + 1) k s fin = some r)) :
    Hid (f k s (fun s' => cntK f m (k + 1) s' fin) fin = some r) := H
theorem loop_zero {σ ρ : Type} {f : σ → (σ → Option ρ) → (σ → Option ρ) → Option ρ} {s : σ} {fin : σ → Option ρ} {r : ρ} (H : Hid (loopK f 0 s fin = some r)) : False := by
  have h : loopK f 0 s fin = some r := H
  simp [loopK] at h
theorem loop_succ {σ ρ : Type} {f : σ → (σ → Option ρ) → (σ → Option ρ) → Option ρ} {n : Nat} {s : σ} {fin : σ → Option ρ} {r : ρ} (H : Hid (loopK f (n + 1) s fin = some r)) :
    Hid (f s (fun s' => loopK f n s' fin) fin = some r) := H
theorem ret_hid {ρ : Type} {v r : ρ} (H : Hid (some v = some r)) : v = r := Option.some.inj H
theorem none_hid {ρ : Type} {r : ρ} (H : Hid ((none : Option ρ) = some r)) : False := by
  have h : (none : Option ρ) = some r := H
  simp at h
theorem idx_hid {α ρ : Type} {l : List α} {i : Int} {f : α → Option ρ} {r : ρ} (H : Hid ((idx l i).bind f = some r)) :
    ∃ (k : Nat) (x : α), i = (k : Int) ∧ k < l.length ∧ Hid (l[k]? = some x) ∧ Hid (f x = some r) := by
  have h : (idx l i).bind f = some r := H
  unfold idx at h
  by_cases hi : 0 ≤ i
  · rw [if_pos hi] at h
    cases hx : l[i.toNat]? with
    | none => rw [hx] at h; simp at h
    | some x =>
      rw [hx] at h
      exact ⟨i.toNat, x, (Int.toNat_of_nonneg hi).symm, (List.getElem?_eq_some_iff.1 hx).1, hx, h⟩
  · rw [if_neg hi] at h; simp at h
theorem idx_nat {α : Type} (l : List α) (k : Nat) : idx l (k : Int) = l[k]? := by unfold idx; rw [if_pos (by omega)]; simp
end Go.Proofs.Ytbpjhmhnicfdfaa.GoP

/- Words for a slice that reads as a list of values, nil and empty let in; for slices of strings; and what becomes of them in later worlds. No condition. -/
namespace Go.Proofs.Ytbpjhmhnicfdfaa.Rowed
set_option linter.unusedVariables false
open Go.RowKit

theorem add_block (a : Addr) (n : Nat) : (a.add n).block = a.block := by unfold Addr.add; split <;> rfl
theorem cell_lt {w : World} {a : Addr} {v : Value} (h : w.cell? a = some v) : a.block < w.heap.size := World.block_lt_of_cell? w a h
theorem cell_below {w w' : World} (hb : Below w.heap.size w w') {a : Addr} {v : Value} (hc : w.cell? a = some v) : w'.cell? a = some v := (hb.cell (cell_lt hc)).trans hc
theorem below_drewN (w : World) (m : Nat) : Below w.heap.size w (w.drewN m) := ⟨rfl, rfl, rfl, Nat.le_refl _, fun _ _ => rfl⟩
theorem Below.step {a b c : World} (h : Below a.heap.size a b) (k : Below b.heap.size b c) : Below a.heap.size a c := h.trans (k.mono h.size)

/-- the world has drawn, and nothing else has turned -/
def DrawnTo (w w' : World) : Prop := ∃ m, w' = w.drewN m
theorem DrawnTo.refl (w : World) : DrawnTo w w := ⟨0, rfl⟩
theorem DrawnTo.more {w w' : World} (h : DrawnTo w w') (n : Nat) : DrawnTo w (w'.drewN n) := let ⟨m, e⟩ := h; ⟨m + n, by rw [e, World.drewN_drewN]⟩
theorem DrawnTo.trans {a b c : World} (h : DrawnTo a b) (k : DrawnTo b c) : DrawnTo a c := by
  obtain ⟨m, rfl⟩ := h
  obtain ⟨n, rfl⟩ := k
  exact ⟨m + n, World.drewN_drewN ..⟩
theorem DrawnTo.cell {w w' : World} (h : DrawnTo w w') {a : Addr} {v : Value} (hc : w.cell? a = some v) : w'.cell? a = some v := by
  obtain ⟨m, rfl⟩ := h; exact hc
theorem DrawnTo.below {w w' : World} (h : DrawnTo w w') : Below w.heap.size w w' := by
  obtain ⟨m, rfl⟩ := h; exact below_drewN w m

/-- the slice 'A, n' reads as the cells xs (size cells each element) -/
def Cells (w : World) (size : Nat) (A : Option Addr) (n : Nat) (xs : List Value) : Prop :=
  xs.length = n * size ∧ (0 < xs.length → ∃ ad : Addr, A = some ad ∧ ∀ j u, xs[j]? = some u → w.cell? (ad.add j) = some u)

theorem Cells.below {w w' : World} {size n : Nat} {A : Option Addr} {xs : List Value} (h : Cells w size A n xs) (hb : Below w.heap.size w w') : Cells w' size A n xs :=
  ⟨h.1, fun hn => let ⟨ad, e, hc⟩ := h.2 hn; ⟨ad, e, fun j u hu => cell_below hb (hc j u hu)⟩⟩
theorem Cells.drewN {w : World} {size n : Nat} {A : Option Addr} {xs : List Value} (h : Cells w size A n xs) (m : Nat) : Cells (w.drewN m) size A n xs := h
theorem Cells.nil_ (w : World) (size : Nat) (A : Option Addr) : Cells w size A 0 [] := ⟨by simp, fun h => by simp at h⟩
theorem Cells.at_ {w : World} {n k : Nat} {A : Option Addr} {xs : List Value} (h : Cells w 1 A n xs) (hk : k < n) : ∃ ad u, A = some ad ∧ xs[k]? = some u ∧ w.cell? (ad.add k) = some u := by
  have hl : k < xs.length := by have := h.1; omega
  obtain ⟨ad, e, hc⟩ := h.2 (by omega)
  exact ⟨ad, xs[k], e, List.getElem?_eq_getElem hl, hc k _ (List.getElem?_eq_getElem hl)⟩
theorem Cells.of_own {w : World} {base size n c g : Nat} {e : TypeId} {xs : List Value} (h : w.ownsRow base e size (.slice (some ⟨g, 0, none⟩) n c) n xs) : Cells w size (some ⟨g, 0, none⟩) n xs :=
  ⟨h.1, fun _ => ⟨_, rfl, fun j u hu => h.cells (g := g) rfl j u hu⟩⟩

/-- a row that is filled from the left -/
def fill (a ys : List Value) (k : Nat) : List Value := a.take k ++ ys.drop k
theorem fill_zero (a ys : List Value) : fill a ys 0 = ys := by simp [fill]
theorem fill_all (a ys : List Value) (h : ys.length = a.length) : fill a ys a.length = a := by
  unfold fill; rw [List.take_of_length_le (Nat.le_refl _), ← h, List.drop_of_length_le (Nat.le_refl _), List.append_nil]
theorem fill_set (a ys : List Value) (k : Nat) (u : Value) (hk : k < ys.length) (hu : a[k]? = some u) : (fill a ys k).set k u = fill a ys (k + 1) := by
  have ha := (List.getElem?_eq_some_iff.1 hu).1
  have hau := (List.getElem?_eq_some_iff.1 hu).2
  unfold fill
  have hl : (a.take k).length = k := by rw [List.length_take]; omega
  rw [List.set_append_right _ _ (by omega), hl, Nat.sub_self, List.take_succ_eq_append_getElem ha, hau, List.drop_eq_getElem_cons hk, List.set_cons_zero, List.append_assoc]
  rfl
theorem fill_len (a ys : List Value) (k : Nat) (h : ys.length = a.length) : (fill a ys k).length = ys.length := by
  unfold fill; rw [List.length_append, List.length_take, List.length_drop]; omega

/-- the slice 'A, n' reads as the strings l -/
def Strs (w : World) (A : Option Addr) (n : Nat) (l : List ByteArray) : Prop := Cells w 1 A n (l.map Value.string)
theorem Strs.len {w : World} {A : Option Addr} {n : Nat} {l : List ByteArray} (h : Strs w A n l) : l.length = n := by have := h.1; simpa using this
theorem Strs.below {w w' : World} {A : Option Addr} {n : Nat} {l : List ByteArray} (h : Strs w A n l) (hb : Below w.heap.size w w') : Strs w' A n l := Cells.below h hb
theorem Strs.at_ {w : World} {A : Option Addr} {n k : Nat} {l : List ByteArray} (h : Strs w A n l) (hk : k < n) : ∃ ad x, A = some ad ∧ l[k]? = some x ∧ w.cell? (ad.add k) = some (.string x) := by
  obtain ⟨ad, u, e, hx, hc⟩ := Cells.at_ h hk
  rw [List.getElem?_map] at hx
  cases hl : l[k]? with
  | none => rw [hl] at hx; simp at hx
  | some x => rw [hl] at hx; obtain rfl : Value.string x = u := by simpa using hx
              exact ⟨ad, x, e, rfl, hc⟩

end Go.Proofs.Ytbpjhmhnicfdfaa.Rowed

/- Words on what may turn between two worlds: only the blocks of one span; and on rows that lie in a span of blocks, read or owned. No condition. -/
namespace Go.Proofs.Ytbpjhmhnicfdfaa.Turn
set_option linter.unusedVariables false
open Go.RowKit
open Go.Proofs.Ytbpjhmhnicfdfaa.Rowed

/-- of what was there, only blocks from lo on and below hi may have turned -/
structure Turned (lo hi : Nat) (w w' : World) : Prop where
  os : w'.os = w.os
  tape : w'.tape = w.tape
  output : w'.output = w.output
  size : w.heap.size ≤ w'.heap.size
  block : ∀ k, k < w.heap.size → ¬ (lo ≤ k ∧ k < hi) → w'.heap[k]? = w.heap[k]?
theorem Turned.of_grown {w w' : World} {lo hi : Nat} {r : Option Nat} (h : w.grownBy w' r) (hr : ∀ k, r = some k → lo ≤ k ∧ k < hi) : Turned lo hi w w' :=
  ⟨h.os, h.tape, h.output, h.size, fun k hk hn => h.block k hk (fun e => hn (hr k e.symm))⟩
theorem below_turned {w wr w' : World} {lo hi : Nat} (h : Below w.heap.size w wr) (t : Turned lo hi wr w') (hl : w.heap.size ≤ lo) : Below w.heap.size w w' :=
  ⟨t.os.trans h.os, t.tape.trans h.tape, t.output.trans h.output, Nat.le_trans h.size t.size, fun k hk => (t.block k (Nat.lt_of_lt_of_le hk h.size) (by omega)).trans (h.block k hk)⟩

/-- the slice 'A, n' reads as the cells xs, and they lie in blocks from lo on and below hi -/
structure Rd (w : World) (size lo hi : Nat) (A : Option Addr) (n : Nat) (xs : List Value) : Prop where
  cells : Cells w size A n xs
  span : ∀ ad, A = some ad → 0 < xs.length → lo ≤ ad.block ∧ ad.block < hi
  top : hi ≤ w.heap.size
theorem Rd.below {w w' : World} {size lo hi n : Nat} {A : Option Addr} {xs : List Value} (h : Rd w size lo hi A n xs) (hb : Below w.heap.size w w') : Rd w' size lo hi A n xs :=
  ⟨h.cells.below hb, h.span, Nat.le_trans h.top hb.size⟩
theorem Rd.turned {w w' : World} {size lo hi a b n : Nat} {A : Option Addr} {xs : List Value} (h : Rd w size lo hi A n xs) (t : Turned a b w w') (hd : hi ≤ a ∨ b ≤ lo) : Rd w' size lo hi A n xs :=
  ⟨⟨h.cells.1, fun hn => by
    obtain ⟨ad, e, hc⟩ := h.cells.2 hn
    have hs := h.span ad e hn
    have ht := h.top
    exact ⟨ad, e, fun j u hu => (World.cell?_of_block (by rw [add_block]; exact t.block _ (by omega) (by omega))).trans (hc j u hu)⟩⟩, h.span, Nat.le_trans h.top t.size⟩
/-- cells that came in -/
theorem Rd.came {w : World} {size n : Nat} {A : Option Addr} {xs : List Value} (h : Cells w size A n xs) : Rd w size 0 w.heap.size A n xs :=
  ⟨h, fun ad e hn => by
    obtain ⟨ad', e', hc⟩ := h.2 hn
    obtain rfl : ad = ad' := by rw [e] at e'; exact Option.some.inj e'
    have h0 := cell_lt (hc 0 _ (List.getElem?_eq_getElem hn))
    rw [add_block] at h0
    exact ⟨Nat.zero_le _, h0⟩, Nat.le_refl _⟩

/-- the slice 'A, n, c' is a row of the call's own with the cells xs, in a block from lo on and below hi -/
structure Ow (w : World) (T : TypeId) (size lo hi : Nat) (A : Option Addr) (n c : Nat) (xs : List Value) : Prop where
  own : w.ownsRow lo T size (.slice A n c) n xs
  span : ∀ q, (Value.slice A n c).ownBlock = some q → q < hi
  top : hi ≤ w.heap.size
theorem Ow.of {w : World} {T : TypeId} {size lo n c : Nat} {A : Option Addr} {xs : List Value} (h : w.ownsRow lo T size (.slice A n c) n xs) : Ow w T size lo w.heap.size A n c xs :=
  ⟨h, fun q hq => (h.lt q hq).2, Nat.le_refl _⟩
theorem Ow.kept {w w' : World} {T : TypeId} {size lo hi a b n c : Nat} {A : Option Addr} {xs : List Value} (h : Ow w T size lo hi A n c xs) (t : Turned a b w w') (hd : hi ≤ a ∨ b ≤ lo) : w'.ownsRow lo T size (.slice A n c) n xs := by
  refine ⟨h.own.1, ?_⟩
  rcases h.own.2 with h0 | ⟨g, cap, cur, hv, hb, hh, rest⟩
  · exact .inl h0
  · have hg : g < hi := h.span g (by rw [hv]; rfl)
    have ht := h.top
    exact .inr ⟨g, cap, cur, hv, hb, (t.block g (by omega) (by omega)).trans hh, rest⟩
theorem Ow.turned {w w' : World} {T : TypeId} {size lo hi a b n c : Nat} {A : Option Addr} {xs : List Value} (h : Ow w T size lo hi A n c xs) (t : Turned a b w w') (hd : hi ≤ a ∨ b ≤ lo) : Ow w' T size lo hi A n c xs :=
  ⟨h.kept t hd, h.span, Nat.le_trans h.top t.size⟩
theorem Turned.of_below {w w' : World} (h : Below w.heap.size w w') : Turned 0 0 w w' := ⟨h.os, h.tape, h.output, h.size, fun k hk _ => h.block k hk⟩
theorem Ow.below {w w' : World} {T : TypeId} {size lo hi n c : Nat} {A : Option Addr} {xs : List Value} (h : Ow w T size lo hi A n c xs) (hb : Below w.heap.size w w') : Ow w' T size lo hi A n c xs :=
  h.turned (Turned.of_below hb) (.inr (Nat.zero_le _))
theorem own_cells {w : World} {base n c size : Nat} {A : Option Addr} {e : TypeId} {xs : List Value} (h : w.ownsRow base e size (.slice A n c) n xs) : Cells w size A n xs := by
  rcases h.2 with ⟨hv, h0⟩ | ⟨g, cap, cur, hv, _⟩
  · subst h0
    have := h.1
    exact ⟨this, fun hn => by rw [Nat.zero_mul] at this; omega⟩
  · injection hv with e1 e2 e3
    subst e1
    exact Cells.of_own h
theorem Ow.cells {w : World} {T : TypeId} {size lo hi n c : Nat} {A : Option Addr} {xs : List Value} (h : Ow w T size lo hi A n c xs) : Cells w size A n xs := own_cells h.own
/-- what is read only -/
theorem Ow.rd {w : World} {T : TypeId} {size lo hi n c : Nat} {A : Option Addr} {xs : List Value} (h : Ow w T size lo hi A n c xs) : Rd w size lo hi A n xs :=
  ⟨h.cells, fun ad e hn => by
    rcases h.own.2 with ⟨hv, h0⟩ | ⟨g, cap, cur, hv, hb, _⟩
    · have := h.own.1
      rw [h0, Nat.zero_mul] at this
      omega
    · have hg : g < hi := h.span g (by rw [hv]; rfl)
      injection hv with e1 e2 e3
      subst e1
      obtain rfl := Option.some.inj e
      exact ⟨hb, hg⟩, h.top⟩
/-- a mark, or another writing of one row -/
theorem Ow.writes {w w' : World} {T : TypeId} {size lo hi n c : Nat} {A : Option Addr} {xs : List Value} (h : Ow w T size lo hi A n c xs) (hg : w.grownBy w' (Value.slice A n c).ownBlock) : Turned lo hi w w' :=
  Turned.of_grown hg (fun k hk => ⟨(h.own.lt k hk).1, h.span k hk⟩)
theorem Ow.written {w w' : World} {T : TypeId} {size lo hi n c : Nat} {A : Option Addr} {xs ys : List Value} (h : Ow w T size lo hi A n c xs) (hs : w.heap.size ≤ w'.heap.size) (ho : w'.ownsRow lo T size (.slice A n c) n ys) : Ow w' T size lo hi A n c ys :=
  ⟨ho, h.span, Nat.le_trans h.top hs⟩

/-- the answer has no memory, and nothing has turned -/
def Gives (v : Value) (w : World) (e : Ending) (w' : World) : Prop := e = .returned v ∧ Below w.heap.size w w'
end Go.Proofs.Ytbpjhmhnicfdfaa.Turn

/- Small words on types' facts, on classes of worlds, and on rows that are written. No condition. -/
namespace Go.Proofs.Ytbpjhmhnicfdfaa.Aid
set_option linter.unusedVariables false
open Go.RowKit
open Go.Proofs.Ytbpjhmhnicfdfaa.Rowed Go.Proofs.Ytbpjhmhnicfdfaa.Turn

theorem info_parts {P : Program} {T : TypeId} {z : Value} {s b : Nat} (h : (P.info? T).map (fun i => (i.zero, i.size, i.bytes)) = some (some z, s, b)) : ∃ i, P.info? T = some i ∧ i.zero = some z ∧ i.size = s ∧ i.bytes = b := by
  cases hi : P.info? T with
  | none => rw [hi] at h; simp at h
  | some i => rw [hi] at h; simp at h; exact ⟨i, rfl, h.1, h.2.1, h.2.2⟩
theorem below_class {X Y : World} (h : ∃ p : Regrown, Y = Go.Sort.grow (redrawn X p.d) p.os) : Below X.heap.size X Y := by
  obtain ⟨⟨d, os⟩, rfl⟩ := h; exact below_regrown _ _ _
theorem grown_of {W W' : World} (h : Below W.heap.size W W') : W.grownBy W' none := ⟨h.os, h.tape, h.output, h.size, fun k hk _ => h.block k hk⟩
theorem grown_weak {W W' : World} (h : W.grownBy W' none) (g : Nat) : W.grownBy W' (some g) := ⟨h.os, h.tape, h.output, h.size, fun k hk _ => h.block k hk (by simp)⟩
theorem grown_tr {a b c : World} {r : Option Nat} (h : a.grownBy b r) (k : b.grownBy c r) : a.grownBy c r :=
  ⟨k.os.trans h.os, k.tape.trans h.tape, k.output.trans h.output, Nat.le_trans h.size k.size, fun i hi hr => (k.block i (Nat.lt_of_lt_of_le hi h.size) hr).trans (h.block i hi hr)⟩
theorem grown_refl (w : World) (r : Option Nat) : w.grownBy w r := ⟨rfl, rfl, rfl, Nat.le_refl _, fun _ _ _ => rfl⟩
theorem ret_int {k : IntKind} {a b : Int} (h : a = b) : Ending.returned (.int k a) = .returned (.int k b) := by rw [h]
theorem ret_bool {a b : Bool} (h : a = b) : Ending.returned (.bool a) = .returned (.bool b) := by rw [h]
end Go.Proofs.Ytbpjhmhnicfdfaa.Aid

/- Words on memory for the contracts of plain functions. No condition. -/
namespace Go.Proofs.Ytbpjhmhnicfdfaa.GoM
set_option linter.unusedVariables false
open Go.RowKit
open Go.Proofs.Ytbpjhmhnicfdfaa.Rowed Go.Proofs.Ytbpjhmhnicfdfaa.Turn

theorem box_new (w : World) (cs : List Value) (T : TypeId) (j : Nat) (u : Value) (h : cs[j]? = some u) : (w.alloc (.cells ⟨cs⟩ T)).cell? ⟨w.heap.size, j, none⟩ = some u := by
  have hb : (w.alloc (.cells ⟨cs⟩ T)).heap[w.heap.size]? = some (.cells ⟨cs⟩ T) := heap_alloc_new w _
  unfold World.cell?
  rw [hb]
  simpa using h
theorem size_list (s : ByteArray) : s.toList.length = s.size := by rw [Lib.toList_data]; rfl
theorem byte_rule {s : ByteArray} {n : Nat} {y : UInt8} (l : n < s.toList.length) (g : s.toList[n]? = some y) : ∀ h : n < s.size, s[n]'h = y := by
  intro h
  have e := List.getElem?_eq_getElem l
  rw [g] at e
  have := Option.some.inj e
  rw [this]
  simp [Lib.toList_data]
  rfl
theorem own_empty {w wc : World} {T K : Nat} (h : w.heap.size ≤ wc.heap.size) : (wc.alloc (.cells #[] T)).ownsRow w.heap.size T K (.slice (some ⟨wc.heap.size, 0, none⟩) 0 0) 0 [] :=
  ⟨by simp, .inr ⟨wc.heap.size, 0, #[], rfl, h, heap_alloc_new wc _, Nat.le_refl _, by unfold maxLen; omega, by simp, by simp⟩⟩
theorem own_laid {w wc : World} {T K n : Nat} {cs : List Value} {xs : List Value} (h : w.heap.size ≤ wc.heap.size) (hx : cs = xs) (hl : cs.length = n * K) (hn : n ≤ maxLen) : (wc.alloc (.cells ⟨cs⟩ T)).ownsRow w.heap.size T K (.slice (some ⟨wc.heap.size, 0, none⟩) n n) n xs := by
  subst hx
  exact ⟨hl, .inr ⟨wc.heap.size, n, ⟨cs⟩, rfl, h, heap_alloc_new wc _, Nat.le_refl _, hn, by simpa using hl, by rw [← hl]; simp⟩⟩
theorem add_flat (b o n : Nat) : (⟨b, o, none⟩ : Addr).add n = ⟨b, o + n, none⟩ := by
  unfold Addr.add; split
  · rename_i h; subst h; rfl
  · rfl
theorem strs_at {w : World} {A : Option Addr} {n k : Nat} {l : List ByteArray} (h : Cells w 1 A n (l.map Value.string)) (hk : k < n) : ∃ (b o : Nat) (x : ByteArray), A = some ⟨b, o, none⟩ ∧ l[k]? = some x ∧ w.cell? ⟨b, o + k, none⟩ = some (.string x) := by
  have hl : k < l.length := by have := h.1; rw [List.length_map] at this; omega
  obtain ⟨⟨b, o, sp⟩, e, hc⟩ := h.2 (by rw [List.length_map]; omega)
  have h0 := hc 0 (.string l[0]) (by rw [List.getElem?_map, List.getElem?_eq_getElem (show 0 < l.length by omega)]; rfl)
  obtain rfl : sp = none := cell_spot (b := b) (o := o) h0
  have hs := List.getElem?_eq_getElem hl
  have := hc k (.string l[k]) (by rw [List.getElem?_map, hs]; rfl)
  rw [add_flat] at this
  exact ⟨b, o, l[k], e, hs, this⟩
theorem bools_at {w : World} {A : Option Addr} {n k : Nat} {l : List Bool} (h : Cells w 1 A n (l.map Value.bool)) (hk : k < n) : ∃ (b o : Nat) (x : Bool), A = some ⟨b, o, none⟩ ∧ l[k]? = some x ∧ w.cell? ⟨b, o + k, none⟩ = some (.bool x) := by
  have hl : k < l.length := by have := h.1; rw [List.length_map] at this; omega
  obtain ⟨⟨b, o, sp⟩, e, hc⟩ := h.2 (by rw [List.length_map]; omega)
  have h0 := hc 0 (.bool l[0]) (by rw [List.getElem?_map, List.getElem?_eq_getElem (show 0 < l.length by omega)]; rfl)
  obtain rfl : sp = none := cell_spot (b := b) (o := o) h0
  have hs := List.getElem?_eq_getElem hl
  have := hc k (.bool l[k]) (by rw [List.getElem?_map, hs]; rfl)
  rw [add_flat] at this
  exact ⟨b, o, l[k], e, hs, this⟩
theorem own_nil {w : World} {b T K : Nat} : w.ownsRow b T K (.slice none 0 0) 0 [] := ⟨by simp, .inl ⟨rfl, rfl⟩⟩
theorem own_lower {w : World} {b base n size : Nat} {v : Value} {e : TypeId} {xs : List Value} (h : w.ownsRow base e size v n xs) (hb : b ≤ base) : w.ownsRow b e size v n xs :=
  ⟨h.1, by
    rcases h.2 with h0 | ⟨g, cap, cur, hv, hb', rest⟩
    · exact .inl h0
    · exact .inr ⟨g, cap, cur, hv, Nat.le_trans hb hb', rest⟩⟩
theorem own_below {w w' : World} {base n size : Nat} {v : Value} {e : TypeId} {xs : List Value} (h : w.ownsRow base e size v n xs) (hb : Below w.heap.size w w') : w'.ownsRow base e size v n xs :=
  h.kept (Aid.grown_of hb) (by cases v.ownBlock <;> simp)
theorem own_push {α : Type} {f : List α → List Value} {cx : List Value} {l t : List α} {x : α} {w' : World} {b T K : Nat} {v' : Value} {n : Nat} (ht : l ++ [x] = t) (hf : f (l ++ [x]) = f l ++ cx) (hn : l.length = n) (h : w'.ownsRow b T K v' (n + 1) (f l ++ cx)) :
    ∃ g cap, v' = .slice (some ⟨g, 0, none⟩) t.length cap ∧ w'.ownsRow b T K (.slice (some ⟨g, 0, none⟩) t.length cap) t.length (f t) := by
  subst ht
  subst hn
  have el : (l ++ [x]).length = l.length + 1 := by simp
  obtain ⟨g, cap, rfl⟩ : ∃ g cap, v' = .slice (some ⟨g, 0, none⟩) (l.length + 1) cap := by
    rcases h.2 with ⟨_, h⟩ | ⟨g3, cap3, _, h, _⟩
    · omega
    · exact ⟨g3, cap3, h⟩
  exact ⟨g, cap, by rw [el], by rw [el, hf]; exact h⟩
theorem news_new {w w2 : World} {cs : List Value} {T : TypeId} (h : w.alloc (.cells ⟨cs⟩ T) = w2) : ∀ j u, cs[j]? = some u → w2.cell? ((⟨w.heap.size, 0, none⟩ : Addr).add j) = some u := by
  intro j u hu
  subst h
  have : (⟨w.heap.size, 0, none⟩ : Addr).add j = ⟨w.heap.size, j, none⟩ := by
    unfold Addr.add; split
    · rename_i hj; subst hj; rfl
    · simp
  rw [this]
  exact box_new w cs T j u hu
theorem one_cells {l : List Value} (h : l.all (fun u => u.oneCell') = true) : ∀ u ∈ l, u.oneCell' = true := fun u hu => List.all_eq_true.1 h u hu
theorem cat_rule {P : Program} {a b c : ByteArray} (h : a ++ b = c) (hl : a.size + b.size ≤ maxLen) : ∀ W, (Op.stringOp .add a b).run P W = .ok (.string c) W := by
  intro W
  rw [run_string_add_sum]
  · subst h; rfl
  · unfold maxLen at hl; omega
theorem slice_both {P : Program} {t : TypeId} {s c : ByteArray} {k k' : IntKind} {i j : Int} (hu : P.underlying t = some .string) (h : s.extract i.toNat j.toNat = c) (hl : 0 ≤ i ∧ i ≤ j ∧ j ≤ (s.size : Int)) :
    ∀ W, (Instr.slice t (.string s) (some (.int k i)) (some (.int k' j)) none).run P W = .ok (.string c) W := by
  intro W
  rw [run_slice_string_if _ _ _ _ _ _ _ hu, if_pos ⟨by omega, hl.2.2⟩, if_pos ⟨hl.1, hl.2.1⟩, h]
theorem slice_from {P : Program} {t : TypeId} {s c : ByteArray} {k : IntKind} {i : Int} (hu : P.underlying t = some .string) (h : s.extract i.toNat s.size = c) (hl : 0 ≤ i ∧ i ≤ (s.size : Int)) :
    ∀ W, (Instr.slice t (.string s) (some (.int k i)) none none).run P W = .ok (.string c) W := by
  intro W
  rw [run_slice_string_from_if _ _ _ _ _ hu, if_pos hl, h]
theorem slice_to {P : Program} {t : TypeId} {s c : ByteArray} {k : IntKind} {j : Int} (hu : P.underlying t = some .string) (h : s.extract 0 j.toNat = c) (hl : 0 ≤ j ∧ j ≤ (s.size : Int)) :
    ∀ W, (Instr.slice t (.string s) none (some (.int k j)) none).run P W = .ok (.string c) W := by
  intro W
  rw [run_slice_string_to_if _ _ _ _ _ hu, if_pos hl, h]
theorem results_tmp4 {fn : Func} {t u v x : Tmp} (h : fn.results = #[.tmp t, .tmp u, .tmp v, .tmp x]) (tmps : Array Value) (P : Program) (w : World) :
    (results fn tmps).run P w = .ok (.tuple #[tmps.getD t undef, tmps.getD u undef, tmps.getD v undef, tmps.getD x undef]) w := by
  simp [results, h]
/-- the walk stands here -/
def Stop (p : Prop) : Prop := p
theorem stop_in {p : Prop} (h : Stop p) : p := h
theorem stop_out {p : Prop} (h : p) : Stop p := h
/-- two rows lie in different blocks -/
def Apart (A B : Option Addr) : Prop := ∀ a b, A = some a → B = some b → a.block ≠ b.block
theorem Apart.symm {A B : Option Addr} (h : Apart A B) : Apart B A := fun a b ha hb e => h b a hb ha e.symm
theorem own_lt {w : World} {b T K n m c : Nat} {A : Option Addr} {xs : List Value} (h : w.ownsRow b T K (.slice A m c) n xs) (a : Addr) (ha : A = some a) : b ≤ a.block ∧ a.block < w.heap.size := by
  subst ha
  exact h.lt a.block rfl
theorem apart_fresh {w : World} {b T K n m c : Nat} {A : Option Addr} {xs : List Value} (h : w.ownsRow b T K (.slice A m c) n xs) : Apart (some ⟨w.heap.size, 0, none⟩) A := by
  intro a a' ha ha' e
  have := (own_lt h a' ha').2
  injection ha with ha
  subst ha
  simp at e
  omega
theorem apart_call {w w1 : World} {b T K n m c T' K' n' m' c' : Nat} {A B : Option Addr} {xs ys : List Value} (h1 : w1.ownsRow w.heap.size T K (.slice A m c) n xs) (h : w.ownsRow b T' K' (.slice B m' c') n' ys) : Apart A B := by
  intro a a' ha ha' e
  have := (own_lt h a' ha').2
  have := (own_lt h1 a ha).1
  omega
theorem apart_box {w : World} {g j : Nat} {v : Value} (h : w.cell? ⟨g, j, none⟩ = some v) : Apart (some ⟨w.heap.size, 0, none⟩) (some ⟨g, 0, none⟩) := by
  intro a a' ha ha' e
  have hl : g < w.heap.size := cell_lt h
  injection ha with ha
  injection ha' with ha'
  subst ha
  subst ha'
  simp at e
  omega
theorem apart_callbox {w w1 : World} {T K n m c g j : Nat} {A : Option Addr} {xs : List Value} {v : Value} (h1 : w1.ownsRow w.heap.size T K (.slice A m c) n xs) (h : w.cell? ⟨g, j, none⟩ = some v) : Apart A (some ⟨g, 0, none⟩) := by
  intro a a' ha ha' e
  have hl : g < w.heap.size := cell_lt h
  have := (own_lt h1 a ha).1
  injection ha' with ha'
  subst ha'
  simp at e
  omega
theorem apart_app {w : World} {n c n' c' : Nat} {A A' B : Option Addr} (hD : Apart A B) (hB : ∀ a, B = some a → a.block < w.heap.size) (h : (Value.slice A' n' c').ownBlock = (Value.slice A n c).ownBlock ∨ (Value.slice A' n' c').ownBlock = some w.heap.size) : Apart A' B := by
  intro a a' ha ha' e
  have hl := hB a' ha'
  subst ha
  rcases h with h | h
  · cases A with
    | none => simp [Value.ownBlock] at h
    | some x => simp only [Value.ownBlock, Option.some.injEq] at h; exact hD x a' rfl ha' (h ▸ e)
  · simp only [Value.ownBlock, Option.some.injEq] at h; omega
theorem own_other {w w' : World} {b T K n m c n' c' : Nat} {A B : Option Addr} {ys : List Value} (h : w.ownsRow b T K (.slice B m c) n ys) (hg : w.grownBy w' (Value.slice A n' c').ownBlock) (hD : Apart A B) : w'.ownsRow b T K (.slice B m c) n ys := by
  refine h.kept hg ?_
  cases B with
  | none => exact .inl rfl
  | some y =>
    refine .inr ?_
    cases A with
    | none => simp [Value.ownBlock]
    | some x => simp only [Value.ownBlock, ne_eq, Option.some.injEq]; exact fun e => hD x y rfl rfl e.symm
theorem cell_other {w w' : World} {n' c' : Nat} {A : Option Addr} {a : Addr} {v : Value} (h : w.cell? a = some v) (hg : w.grownBy w' (Value.slice A n' c').ownBlock) (hD : Apart A (some ⟨a.block, 0, none⟩)) : w'.cell? a = some v := by
  rw [World.cell?_of_block (hg.block a.block (cell_lt h) ?_)]
  · exact h
  · cases A with
    | none => simp [Value.ownBlock]
    | some x => simp only [Value.ownBlock, ne_eq, Option.some.injEq]; exact fun e => hD x _ rfl rfl e.symm
theorem apart_old {wr : World} {b T K n m c g : Nat} {A : Option Addr} {xs : List Value} (h : wr.ownsRow b T K (.slice A m c) n xs) (hg : g < b) : Apart A (some ⟨g, 0, none⟩) := by
  intro a a' ha ha' e
  have := (own_lt h a ha).1
  injection ha' with ha'
  subst ha'
  simp at e
  omega
theorem own_len {w : World} {b T K n m c : Nat} {A : Option Addr} {xs : List Value} (h : m = n) (hO : w.ownsRow b T K (.slice A n c) n xs) : w.ownsRow b T K (.slice A m c) m xs := by subst h; exact hO
theorem own_max {w : World} {b T K n c : Nat} {A : Option Addr} {xs : List Value} (h : w.ownsRow b T K (.slice A n c) n xs) : n ≤ 9223372036854775807 := by
  rcases h.2 with ⟨_, h0⟩ | ⟨g, cap, cur, hv, _, _, h1, h2, _⟩
  · omega
  · unfold maxLen at h2; omega
theorem grown_below {w wr w2 : World} {q : Option Nat} (h : w.grownBy wr q) (hb : Below wr.heap.size wr w2) : w.grownBy w2 q :=
  Aid.grown_tr h ⟨hb.os, hb.tape, hb.output, hb.size, fun k hk _ => hb.block k hk⟩
theorem own_some {w : World} {b T K n c : Nat} {A : Option Addr} {xs : List Value} (h : w.ownsRow b T K (.slice A n c) n xs) (hn : 0 < n) : ∃ g, A = some ⟨g, 0, none⟩ := by
  rcases h.2 with ⟨_, h0⟩ | ⟨g, cap, cur, hv, _⟩
  · omega
  · injection hv with e1; exact ⟨g, e1⟩
theorem own_stores {b T K n c g : Nat} (ps : List (Nat × Value)) : ∀ {w : World} {xs : List Value}, w.ownsRow b T K (.slice (some ⟨g, 0, none⟩) n c) n xs →
    (ps.foldl (fun w p => w.setCell ⟨g, p.1, none⟩ p.2) w).ownsRow b T K (.slice (some ⟨g, 0, none⟩) n c) n (ps.foldl (fun xs p => xs.set p.1 p.2) xs) ∧ w.grownBy (ps.foldl (fun w p => w.setCell ⟨g, p.1, none⟩ p.2) w) (some g) := by
  induction ps with
  | nil => intro w xs h; exact ⟨h, Aid.grown_refl _ _⟩
  | cons p ps ih =>
    intro w xs h
    have h1 := h.stored p.1 p.2
    have h2 := ih h1.1
    exact ⟨h2.1, Aid.grown_tr h1.2 h2.2⟩
theorem flat_set {α : Type} (f : α → List Value) (K : Nat) (hK : ∀ x, (f x).length = K) : ∀ (l : List α) (k j : Nat) (s1 s2 : α) (v : Value), k < l.length → j < K → (f s1).set j v = f s2 → ((l.set k s1).flatMap f).set (k * K + j) v = (l.set k s2).flatMap f := by
  intro l
  induction l with
  | nil => intro k j s1 s2 v hk; simp at hk
  | cons x l ih =>
    intro k j s1 s2 v hk hj hc
    cases k with
    | zero =>
      simp only [List.set_cons_zero, List.flatMap_cons, Nat.zero_mul, Nat.zero_add]
      rw [List.set_append_left _ _ (by rw [hK]; exact hj), hc]
    | succ k =>
      simp only [List.set_cons_succ, List.flatMap_cons]
      rw [List.set_append_right _ _ (by rw [hK, Nat.add_mul]; omega), hK, show (k + 1) * K + j - K = k * K + j by rw [Nat.add_mul]; omega, ih k j s1 s2 v (by simpa using hk) hj hc]
theorem set_self {α : Type} {l : List α} {k : Nat} {x : α} (h : l[k]? = some x) : l.set k x = l := by
  obtain ⟨hk, e⟩ := List.getElem?_eq_some_iff.1 h
  rw [← e]; simp
theorem map_flat {α : Type} (g : α → Value) (l : List α) : l.map g = l.flatMap (fun x => [g x]) := by
  induction l with
  | nil => rfl
  | cons x l ih => simp [List.flatMap_cons, ih]
theorem made_flat {α : Type} (f : α → List Value) (x0 : α) (z : Value) (K n : Nat) (hz : z.cells.toList = f x0) (hK : z.cells.size = K) (hp : 0 < K) : (madeCells z.cells (n * K)).toList = (List.replicate n x0).flatMap f := by
  have hl : (f x0).length = K := by rw [← hz, ← hK]; simp
  have hr : ∀ n, (List.range (n * K)).map (fun i => z.cells[i % z.cells.size]!) = (List.replicate n x0).flatMap f := by
    intro n
    induction n with
    | zero => simp
    | succ n ih =>
      rw [List.replicate_succ', List.flatMap_append, ← ih, Nat.add_mul, Nat.one_mul, List.range_add, List.map_append]
      congr 1
      simp only [List.map_map, List.flatMap_cons, List.flatMap_nil, List.append_nil]
      apply List.ext_getElem
      · simp [hl]
      · intro i h1 h2
        have hi : i < K := by simpa using h1
        simp only [List.getElem_map, List.getElem_range, Function.comp]
        rw [hK, Nat.add_comm, Nat.add_mul_mod_self_right, Nat.mod_eq_of_lt hi]
        have h3 : i < z.cells.size := by omega
        rw [getElem!_pos z.cells i h3]
        have : z.cells.toList[i]'(by simpa using h3) = z.cells[i] := by simp
        rw [← this]
        congr 1
  unfold madeCells
  rw [← hr n]
  simp
/-- a row is no longer than its room; nil has none -/
def Room (A : Option Addr) (n c : Nat) : Prop := n ≤ c ∧ (A = none → c = 0)
theorem own_room {w : World} {b T K n c : Nat} {A : Option Addr} {xs : List Value} (h : w.ownsRow b T K (.slice A n c) n xs) : Room A n c := by
  rcases h.2 with ⟨h1, h2⟩ | ⟨g, cap, cur, h1, _, _, hr, _⟩
  · simp only [Value.slice.injEq] at h1
    exact ⟨by omega, fun _ => by omega⟩
  · simp only [Value.slice.injEq] at h1
    exact ⟨by omega, fun e => by rw [h1.1] at e; simp at e⟩
theorem flat_drop {α : Type} (f : α → List Value) (K : Nat) (hK : ∀ x, (f x).length = K) : ∀ (l : List α) (j : Nat), (l.flatMap f).drop (j * K) = (l.drop j).flatMap f := by
  intro l
  induction l with
  | nil => intro j; simp
  | cons x l ih =>
    intro j
    cases j with
    | zero => simp
    | succ j =>
      have e : (j + 1) * K = (f x).length + j * K := by rw [hK x, Nat.add_mul]; omega
      rw [List.flatMap_cons, e, List.drop_append, List.drop_of_length_le (by omega), List.drop_succ_cons, ← ih j]
      simp
/-- s[lo:] of a row that came in -/
theorem slice_tail {P : Program} {t e : TypeId} {i : TypeInfo} {k : IntKind} {K n c : Nat} {A : Option Addr} {lo : Int} {w : World} {xs ys : List Value} {m : Nat}
    (ht : P.underlying t = some (.slice (P.elem t))) (he : P.elem t = e) (hi : P.info? e = some i) (hs : i.size = K) (hc : Cells w K A n xs) (hR : Room A n c) (hl : 0 ≤ lo ∧ lo ≤ (n : Int)) (hm : n - lo.toNat = m) (hd : xs.drop (lo.toNat * K) = ys) :
    ∃ A' c', (∀ W, (Instr.slice t (.slice A n c) (some (.int k lo)) none none).run P W = .ok (.slice A' m c') W) ∧ Cells w K A' m ys ∧ Room A' m c' := by
  subst hm; subst hd
  have hr := hR.1
  have hsz : ∀ W, (sizeOf (P.elem t)).run P W = .ok K W := by intro W; subst he; simp [sizeOf, typeInfo, hi, hs]
  refine ⟨if c = lo.toNat then A else A.map (·.add (lo.toNat * K)), c - lo.toNat, ?_, ?_, ⟨by omega, fun e => by
    have : A = none := by
      by_cases h : c = lo.toNat
      · rw [if_pos h] at e; exact e
      · rw [if_neg h] at e; simpa using e
    have := hR.2 this; omega⟩⟩
  · intro W
    rw [run_slice_l (P := P) W t A n c ht k lo hl.1 hl.2, hsz W]
    rfl
  · refine ⟨by rw [List.length_drop, hc.1, Nat.sub_mul], fun h0 => ?_⟩
    rw [List.length_drop] at h0
    obtain ⟨ad, rfl, h⟩ := hc.2 (by omega)
    have h1 := hc.1
    have hne : ¬ c = lo.toNat := by
      intro e2
      have : n = lo.toNat := by omega
      rw [h1, this] at h0; omega
    refine ⟨ad.add (lo.toNat * K), by rw [if_neg hne]; rfl, fun j u hu => ?_⟩
    rw [List.getElem?_drop] at hu
    have := h _ u hu
    rwa [Go.Deep.add_add]
theorem flat_take {α : Type} (f : α → List Value) (K : Nat) (hK : ∀ x, (f x).length = K) : ∀ (l : List α) (j : Nat), (l.flatMap f).take (j * K) = (l.take j).flatMap f := by
  intro l
  induction l with
  | nil => intro j; simp
  | cons x l ih =>
    intro j
    cases j with
    | zero => simp
    | succ j =>
      have e : (j + 1) * K = (f x).length + j * K := by rw [hK x, Nat.add_mul]; omega
      rw [List.flatMap_cons, e, List.take_append, List.take_of_length_le (by omega), List.take_succ_cons, List.flatMap_cons, ← ih j]
      simp
/-- s[:hi] of a row of its own -/
theorem slice_head {P : Program} {t e : TypeId} {i : TypeInfo} {k : IntKind} {K n c b : Nat} {A : Option Addr} {hi : Int} {w : World} {xs ys : List Value} {m : Nat}
    (ht : P.underlying t = some (.slice (P.elem t))) (he : P.elem t = e) (hi_ : P.info? e = some i) (hs : i.size = K) (h : w.ownsRow b e K (.slice A n c) n xs) (hl : 0 ≤ hi ∧ hi ≤ (n : Int)) (hm : hi.toNat = m) (hd : xs.take (hi.toNat * K) = ys) :
    (∀ W, (Instr.slice t (.slice A n c) none (some (.int k hi)) none).run P W = .ok (.slice A m c) W) ∧ w.ownsRow b e K (.slice A m c) m ys := by
  subst hm; subst hd
  have hR := own_room h
  have hsz : ∀ W, (sizeOf (P.elem t)).run P W = .ok K W := by intro W; subst he; simp [sizeOf, typeInfo, hi_, hs]
  have hz : ∀ a : Addr, a.add 0 = a := by intro a; unfold Addr.add; simp
  refine ⟨fun W => ?_, ?_, ?_⟩
  · rw [run_slice_h (P := P) W t A n c ht k hi hl.1 (by have := hR.1; omega), hsz W]
    cases A <;> simp [Result.andThen, sliced, hz]
  · rw [List.length_take, h.1]
    exact Nat.min_eq_left (Nat.mul_le_mul_right K (by omega))
  · rcases h.2 with ⟨h1, h2⟩ | ⟨g, cap, cur, h1, h2, h3, h4, h5, h6, h7⟩
    · simp only [Value.slice.injEq] at h1
      left
      have : hi.toNat = 0 := by omega
      exact ⟨by rw [h1.1, h1.2.2, this], this⟩
    · simp only [Value.slice.injEq] at h1
      right
      refine ⟨g, cap, cur, by rw [h1.1, h1.2.2], h2, h3, by omega, h5, h6, ?_⟩
      rw [← h7, List.take_take, Nat.min_eq_left (Nat.mul_le_mul_right K (by omega))]
/-- s[:hi] of a row that came in -/
theorem slice_headB {P : Program} {t e : TypeId} {i : TypeInfo} {k : IntKind} {K n c : Nat} {A : Option Addr} {hi : Int} {w : World} {xs ys : List Value} {m : Nat}
    (ht : P.underlying t = some (.slice (P.elem t))) (he : P.elem t = e) (hi_ : P.info? e = some i) (hs : i.size = K) (h : Cells w K A n xs) (hR : Room A n c) (hl : 0 ≤ hi ∧ hi ≤ (n : Int)) (hm : hi.toNat = m) (hd : xs.take (hi.toNat * K) = ys) :
    (∀ W, (Instr.slice t (.slice A n c) none (some (.int k hi)) none).run P W = .ok (.slice A m c) W) ∧ Cells w K A m ys ∧ Room A m c := by
  subst hm; subst hd
  have hsz : ∀ W, (sizeOf (P.elem t)).run P W = .ok K W := by intro W; subst he; simp [sizeOf, typeInfo, hi_, hs]
  have hz : ∀ a : Addr, a.add 0 = a := by intro a; unfold Addr.add; simp
  refine ⟨fun W => ?_, ⟨?_, fun h0 => ?_⟩, ⟨by have := hR.1; omega, hR.2⟩⟩
  · rw [run_slice_h (P := P) W t A n c ht k hi hl.1 (by have := hR.1; omega), hsz W]
    cases A <;> simp [Result.andThen, sliced, hz]
  · rw [List.length_take, h.1]
    exact Nat.min_eq_left (Nat.mul_le_mul_right K (by omega))
  · rw [List.length_take] at h0
    obtain ⟨ad, e, hc⟩ := h.2 (by omega)
    refine ⟨ad, e, fun j u hu => hc j u ?_⟩
    have := List.getElem?_take (l := xs) (i := hi.toNat * K) (j := j)
    rw [this] at hu
    split at hu
    · exact hu
    · cases hu
/-- append(a, b...) onto a row of its own -/
theorem append_spread {P : Program} {w : World} {ops : Array Oper} {rest : List Oper} {o : Oper} {a : Act} {Q : Exit → Act → World → Prop} (hgd : o.guard = none) (s x : Operand) (t : TypeId)
    (ho : o.op = .call { callee := .builtin .append, args := #[s, x], argTypes := #[t, t] })
    (base : Nat) (e : TypeId) (i : TypeInfo) (z : Value) (size bytes : Nat) (ht : P.underlying t = some (.slice e)) (hi : P.info? e = some i) (hz : i.zero = some z)
    (hsize : i.size = size) (hby : i.bytes = bytes) (hzs : z.cells.size = size) (hsz : 0 < size)
    (A1 : Option Addr) (c1 n : Nat) (xs : List Value) (hs : a.eval s = .slice A1 n c1) (hown : w.ownsRow base e size (.slice A1 n c1) n xs)
    (A : Option Addr) (m c : Nat) (news : List Value) (hx : a.eval x = .slice A m c) (hN : Room A m c) (hc : Cells w size A m news) (h1 : ∀ u ∈ news, u.oneCell' = true)
    (h63 : n + m ≤ maxLen) (hbytes : (n + m) * bytes ≤ 140737488355328) (hbase : base ≤ w.heap.size)
    (h : ∀ v' w', w'.ownsRow base e size v' (n + m) (xs ++ news) → w.grownBy w' (Value.slice A1 n c1).ownBlock → (v'.ownBlock = (Value.slice A1 n c1).ownBlock ∨ v'.ownBlock = some w.heap.size) → wpList P ops Q rest (a.put o.dst v') w') :
    wpList P ops Q (o :: rest) a w := by
  cases A with
  | some ad =>
    refine wpList_append_own_at w hgd s x t ho base e i z size bytes ht hi hz hsize hby hzs hsz _ n xs hs hown ad m c news hx hc.1 (fun j u hu => ?_) h1 h63 hbytes hbase (fun v' w' o1 g1 _ y1 => h v' w' o1 g1 y1)
    obtain ⟨ad', e', hcell⟩ := hc.2 (by have := (List.getElem?_eq_some_iff.1 hu).1; omega)
    obtain rfl : ad = ad' := Option.some.inj e'
    exact hcell j u hu
  | none =>
    have hm : m = 0 := by
      cases news with
      | nil =>
        have h0 : ([] : List Value).length = m * size := hc.1
        rw [List.length_nil] at h0
        rcases Nat.mul_eq_zero.1 h0.symm with h1 | h1 <;> omega
      | cons y l => obtain ⟨ad, e', _⟩ := hc.2 (by simp); simp at e'
    obtain rfl : c = 0 := hN.2 rfl
    subst hm
    have hn : news = [] := List.eq_nil_of_length_eq_zero (by have := hc.1; simpa using this)
    subst hn
    refine Go.wpList_append_own_none hgd s x t ho base e i size ht hi _ n xs hs hown hx ?_
    exact h _ w (by simpa using hown) (World.grownBy.refl w _) (.inl rfl)
theorem own_pushS {α : Type} {f : List α → List Value} {l b t : List α} {w' : World} {bs T K : Nat} {v' : Value} {n : Nat} (ht : l ++ b = t) (hf : f (l ++ b) = f l ++ f b) (hn : l.length = n) (h : w'.ownsRow bs T K v' (n + b.length) (f l ++ f b)) :
    ∃ A cap, v' = .slice A t.length cap ∧ w'.ownsRow bs T K (.slice A t.length cap) t.length (f t) := by
  subst ht
  subst hn
  rw [← List.length_append, ← hf] at h
  rcases h.2 with ⟨h1, h2⟩ | ⟨g3, cap3, _, h2, _⟩
  · have hv : v' = .slice none (l ++ b).length 0 := by rw [h1, h2]
    exact ⟨none, 0, hv, hv ▸ h⟩
  · exact ⟨_, _, h2, h2 ▸ h⟩
end Go.Proofs.Ytbpjhmhnicfdfaa.GoM

/- The drawing cursor as a tape of numbers from 0 to 255: what it is in memory, and the contract of its method next. Conditions: its bytes read as bytes, and it has been asked fewer than 2^62 times. -/
namespace Go.Proofs.Ytbpjhmhnicfdfaa.GoC
set_option linter.unusedVariables false
open Go.RowKit
open Go.Proofs.Ytbpjhmhnicfdfaa.Rowed Go.Proofs.Ytbpjhmhnicfdfaa.Turn Go.Proofs.Ytbpjhmhnicfdfaa.GoM

/-- what a cursor will give, and how often it may be asked -/
structure Tape where
  vals : Nat → Int
  left : Nat
def Tape.tail (t : Tape) : Tape := ⟨fun i => t.vals (i + 1), t.left - 1⟩
def u8s (l : List Int) : List Value := l.map (fun z => Value.int .u8 z)
theorem u8s_len (l : List Int) : (u8s l).length = l.length := by simp [u8s]
theorem u8s_at (l : List Int) (k : Nat) : (u8s l)[k]? = (l[k]?).map (Value.int .u8) := by simp [u8s]
/-- the cell block of a cursor over the bytes 'A, c' -/
def At (w : World) (b g : Nat) (A : Option Addr) (c : Nat) (code : List Int) (k : Nat) (seed : Int) : Prop :=
  b ≤ g ∧ w.heap[g]? = some (.cells #[.slice A code.length c, .int .i64 k, .int .u64 seed] 46 (0, 0)) ∧ Cells w 1 A code.length (u8s code) ∧ (∀ a, A = some a → 0 < code.length → a.block < b)
/-- asked there, the cursor gives x, and its seed is then s -/
def Step (code : List Int) (k : Nat) (seed x s : Int) : Prop :=
  (0 ≤ x ∧ x ≤ 255) ∧ ∀ w b g A c, At w b g A c code k seed → Calls Try.prog 51 #[.pointer (some ⟨g, 0, none⟩)] w (fun e w' => e = .returned (.int .i64 x) ∧ At w' b g A c code (k + 1) s ∧ w.grownBy w' (some g))
def Emits (code : List Int) (k : Nat) (seed : Int) (t : Tape) : Prop :=
  k + t.left ≤ 4611686018427387904 ∧ ∃ seeds : Nat → Int, seeds 0 = seed ∧ ∀ i, i < t.left → Step code (k + i) (seeds i) (t.vals i) (seeds (i + 1))
/-- block g is a cursor that will give t -/
def CurIs (w : World) (b g : Nat) (A : Option Addr) (c : Nat) (t : Tape) : Prop := ∃ code k seed, At w b g A c code k seed ∧ Emits code k seed t

theorem cells3 {w : World} {g : Nat} {t : TypeId} {x y z : Value} (h : w.heap[g]? = some (.cells #[x, y, z] t (0, 0))) :
    w.cell? ⟨g, 0, none⟩ = some x ∧ w.cell? ⟨g, 1, none⟩ = some y ∧ w.cell? ⟨g, 2, none⟩ = some z ∧ (∀ i, w.frozen? ⟨g, i, none⟩ = false) :=
  ⟨by simp [World.cell?, h], by simp [World.cell?, h], by simp [World.cell?, h], fun i => by simp [World.frozen?, h]⟩
theorem stored {w W2 : World} {g n1 : Nat} {t : TypeId} {x y z u v : Value} (hb : w.heap[g]? = some (.cells #[x, y, z] t (0, 0)))
    (hW : ((w.drewN n1).setCell ⟨g, 1, none⟩ u).setCell ⟨g, 2, none⟩ v = W2) : W2.heap[g]? = some (.cells #[x, u, v] t (0, 0)) ∧ w.grownBy W2 (some g) := by
  subst hW
  refine ⟨by simp [World.setCell, Array.getElem?_modify, hb], ⟨rfl, rfl, rfl, by simp [World.setCell], fun k _ hk => ?_⟩⟩
  have hne : k ≠ g := fun e => hk (by rw [e])
  rw [Below.heap_setCell _ _ _ _ hne, Below.heap_setCell _ _ _ _ hne]
  rfl
theorem grown_drewN {w w' : World} {r : Option Nat} (h : w.grownBy w' r) (n : Nat) : w.grownBy (w'.drewN n) r := ⟨h.os, h.tape, h.output, h.size, h.block⟩
theorem add_block (a : Addr) (n : Nat) : (a.add n).block = a.block := by unfold Addr.add; split <;> rfl
theorem cells_kept {w w' : World} {K g n : Nat} {A : Option Addr} {xs : List Value} (h : Cells w K A n xs) (hg : w.grownBy w' (some g)) (hA : ∀ a, A = some a → 0 < xs.length → a.block ≠ g) : Cells w' K A n xs := by
  refine ⟨h.1, fun h0 => ?_⟩
  obtain ⟨ad, e, hc⟩ := h.2 h0
  refine ⟨ad, e, fun j u hu => ?_⟩
  have h1 := hc j u hu
  have hlt := cell_lt h1
  rw [World.cell?_of_block (w := w) (w' := w') (hg.block _ hlt (by rw [add_block]; intro e2; injection e2 with e3; exact hA ad e h0 e3))]
  exact h1
theorem and255 (y : Int) : 0 ≤ wrap64 (bits .and .u64 y 255) ∧ wrap64 (bits .and .u64 y 255) ≤ 255 := by
  have h : 0 ≤ bits .and .u64 y 255 ∧ bits .and .u64 y 255 ≤ 255 := by
    have h1 : (BitVec.ofInt 64 y &&& BitVec.ofInt 64 255).toNat ≤ 255 := by
      rw [BitVec.toNat_and]
      exact Nat.le_trans Nat.and_le_right (by decide)
    show 0 ≤ IntKind.u64.wrap ((BitVec.ofInt 64 y &&& BitVec.ofInt 64 255).toNat : Int) ∧ IntKind.u64.wrap ((BitVec.ofInt 64 y &&& BitVec.ofInt 64 255).toNat : Int) ≤ 255
    rw [IntKind.wrap_u64]
    omega
  rw [IntWalk.wrap64_in _ ⟨by omega, by omega⟩]
  exact h

set_option maxHeartbeats 1000000 in
theorem step_any (code : List Int) (hb : ∀ z ∈ code, 0 ≤ z ∧ z ≤ 255) (hn : code.length ≤ 9223372036854775807) (k : Nat) (seed : Int) (hm : k < 4611686018427387904) : ∃ x s, Step code k seed x s := by
  by_cases hlt : k < code.length
  · obtain ⟨z, hzz⟩ : ∃ z, code[k]? = some z := ⟨code[k], List.getElem?_eq_getElem hlt⟩
    have hz := hb z (List.mem_of_getElem? hzz)
    refine ⟨z, IntKind.u64.wrap (IntKind.u64.wrap (IntKind.u64.wrap (seed * 6364136223846793005) + z) + 381907), ⟨?h0, ?h1⟩, fun w b g A c h => ?walk⟩
    case walk =>
      obtain ⟨hbg, hb, hcs, hA⟩ := h
      obtain ⟨ad, rfl, hc⟩ := hcs.2 (by unfold u8s; rw [List.length_map]; omega)
      have hcell := hc k _ (by unfold u8s; rw [List.getElem?_map, hzz]; rfl)
      obtain ⟨c0, c1, c2, hf⟩ := cells3 hb
      have f1 := hf 1
      have f2 := hf 2
      have HB := Lib.hid hb
      have HK := Lib.hid hcs
      have b1 : 0 ≤ (k : Int) := by omega
      have b2 : (k : Int) < code.length := by omega
      clear hb hf hc hcs
      have HA := Lib.hid hA
      clear hA
      go_enter Try.func51, Try.ntmps51
      go_wp2_with fail
      go_quiet (fail)
      go_wp2_with fail
      go_quiet (fail)
      go_wp2_with fail
      generalize hW2 : (World.setCell (World.setCell (World.drewN w _) ⟨g, 1, none⟩ _) ⟨g, 2, none⟩ _) = W2
      obtain ⟨hb2, hg2⟩ := stored HB.out hW2
      obtain ⟨d0, d1, d2, df⟩ := cells3 hb2
      have HB2 := Lib.hid hb2
      have HG2 := Lib.hid hg2
      clear hb2 hg2 df hW2 HB c0 c1 c2 f1 f2
      go_quiet (fail)
      go_wp2_with fail
      go_ret
      exact ⟨rfl, ⟨hbg, by rw [show ((k + 1 : Nat) : Int) = (k : Int) + 1 by omega]; exact HB2.out, cells_kept HK.out (grown_drewN HG2.out _) (fun a e h0 e2 => by have := HA.out a e (by unfold u8s at h0; rwa [List.length_map] at h0); omega), HA.out⟩, grown_drewN HG2.out _⟩
    case h0 => exact hz.1
    case h1 => exact hz.2
  · refine ⟨wrap64 (bits .and .u64 (IntKind.u64.wrap (IntKind.u64.wrap (IntKind.u64.wrap (seed * 6364136223846793005)) + 381907) / 1099511627776) 255), IntKind.u64.wrap (IntKind.u64.wrap (IntKind.u64.wrap (seed * 6364136223846793005)) + 381907), ⟨?h0, ?h1⟩, fun w b g A c h => ?walk⟩
    case walk =>
      obtain ⟨hbg, hb, hcs, hA⟩ := h
      obtain ⟨c0, c1, c2, hf⟩ := cells3 hb
      have f1 := hf 1
      have f2 := hf 2
      have HB := Lib.hid hb
      have HK := Lib.hid hcs
      have HA := Lib.hid hA
      have b2 : (code.length : Int) ≤ k := by omega
      have b3 : ¬ ((k : Int) + 1 ≤ code.length) := by omega
      clear hb hf hcs hA
      go_enter Try.func51, Try.ntmps51
      go_wp2_with fail
      go_quiet (fail)
      go_wp2_with fail
      generalize hW2 : (World.setCell (World.setCell (World.drewN w _) ⟨g, 1, none⟩ _) ⟨g, 2, none⟩ _) = W2
      obtain ⟨hb2, hg2⟩ := stored HB.out hW2
      obtain ⟨d0, d1, d2, df⟩ := cells3 hb2
      have HB2 := Lib.hid hb2
      have HG2 := Lib.hid hg2
      clear hb2 hg2 df hW2 HB c0 c1 c2 f1 f2
      go_quiet (fail)
      go_wp2_with fail
      go_ret
      exact ⟨rfl, ⟨hbg, by rw [show ((k + 1 : Nat) : Int) = (k : Int) + 1 by omega]; exact HB2.out, cells_kept HK.out (grown_drewN HG2.out _) (fun a e h0 e2 => by have := HA.out a e (by unfold u8s at h0; rwa [List.length_map] at h0); omega), HA.out⟩, grown_drewN HG2.out _⟩
    case h0 => exact (and255 _).1
    case h1 => exact (and255 _).2
/-- a tape for each row of bytes -/
def Tells (tapes : List Int → Tape) : Prop := (∀ code, (tapes code).left = 4611686018427387904) ∧ (∀ code i, 0 ≤ (tapes code).vals i ∧ (tapes code).vals i ≤ 255) ∧
  ∀ code, (∀ z ∈ code, 0 ≤ z ∧ z ≤ 255) → code.length ≤ 9223372036854775807 → Emits code 0 0 (tapes code)
theorem tells_one (code : List Int) : ∃ t : Tape, t.left = 4611686018427387904 ∧ (∀ i, 0 ≤ t.vals i ∧ t.vals i ≤ 255) ∧ ((∀ z ∈ code, 0 ≤ z ∧ z ≤ 255) → code.length ≤ 9223372036854775807 → Emits code 0 0 t) := by
  by_cases hc : (∀ z ∈ code, 0 ≤ z ∧ z ≤ 255) ∧ code.length ≤ 9223372036854775807
  · have hs : ∀ (k : Nat) (seed : Int), ∃ p : Int × Int, (0 ≤ p.1 ∧ p.1 ≤ 255) ∧ (k < 4611686018427387904 → Step code k seed p.1 p.2) := by
      intro k seed
      by_cases hk : k < 4611686018427387904
      · obtain ⟨x, s, h⟩ := step_any code hc.1 hc.2 k seed hk
        exact ⟨(x, s), h.1, fun _ => h⟩
      · exact ⟨(0, 0), by omega, fun h => absurd h hk⟩
    have ⟨f, hf⟩ : ∃ f : Nat → Int → Int × Int, ∀ k seed, (0 ≤ (f k seed).1 ∧ (f k seed).1 ≤ 255) ∧ (k < 4611686018427387904 → Step code k seed (f k seed).1 (f k seed).2) :=
      ⟨fun k seed => Classical.choose (hs k seed), fun k seed => Classical.choose_spec (hs k seed)⟩
    obtain ⟨seeds, h0, h1⟩ : ∃ seeds : Nat → Int, seeds 0 = 0 ∧ ∀ i, seeds (i + 1) = (f i (seeds i)).2 := ⟨fun n => Nat.rec 0 (fun i s => (f i s).2) n, rfl, fun i => rfl⟩
    refine ⟨⟨fun i => (f i (seeds i)).1, 4611686018427387904⟩, rfl, fun i => (hf i (seeds i)).1, fun _ _ => ⟨by show 0 + 4611686018427387904 ≤ 4611686018427387904; omega, seeds, h0, fun i hi => ?_⟩⟩
    have := (hf i (seeds i)).2 hi
    rw [h1, Nat.zero_add]
    exact this
  · exact ⟨⟨fun _ => 0, 4611686018427387904⟩, rfl, fun _ => ⟨Int.le_refl 0, (by decide : (0 : Int) ≤ 255)⟩, fun h1 h2 => absurd ⟨h1, h2⟩ hc⟩
theorem tells : ∃ tapes, Tells tapes := by
  have ⟨f, hf⟩ : ∃ f : List Int → Tape, ∀ code, (f code).left = 4611686018427387904 ∧ (∀ i, 0 ≤ (f code).vals i ∧ (f code).vals i ≤ 255) ∧ ((∀ z ∈ code, 0 ≤ z ∧ z ≤ 255) → code.length ≤ 9223372036854775807 → Emits code 0 0 (f code)) :=
    ⟨fun code => Classical.choose (tells_one code), fun code => Classical.choose_spec (tells_one code)⟩
  exact ⟨f, fun code => (hf code).1, fun code => (hf code).2.1, fun code => (hf code).2.2⟩

theorem cur_lt {w : World} {b g c : Nat} {A : Option Addr} {t : Tape} (h : CurIs w b g A c t) : b ≤ g ∧ g < w.heap.size := by
  obtain ⟨code, k, seed, ⟨h1, h2, _⟩, _⟩ := h
  refine ⟨h1, ?_⟩
  rcases Nat.lt_or_ge g w.heap.size with hl | hl
  · exact hl
  · rw [Array.getElem?_eq_none hl] at h2; cases h2
theorem cells_lt {w : World} {K n : Nat} {a : Addr} {xs : List Value} (h : Cells w K (some a) n xs) (h0 : 0 < xs.length) : a.block < w.heap.size := by
  obtain ⟨ad, e, hc⟩ := h.2 h0
  obtain rfl := Option.some.inj e
  have := cell_lt (hc 0 xs[0] (List.getElem?_eq_getElem h0))
  rwa [add_block] at this
theorem cur_below {w w' : World} {b g c : Nat} {A : Option Addr} {t : Tape} (h : CurIs w b g A c t) (hb : Below w.heap.size w w') : CurIs w' b g A c t := by
  have hl := cur_lt h
  obtain ⟨code, k, seed, ⟨h1, h2, h3, h4⟩, hE⟩ := h
  exact ⟨code, k, seed, ⟨h1, by rw [hb.block g hl.2]; exact h2, Cells.below h3 hb, h4⟩, hE⟩
/-- another row is written, one that is younger than the bytes -/
theorem cur_other {w w' : World} {b g c n' c' : Nat} {A A' : Option Addr} {t : Tape} (h : CurIs w b g A c t) (hg : w.grownBy w' (Value.slice A' n' c').ownBlock) (hD : Apart A' (some ⟨g, 0, none⟩)) (ho : ∀ a, A' = some a → b ≤ a.block) : CurIs w' b g A c t := by
  have hl := cur_lt h
  obtain ⟨code, k, seed, ⟨h1, h2, h3, h4⟩, hE⟩ := h
  refine ⟨code, k, seed, ⟨h1, ?_, ?_, h4⟩, hE⟩
  · rw [hg.block g hl.2 ?_]
    · exact h2
    · cases A' with
      | none => simp [Value.ownBlock]
      | some x => simp only [Value.ownBlock, ne_eq, Option.some.injEq]; exact fun e => hD x _ rfl rfl e.symm
  · refine ⟨h3.1, fun h0 => ?_⟩
    obtain ⟨ad, e, hc⟩ := h3.2 h0
    refine ⟨ad, e, fun j u hu => ?_⟩
    have h5 := hc j u hu
    have hlt := cell_lt h5
    rw [World.cell?_of_block (w := w) (w' := w') (hg.block _ hlt ?_)]
    · exact h5
    · rw [add_block]
      cases A' with
      | none => simp [Value.ownBlock]
      | some x =>
        simp only [Value.ownBlock, ne_eq, Option.some.injEq]
        intro e2
        have := ho x rfl
        have := h4 ad e (by unfold u8s at h0; rwa [List.length_map] at h0)
        omega
/-- a cursor that is laid now -/
theorem cur_new {w : World} {b c : Nat} {A : Option Addr} {code : List Int} {t : Tape} (hb : b ≤ w.heap.size) (hc : Cells w 1 A code.length (u8s code)) (hA : ∀ a, A = some a → 0 < code.length → a.block < b) (hE : Emits code 0 0 t) :
    CurIs (w.alloc (.cells #[.slice A code.length c, .int .i64 0, .int .u64 0] 46)) b w.heap.size A c t :=
  ⟨code, 0, 0, ⟨hb, heap_alloc_new w _, Cells.below hc ((Below.refl _ _).alloc (Nat.le_refl _) _), hA⟩, hE⟩
theorem grown_new {w wr w2 : World} {r : Option Nat} {n c : Nat} {A : Option Addr} (h : w.grownBy wr r) (hg : wr.grownBy w2 (Value.slice A n c).ownBlock) (ho : ∀ a, A = some a → w.heap.size ≤ a.block) : w.grownBy w2 r :=
  ⟨hg.os.trans h.os, hg.tape.trans h.tape, hg.output.trans h.output, Nat.le_trans h.size hg.size, fun i hi hr => (hg.block i (Nat.lt_of_lt_of_le hi h.size) (by
    cases A with
    | none => simp [Value.ownBlock]
    | some x => simp only [Value.ownBlock, ne_eq, Option.some.injEq]; intro e; have := ho x rfl; omega)).trans (h.block i hi hr)⟩
theorem own_ge {w : World} {b T K n m c : Nat} {A : Option Addr} {xs : List Value} (h : w.ownsRow b T K (.slice A m c) n xs) : ∀ a, A = some a → b ≤ a.block := fun a e => (own_lt h a e).1
theorem u8_at {w : World} {A : Option Addr} {n k : Nat} {l : List Int} (h : Cells w 1 A n (u8s l)) (hk : k < n) : ∃ (b o : Nat) (x : Int), A = some ⟨b, o, none⟩ ∧ l[k]? = some x ∧ w.cell? ⟨b, o + k, none⟩ = some (.int .u8 x) := by
  have hl : k < l.length := by have := h.1; unfold u8s at this; rw [List.length_map] at this; omega
  obtain ⟨⟨b, o, sp⟩, e, hc⟩ := h.2 (by unfold u8s; rw [List.length_map]; omega)
  have h0 := hc 0 (.int .u8 l[0]) (by unfold u8s; rw [List.getElem?_map, List.getElem?_eq_getElem (show 0 < l.length by omega)]; rfl)
  obtain rfl : sp = none := cell_spot (b := b) (o := o) h0
  have hs := List.getElem?_eq_getElem hl
  have := hc k (.int .u8 l[k]) (by unfold u8s; rw [List.getElem?_map, hs]; rfl)
  rw [add_flat] at this
  exact ⟨b, o, l[k], e, hs, this⟩
theorem apart_cur {w : World} {b g c : Nat} {A : Option Addr} {t : Tape} (h : CurIs w b g A c t) : Apart (some ⟨w.heap.size, 0, none⟩) (some ⟨g, 0, none⟩) := by
  intro a a' ha ha' e
  have := (cur_lt h).2
  injection ha with ha
  injection ha' with ha'
  subst ha
  subst ha'
  simp at e
  omega
theorem apart_callcur {w w1 : World} {T K n m c b g c' : Nat} {A A' : Option Addr} {xs : List Value} {t : Tape} (h1 : w1.ownsRow w.heap.size T K (.slice A m c) n xs) (h : CurIs w b g A' c' t) : Apart A (some ⟨g, 0, none⟩) := by
  intro a a' ha ha' e
  have := (cur_lt h).2
  have := (own_lt h1 a ha).1
  injection ha' with ha'
  subst ha'
  simp at e
  omega
theorem apart_x {n g bb oo : Nat} (h : 0 < n → Apart (some ⟨bb, oo, none⟩) (some ⟨g, 0, none⟩)) (h0 : 0 < n) : Apart (some ⟨g, 0, none⟩) (some ⟨bb, 0, none⟩) := by
  intro a a' ha ha' e
  injection ha with ha
  injection ha' with ha'
  subst ha
  subst ha'
  exact h h0 ⟨bb, oo, none⟩ ⟨g, 0, none⟩ rfl rfl e.symm
theorem apart_curold {w : World} {b g c bb : Nat} {A : Option Addr} {t : Tape} (h : CurIs w b g A c t) (hl : bb < b) : Apart (some ⟨g, 0, none⟩) (some ⟨bb, 0, none⟩) := by
  intro a a' ha ha' e
  have := (cur_lt h).1
  injection ha with ha
  injection ha' with ha'
  subst ha
  subst ha'
  simp at e
  omega
theorem cells_io {w w' : World} {K n m g : Nat} {A : Option Addr} {xs : List Value} (h : Cells w K A n xs) (hg : w.grownBy w' (Value.slice (some ⟨g, 0, none⟩) 1 1).ownBlock) (hX : 0 < m → Apart A (some ⟨g, 0, none⟩)) (hm : 0 < xs.length → 0 < m := by intro h; first | exact h | (simp only [List.length_map] at h; exact h)) : Cells w' K A n xs :=
  cells_kept h hg (fun a e h0 e2 => hX (hm h0) a ⟨g, 0, none⟩ e rfl e2)
theorem below_cur {w wr w2 : World} {B g : Nat} (h : Below B w wr) (hg : wr.grownBy w2 (Value.slice (some ⟨g, 0, none⟩) 1 1).ownBlock) (hB : B ≤ wr.heap.size) (hk : B ≤ g) : Below B w w2 :=
  h.grown hg hB (fun q hq => by have hq' : some g = some q := hq; injection hq' with e; omega)
/-- next -/
def P (t : Tape) : Option (Int × Tape) := if 0 < t.left then some (t.vals 0, t.tail) else none
theorem C (t : Tape) (w : World) (b g : Nat) (A : Option Addr) (c : Nat) (K : Hid (CurIs w b g A c t)) {r : Int} {t' : Tape} (H : Hid (P t = some (r, t'))) :
    Calls Try.prog 51 #[.pointer (some ⟨g, 0, none⟩)] w (fun e w' => e = .returned (.int .i64 r) ∧ CurIs w' b g A c t' ∧ w.grownBy w' (some g)) := by
  have h : P t = some (r, t') := H
  obtain ⟨code, k, seed, hA, hl, seeds, h0, hs⟩ := K.out
  unfold P at h
  by_cases hk : 0 < t.left
  · rw [if_pos hk] at h
    simp only [Option.some.injEq, Prod.mk.injEq] at h
    obtain ⟨rfl, rfl⟩ := h
    have h1 := hs 0 hk
    rw [h0] at h1
    refine (h1.2 w b g A c hA).mono ?_
    rintro e w' ⟨rfl, a1, a2⟩
    refine ⟨rfl, ⟨code, k + 1, seeds 1, a1, by show k + 1 + (t.left - 1) ≤ _; omega, fun i => seeds (i + 1), rfl, fun i hi => ?_⟩, a2⟩
    have h2 := hs (i + 1) (by have : i < t.left - 1 := hi; omega)
    rw [show k + 1 + i = k + (i + 1) by omega]
    exact h2
  · rw [if_neg hk] at h; simp at h
end Go.Proofs.Ytbpjhmhnicfdfaa.GoC

/- The contracts of the laws' helpers on slices of ints: toIntS, eqIntS, markIntS, heldIntS. Condition: the slice reads as a list of ints. -/
namespace Go.Proofs.Ytbpjhmhnicfdfaa.HelpInt
set_option linter.unusedVariables false
open Go.RowKit
open Go.Proofs.Ytbpjhmhnicfdfaa.Rowed

/-- ints as values -/
def iv (l : List Int) : List Value := l.map (Value.int .i64)
theorem iv_len (l : List Int) : (iv l).length = l.length := by simp [iv]
theorem iv_at (l : List Int) (k : Nat) : (iv l)[k]? = (l[k]?).map (Value.int .i64) := by simp [iv]
theorem iv_snoc (l : List Int) (x : Int) : iv (l ++ [x]) = iv l ++ [.int .i64 x] := by simp [iv]
/-- the slice 'A, n' reads as the ints l -/
abbrev Ints (w : World) (A : Option Addr) (n : Nat) (l : List Int) : Prop := Cells w 1 A n (iv l)
theorem add_none (b o n : Nat) : (⟨b, o, none⟩ : Addr).add n = ⟨b, o + n, none⟩ := by
  unfold Addr.add; split
  · rename_i h; subst h; rfl
  · rfl
theorem Ints.at_ {w : World} {A : Option Addr} {n k : Nat} {l : List Int} (h : Ints w A n l) (hk : k < n) : ∃ (b o : Nat) (x : Int), A = some ⟨b, o, none⟩ ∧ l[k]? = some x ∧ w.cell? ⟨b, o + k, none⟩ = some (.int .i64 x) := by
  have hl : k < l.length := by have := h.1; rw [iv_len] at this; omega
  obtain ⟨⟨b, o, sp⟩, e, hc⟩ := h.2 (by rw [iv_len]; omega)
  have h0 := hc 0 _ (by rw [iv_at, List.getElem?_eq_getElem (show 0 < l.length by omega)]; rfl)
  obtain rfl : sp = none := cell_spot (b := b) (o := o) h0
  have hs := List.getElem?_eq_getElem hl
  have := hc k (.int .i64 l[k]) (by rw [iv_at, hs]; rfl)
  rw [add_none] at this
  exact ⟨b, o, l[k], e, hs, this⟩








end Go.Proofs.Ytbpjhmhnicfdfaa.HelpInt

/- loop.example/g01062/laws.rBig as a plain function, and the contract of the program's: where the plain one has an answer, the program has it. Conditions: slices read as lists. -/
namespace Go.Proofs.Ytbpjhmhnicfdfaa.GlRBig
set_option linter.unusedVariables false
set_option linter.unusedSimpArgs false
open Go.RowKit
open Go.Proofs.Ytbpjhmhnicfdfaa.Rowed Go.Proofs.Ytbpjhmhnicfdfaa.Turn Go.Proofs.Ytbpjhmhnicfdfaa.Aid Go.Proofs.Ytbpjhmhnicfdfaa.GoP Go.Proofs.Ytbpjhmhnicfdfaa.GoM

def P (code : (List Int)) : Option (Bool) :=
  letK (decide (65536 < (code.length : Int))) fun (t_3 : Bool) =>
  some t_3

set_option maxRecDepth 100000 in
set_option maxHeartbeats 2000000 in
theorem C (code : (List Int)) (A0 : Option Addr) (c0 : Nat)  (w : World) (M0 : Hid (Cells w 1 A0 code.length (Go.Proofs.Ytbpjhmhnicfdfaa.GoC.u8s code))) (N0 : Hid (code.length ≤ 9223372036854775807)) (V0 : Hid (∀ z ∈ code, 0 ≤ z ∧ z ≤ 255))  {r : Bool} (H : Hid (P code = some r)) :
    Calls Try.prog 5 #[.slice A0 code.length c0] w (Gives (.bool r) w) := by
  have HB := Lib.hid (Below.refl w.heap.size w)
  unfold P at H
  have N0o := N0.out
  go_enter Try.func5, Try.ntmps5
  replace H := let_hid H
  obtain ⟨t_3, ht_3, H⟩ := H
  obtain rfl := ret_hid H
  go_wp2_with fail
  go_ret
  exact ⟨rfl, HB.out⟩

set_option maxRecDepth 100000 in
set_option maxHeartbeats 2000000 in
theorem C0 (code : (List Int)) (A0 : Option Addr) (c0 : Nat)  (w : World) (M0 : Hid (Cells w 1 A0 code.length (Go.Proofs.Ytbpjhmhnicfdfaa.GoC.u8s code))) (N0 : Hid (code.length ≤ 9223372036854775807)) (V0 : Hid (∀ z ∈ code, 0 ≤ z ∧ z ≤ 255))  {r : Bool} (H : Hid (P code = some r)) :
    Calls Try.prog 5 #[.slice A0 code.length c0] w (fun e w'' => e = .returned (.bool r) ∧ w'' = w) := by
  have HB := Lib.hid (Below.refl w.heap.size w)
  unfold P at H
  have N0o := N0.out
  go_enter Try.func5, Try.ntmps5
  replace H := let_hid H
  obtain ⟨t_3, ht_3, H⟩ := H
  obtain rfl := ret_hid H
  go_wp2_with fail
  go_ret
  exact ⟨rfl, rfl⟩
end Go.Proofs.Ytbpjhmhnicfdfaa.GlRBig

/- The drawing cursor's method next as a plain function on tapes. No condition. -/
namespace Go.Proofs.Ytbpjhmhnicfdfaa.GsL1CurNext
set_option linter.unusedVariables false
open Go.RowKit
open Go.Proofs.Ytbpjhmhnicfdfaa.GoC
def P (t : GoC.Tape) : Option (Int × GoC.Tape) := if 0 < t.left then some (t.vals 0, t.tail) else none
theorem C (t : GoC.Tape) (g : Nat) (A : Option Addr) (c b : Nat) (w : World) (K : Hid (CurIs w b g A c t)) {r : Int} {t' : GoC.Tape} (H : Hid (P t = some (r, t'))) :
    Calls Try.prog 51 #[.pointer (some ⟨g, 0, none⟩)] w (fun e w' => e = .returned (.int .i64 r) ∧ CurIs w' b g A c t' ∧ w.grownBy w' (Value.slice (some ⟨g, 0, none⟩) 1 1).ownBlock) := GoC.C t w b g A c K H
end Go.Proofs.Ytbpjhmhnicfdfaa.GsL1CurNext

/- (*loop.example/g01062/spec.l1Cur).pick as a plain function, and the contract of the program's: where the plain one has an answer, the program has it. Conditions: slices read as lists. -/
namespace Go.Proofs.Ytbpjhmhnicfdfaa.GsL1CurPick
set_option linter.unusedVariables false
set_option linter.unusedSimpArgs false
open Go.RowKit
open Go.Proofs.Ytbpjhmhnicfdfaa.Rowed Go.Proofs.Ytbpjhmhnicfdfaa.Turn Go.Proofs.Ytbpjhmhnicfdfaa.Aid Go.Proofs.Ytbpjhmhnicfdfaa.GoP Go.Proofs.Ytbpjhmhnicfdfaa.GoM

def j0 (n_1 : Int) (s : Int × Go.Proofs.Ytbpjhmhnicfdfaa.GoC.Tape) : Option (Int × Go.Proofs.Ytbpjhmhnicfdfaa.GoC.Tape) :=
  unp2 s fun x_5j0 c0_c0j0 =>
  guardK (¬ (n_1 = 0)) <|
  letK (Int.tmod x_5j0 n_1) fun (t_17 : Int) =>
  some (t_17, c0_c0j0)

def P (c : Go.Proofs.Ytbpjhmhnicfdfaa.GoC.Tape) (n_1 : Int) : Option (Int × Go.Proofs.Ytbpjhmhnicfdfaa.GoC.Tape) :=
  letK (decide (n_1 ≤ 1)) fun (t_2 : Bool) =>
  iteK t_2
  (some (0, c))
  (bind2 (Go.Proofs.Ytbpjhmhnicfdfaa.GsL1CurNext.P c) fun (t_5 : Int) (t_5_tp : Go.Proofs.Ytbpjhmhnicfdfaa.GoC.Tape) =>
  letK (decide (200 < n_1)) fun (t_8 : Bool) =>
  iteK t_8
  (letK (IntKind.i64.wrap (t_5 * 256)) fun (t_10 : Int) =>
  bind2 (Go.Proofs.Ytbpjhmhnicfdfaa.GsL1CurNext.P t_5_tp) fun (t_12 : Int) (t_12_tp : Go.Proofs.Ytbpjhmhnicfdfaa.GoC.Tape) =>
  letK (IntKind.i64.wrap (t_10 + t_12)) fun (t_13 : Int) =>
  j0 n_1 (t_13, t_12_tp))
  (j0 n_1 (t_5, t_5_tp)))

set_option maxRecDepth 100000 in
set_option maxHeartbeats 2000000 in
theorem C (c : Go.Proofs.Ytbpjhmhnicfdfaa.GoC.Tape) (n_1 : Int)   (g0 : Nat) (Ac0 : Option Addr) (cc0 : Nat) (bc0 : Nat) (w : World)   (K0 : Hid (Go.Proofs.Ytbpjhmhnicfdfaa.GoC.CurIs w bc0 g0 Ac0 cc0 c)) {r : Int} {t_ : Go.Proofs.Ytbpjhmhnicfdfaa.GoC.Tape} (H : Hid (P c n_1 = some (r, t_))) :
    Calls Try.prog 43 #[.pointer (some ⟨g0, 0, none⟩), .int .i64 n_1] w (fun e w' => e = .returned (.int .i64 r) ∧ Go.Proofs.Ytbpjhmhnicfdfaa.GoC.CurIs w' bc0 g0 Ac0 cc0 t_ ∧ w.grownBy w' (Value.slice (some ⟨g0, 0, none⟩) 1 1).ownBlock) := by
  have HB := Lib.hid (Aid.grown_refl w (Value.slice (some ⟨g0, 0, none⟩) 1 1).ownBlock)
  unfold P at H
  have L0 : bc0 ≤ w.heap.size := by have := Go.Proofs.Ytbpjhmhnicfdfaa.GoC.cur_lt K0.out; omega
  go_enter Try.func43, Try.ntmps43
  replace H := let_hid H
  obtain ⟨t_2, ht_2, H⟩ := H
  cases t_2 with
  | false =>
    replace H := ite_f H
    replace H := bind2_hid H
    obtain ⟨t_5, t_5_tp, qt_5, H⟩ := H
    go_wp2_with fail
    go_at_call 51
    refine (Go.Proofs.Ytbpjhmhnicfdfaa.GsL1CurNext.C (c) (g0) (Ac0) (cc0) (bc0) _   K0 qt_5).mono ?_
    rintro e_t_5 wt_5 ⟨rfl, kt_5, gt_5⟩
    have Kt_5 := Lib.hid kt_5
    have Gt_5 : Hid (w.grownBy wt_5 (Value.slice (some ⟨g0, 0, none⟩) 1 1).ownBlock) := Lib.hid gt_5
    clear kt_5 gt_5
    have HBwt_5 := Lib.hid (Aid.grown_tr HB.out Gt_5.out)
    clear K0 Gt_5
    replace H := let_hid H
    obtain ⟨t_8, ht_8, H⟩ := H
    cases t_8 with
    | false =>
      replace H := ite_f H
      unfold j0 at H
      replace H := unp2_hid H
      replace H := guard_hid H
      obtain ⟨hz_t_17, H⟩ := H
      replace H := let_hid H
      obtain ⟨t_17, ht_17, H⟩ := H
      cases ret_hid H
      go_wp2_with fail
      go_ret
      exact ⟨rfl, Kt_5.out, HBwt_5.out⟩
    | true =>
      replace H := ite_t H
      replace H := let_hid H
      obtain ⟨t_10, ht_10, H⟩ := H
      replace H := bind2_hid H
      obtain ⟨t_12, t_12_tp, qt_12, H⟩ := H
      go_wp2_with fail
      go_at_call 51
      refine (Go.Proofs.Ytbpjhmhnicfdfaa.GsL1CurNext.C (t_5_tp) (g0) (Ac0) (cc0) (bc0) _   Kt_5 qt_12).mono ?_
      rintro e_t_12 wt_12 ⟨rfl, kt_12, gt_12⟩
      have Kt_12 := Lib.hid kt_12
      have Gt_12 : Hid (wt_5.grownBy wt_12 (Value.slice (some ⟨g0, 0, none⟩) 1 1).ownBlock) := Lib.hid gt_12
      clear kt_12 gt_12
      have HBwt_12 := Lib.hid (Aid.grown_tr HBwt_5.out Gt_12.out)
      clear Kt_5 Gt_12
      replace H := let_hid H
      obtain ⟨t_13, ht_13, H⟩ := H
      unfold j0 at H
      replace H := unp2_hid H
      replace H := guard_hid H
      obtain ⟨hz_t_17, H⟩ := H
      replace H := let_hid H
      obtain ⟨t_17, ht_17, H⟩ := H
      cases ret_hid H
      go_wp2_with fail
      go_ret
      exact ⟨rfl, Kt_12.out, HBwt_12.out⟩
  | true =>
    replace H := ite_t H
    cases ret_hid H
    go_wp2_with fail
    go_ret
    exact ⟨rfl, K0.out, HB.out⟩
end Go.Proofs.Ytbpjhmhnicfdfaa.GsL1CurPick

/- (*loop.example/g01062/spec.l1Cur).among as a plain function, and the contract of the program's: where the plain one has an answer, the program has it. Conditions: slices read as lists. -/
namespace Go.Proofs.Ytbpjhmhnicfdfaa.GsL1CurAmong
set_option linter.unusedVariables false
set_option linter.unusedSimpArgs false
open Go.RowKit
open Go.Proofs.Ytbpjhmhnicfdfaa.Rowed Go.Proofs.Ytbpjhmhnicfdfaa.Turn Go.Proofs.Ytbpjhmhnicfdfaa.Aid Go.Proofs.Ytbpjhmhnicfdfaa.GoP Go.Proofs.Ytbpjhmhnicfdfaa.GoM

def P (c : Go.Proofs.Ytbpjhmhnicfdfaa.GoC.Tape) (list : (List Int)) : Option (Int × Go.Proofs.Ytbpjhmhnicfdfaa.GoC.Tape) :=
  bind2 (Go.Proofs.Ytbpjhmhnicfdfaa.GsL1CurPick.P c (list.length : Int)) fun (t_5 : Int) (t_5_tp : Go.Proofs.Ytbpjhmhnicfdfaa.GoC.Tape) =>
  Option.bind (idx list t_5) fun (yt_6 : Int) =>
  some (yt_6, t_5_tp)

set_option maxRecDepth 100000 in
set_option maxHeartbeats 2000000 in
theorem C (c : Go.Proofs.Ytbpjhmhnicfdfaa.GoC.Tape) (list : (List Int)) (A1 : Option Addr) (c1 : Nat)  (g0 : Nat) (Ac0 : Option Addr) (cc0 : Nat) (bc0 : Nat) (w : World) (M1 : Hid (Cells w 1 A1 list.length (Go.Proofs.Ytbpjhmhnicfdfaa.HelpInt.iv list))) (N1 : Hid (list.length ≤ 9223372036854775807))  (K0 : Hid (Go.Proofs.Ytbpjhmhnicfdfaa.GoC.CurIs w bc0 g0 Ac0 cc0 c)) (X1 : Hid (0 < list.length → Apart A1 (some ⟨g0, 0, none⟩))) {r : Int} {t_ : Go.Proofs.Ytbpjhmhnicfdfaa.GoC.Tape} (H : Hid (P c list = some (r, t_))) :
    Calls Try.prog 42 #[.pointer (some ⟨g0, 0, none⟩), .slice A1 list.length c1] w (fun e w' => e = .returned (.int .i64 r) ∧ Go.Proofs.Ytbpjhmhnicfdfaa.GoC.CurIs w' bc0 g0 Ac0 cc0 t_ ∧ w.grownBy w' (Value.slice (some ⟨g0, 0, none⟩) 1 1).ownBlock) := by
  have HB := Lib.hid (Aid.grown_refl w (Value.slice (some ⟨g0, 0, none⟩) 1 1).ownBlock)
  unfold P at H
  have N1o := N1.out
  have L0 : bc0 ≤ w.heap.size := by have := Go.Proofs.Ytbpjhmhnicfdfaa.GoC.cur_lt K0.out; omega
  go_enter Try.func42, Try.ntmps42
  replace H := bind2_hid H
  obtain ⟨t_5, t_5_tp, qt_5, H⟩ := H
  go_wp2_with fail
  go_at_call 43
  refine (Go.Proofs.Ytbpjhmhnicfdfaa.GsL1CurPick.C (c) ((list.length : Int)) (g0) (Ac0) (cc0) (bc0) _   K0 qt_5).mono ?_
  rintro e_t_5 wt_5 ⟨rfl, kt_5, gt_5⟩
  have Kt_5 := Lib.hid kt_5
  have Gt_5 : Hid (w.grownBy wt_5 (Value.slice (some ⟨g0, 0, none⟩) 1 1).ownBlock) := Lib.hid gt_5
  clear kt_5 gt_5
  have HBwt_5 := Lib.hid (Aid.grown_tr HB.out Gt_5.out)
  clear K0 Gt_5
  replace H := idx_hid H
  obtain ⟨nt_6, yt_6, et_6, lt_6, gt_6, H⟩ := H
  subst et_6
  obtain ⟨ab_t_6, ao_t_6, zt_6, At_6, z_t_6, ct_6_0⟩ := Go.Proofs.Ytbpjhmhnicfdfaa.HelpInt.Ints.at_ M1.out lt_6
  obtain rfl := Option.some.inj (gt_6.out.symm.trans z_t_6)
  subst At_6
  have ltt_6 := cell_lt ct_6_0
  replace ct_6_0 := cell_other ct_6_0 HBwt_5.out (Go.Proofs.Ytbpjhmhnicfdfaa.GoC.apart_x X1.out (by omega))
  clear z_t_6
  have b0t_6 : (0 : Int) ≤ (nt_6 : Int) := by omega
  have b1t_6 : (nt_6 : Int) < ((list.length : Nat) : Int) := by omega
  have b2t_6 : ((nt_6 : Int)).toNat = nt_6 := by omega
  cases ret_hid H
  go_wp2_with fail
  go_ret
  exact ⟨rfl, Kt_5.out, HBwt_5.out⟩
end Go.Proofs.Ytbpjhmhnicfdfaa.GsL1CurAmong

/- (*loop.example/g01062/spec.l1Cur).one as a plain function, and the contract of the program's: where the plain one has an answer, the program has it. Conditions: slices read as lists. -/
namespace Go.Proofs.Ytbpjhmhnicfdfaa.GsL1CurOne
set_option linter.unusedVariables false
set_option linter.unusedSimpArgs false
open Go.RowKit
open Go.Proofs.Ytbpjhmhnicfdfaa.Rowed Go.Proofs.Ytbpjhmhnicfdfaa.Turn Go.Proofs.Ytbpjhmhnicfdfaa.Aid Go.Proofs.Ytbpjhmhnicfdfaa.GoP Go.Proofs.Ytbpjhmhnicfdfaa.GoM

def P (c : Go.Proofs.Ytbpjhmhnicfdfaa.GoC.Tape) (n_1 : Int) : Option (Bool × Go.Proofs.Ytbpjhmhnicfdfaa.GoC.Tape) :=
  bind2 (Go.Proofs.Ytbpjhmhnicfdfaa.GsL1CurPick.P c n_1) fun (t_3 : Int) (t_3_tp : Go.Proofs.Ytbpjhmhnicfdfaa.GoC.Tape) =>
  letK (t_3 == 0) fun (t_4 : Bool) =>
  some (t_4, t_3_tp)

set_option maxRecDepth 100000 in
set_option maxHeartbeats 2000000 in
theorem C (c : Go.Proofs.Ytbpjhmhnicfdfaa.GoC.Tape) (n_1 : Int)   (g0 : Nat) (Ac0 : Option Addr) (cc0 : Nat) (bc0 : Nat) (w : World)   (K0 : Hid (Go.Proofs.Ytbpjhmhnicfdfaa.GoC.CurIs w bc0 g0 Ac0 cc0 c)) {r : Bool} {t_ : Go.Proofs.Ytbpjhmhnicfdfaa.GoC.Tape} (H : Hid (P c n_1 = some (r, t_))) :
    Calls Try.prog 41 #[.pointer (some ⟨g0, 0, none⟩), .int .i64 n_1] w (fun e w' => e = .returned (.bool r) ∧ Go.Proofs.Ytbpjhmhnicfdfaa.GoC.CurIs w' bc0 g0 Ac0 cc0 t_ ∧ w.grownBy w' (Value.slice (some ⟨g0, 0, none⟩) 1 1).ownBlock) := by
  have HB := Lib.hid (Aid.grown_refl w (Value.slice (some ⟨g0, 0, none⟩) 1 1).ownBlock)
  unfold P at H
  have L0 : bc0 ≤ w.heap.size := by have := Go.Proofs.Ytbpjhmhnicfdfaa.GoC.cur_lt K0.out; omega
  go_enter Try.func41, Try.ntmps41
  replace H := bind2_hid H
  obtain ⟨t_3, t_3_tp, qt_3, H⟩ := H
  go_wp2_with fail
  go_at_call 43
  refine (Go.Proofs.Ytbpjhmhnicfdfaa.GsL1CurPick.C (c) (n_1) (g0) (Ac0) (cc0) (bc0) _   K0 qt_3).mono ?_
  rintro e_t_3 wt_3 ⟨rfl, kt_3, gt_3⟩
  have Kt_3 := Lib.hid kt_3
  have Gt_3 : Hid (w.grownBy wt_3 (Value.slice (some ⟨g0, 0, none⟩) 1 1).ownBlock) := Lib.hid gt_3
  clear kt_3 gt_3
  have HBwt_3 := Lib.hid (Aid.grown_tr HB.out Gt_3.out)
  clear K0 Gt_3
  replace H := let_hid H
  obtain ⟨t_4, ht_4, H⟩ := H
  cases ret_hid H
  go_wp2_with fail
  go_ret
  exact ⟨rfl, Kt_3.out, HBwt_3.out⟩
end Go.Proofs.Ytbpjhmhnicfdfaa.GsL1CurOne

/- (*loop.example/g01062/spec.l1Cur).holes5 as a plain function, and the contract of the program's: where the plain one has an answer, the program has it. Conditions: slices read as lists. -/
namespace Go.Proofs.Ytbpjhmhnicfdfaa.GsL1CurHoles5
set_option linter.unusedVariables false
set_option linter.unusedSimpArgs false
open Go.RowKit
open Go.Proofs.Ytbpjhmhnicfdfaa.Rowed Go.Proofs.Ytbpjhmhnicfdfaa.Turn Go.Proofs.Ytbpjhmhnicfdfaa.Aid Go.Proofs.Ytbpjhmhnicfdfaa.GoP Go.Proofs.Ytbpjhmhnicfdfaa.GoM

def l0 (t_5 : Int) (s : (List Int) × Int × Int × Go.Proofs.Ytbpjhmhnicfdfaa.GoC.Tape) (nx0 bk0 : (List Int) × Int × Int × Go.Proofs.Ytbpjhmhnicfdfaa.GoC.Tape → Option ((List Int) × Go.Proofs.Ytbpjhmhnicfdfaa.GoC.Tape)) : Option ((List Int) × Go.Proofs.Ytbpjhmhnicfdfaa.GoC.Tape) :=
  unp4 s fun out_3l0 at_5l0 n_6l0 c0_c0l0 =>
  letK (decide (0 < n_6l0)) fun (t_16 : Bool) =>
  iteK t_16
  (guardK (out_3l0.length ≤ 1099511627776) <|
  letK (out_3l0 ++ [at_5l0]) fun (t_20 : (List Int)) =>
  letK (IntKind.i64.wrap (at_5l0 + t_5)) fun (t_24 : Int) =>
  letK ([(-5), 0, 0, 0, 5, 6]) fun (t_26 : (List Int)) =>
  bind2 (Go.Proofs.Ytbpjhmhnicfdfaa.GsL1CurAmong.P c0_c0l0 t_26) fun (t_27 : Int) (t_27_tp : Go.Proofs.Ytbpjhmhnicfdfaa.GoC.Tape) =>
  letK (IntKind.i64.wrap (t_24 + t_27)) fun (t_28 : Int) =>
  bind2 (Go.Proofs.Ytbpjhmhnicfdfaa.GsL1CurOne.P t_27_tp 9) fun (t_31 : Bool) (t_31_tp : Go.Proofs.Ytbpjhmhnicfdfaa.GoC.Tape) =>
  iteK t_31
  (letK (IntKind.i64.wrap (t_28 + t_5)) fun (t_34 : Int) =>
  letK (IntKind.i64.wrap (n_6l0 - 1)) fun (t_37 : Int) =>
  appK nx0 (t_20, t_34, t_37, t_31_tp))
  (letK (IntKind.i64.wrap (n_6l0 - 1)) fun (t_37 : Int) =>
  appK nx0 (t_20, t_28, t_37, t_31_tp)))
  (appK bk0 (out_3l0, at_5l0, n_6l0, c0_c0l0))

def l1  (s : (List Int) × Int × Go.Proofs.Ytbpjhmhnicfdfaa.GoC.Tape) (nx1 bk1 : (List Int) × Int × Go.Proofs.Ytbpjhmhnicfdfaa.GoC.Tape → Option ((List Int) × Go.Proofs.Ytbpjhmhnicfdfaa.GoC.Tape)) : Option ((List Int) × Go.Proofs.Ytbpjhmhnicfdfaa.GoC.Tape) :=
  unp3 s fun out_3l1 n_7l1 c0_c0l1 =>
  bind2 (Go.Proofs.Ytbpjhmhnicfdfaa.GsL1CurPick.P c0_c0l1 2) fun (t_64 : Int) (t_64_tp : Go.Proofs.Ytbpjhmhnicfdfaa.GoC.Tape) =>
  letK (IntKind.i64.wrap (40 + t_64)) fun (t_65 : Int) =>
  letK (decide (n_7l1 < t_65)) fun (t_66 : Bool) =>
  iteK t_66
  (letK (IntKind.i64.wrap (150 * n_7l1)) fun (t_69 : Int) =>
  guardK (out_3l1.length ≤ 1099511627776) <|
  letK (out_3l1 ++ [t_69]) fun (t_71 : (List Int)) =>
  letK (IntKind.i64.wrap (n_7l1 + 1)) fun (t_74 : Int) =>
  appK nx1 (t_71, t_74, t_64_tp))
  (appK bk1 (out_3l1, n_7l1, t_64_tp))

def e1  (s : (List Int) × Int × Go.Proofs.Ytbpjhmhnicfdfaa.GoC.Tape) : Option ((List Int) × Go.Proofs.Ytbpjhmhnicfdfaa.GoC.Tape) :=
  unp3 s fun out_3l1 n_7l1 c0_c0l1 =>
  some (out_3l1, c0_c0l1)

def e0 (fuel : Nat) (s : (List Int) × Int × Int × Go.Proofs.Ytbpjhmhnicfdfaa.GoC.Tape) : Option ((List Int) × Go.Proofs.Ytbpjhmhnicfdfaa.GoC.Tape) :=
  unp4 s fun out_3l0 at_5l0 n_6l0 c0_c0l0 =>
  bind2 (Go.Proofs.Ytbpjhmhnicfdfaa.GsL1CurPick.P c0_c0l0 60) fun (t_40 : Int) (t_40_tp : Go.Proofs.Ytbpjhmhnicfdfaa.GoC.Tape) =>
  letK (t_40 == 0) fun (t_41 : Bool) =>
  iteK t_41
  (bind2 (Go.Proofs.Ytbpjhmhnicfdfaa.GsL1CurPick.P t_40_tp 2) fun (t_45 : Int) (t_45_tp : Go.Proofs.Ytbpjhmhnicfdfaa.GoC.Tape) =>
  guardK ((0 : Int) ≤ t_45 ∧ (t_45 : Int) ≤ (out_3l0.length : Int)) <|
  letK (List.take (Int.toNat t_45) out_3l0) fun (t_46 : (List Int)) =>
  some (t_46, t_45_tp))
  (letK (t_40 == 1) fun (t_48 : Bool) =>
  iteK t_48
  (letK ([0, 10000, 9999]) fun (t_52 : (List Int)) =>
  bind2 (Go.Proofs.Ytbpjhmhnicfdfaa.GsL1CurAmong.P t_40_tp t_52) fun (t_53 : Int) (t_53_tp : Go.Proofs.Ytbpjhmhnicfdfaa.GoC.Tape) =>
  guardK (out_3l0.length ≤ 1099511627776) <|
  letK (out_3l0 ++ [t_53]) fun (t_55 : (List Int)) =>
  some (t_55, t_53_tp))
  (letK (t_40 == 2) fun (t_57 : Bool) =>
  iteK t_57
  (loopK (l1 ) fuel (([] : List Int), 0, t_40_tp) (e1 ))
  (some (out_3l0, t_40_tp))))

def P (fuel : Nat) (c : Go.Proofs.Ytbpjhmhnicfdfaa.GoC.Tape) : Option ((List Int) × Go.Proofs.Ytbpjhmhnicfdfaa.GoC.Tape) :=
  letK ([100, 167, 174, 182, 400, 30]) fun (t_4 : (List Int)) =>
  bind2 (Go.Proofs.Ytbpjhmhnicfdfaa.GsL1CurAmong.P c t_4) fun (t_5 : Int) (t_5_tp : Go.Proofs.Ytbpjhmhnicfdfaa.GoC.Tape) =>
  letK ([0, 5, 100]) fun (t_8 : (List Int)) =>
  bind2 (Go.Proofs.Ytbpjhmhnicfdfaa.GsL1CurAmong.P t_5_tp t_8) fun (t_9 : Int) (t_9_tp : Go.Proofs.Ytbpjhmhnicfdfaa.GoC.Tape) =>
  bind2 (Go.Proofs.Ytbpjhmhnicfdfaa.GsL1CurPick.P t_9_tp 12) fun (t_12 : Int) (t_12_tp : Go.Proofs.Ytbpjhmhnicfdfaa.GoC.Tape) =>
  letK (IntKind.i64.wrap (2 + t_12)) fun (t_13 : Int) =>
  loopK (l0 t_5) fuel (([] : List Int), t_9, t_13, t_12_tp) (e0 fuel)

set_option maxRecDepth 100000 in
set_option maxHeartbeats 2000000 in
theorem C (fuel : Nat) (c : Go.Proofs.Ytbpjhmhnicfdfaa.GoC.Tape)   (g0 : Nat) (Ac0 : Option Addr) (cc0 : Nat) (bc0 : Nat) (w : World)   (K0 : Hid (Go.Proofs.Ytbpjhmhnicfdfaa.GoC.CurIs w bc0 g0 Ac0 cc0 c)) {r : (List Int)} {t_ : Go.Proofs.Ytbpjhmhnicfdfaa.GoC.Tape} (H : Hid (P fuel c = some (r, t_))) :
    Calls Try.prog 30 #[.pointer (some ⟨g0, 0, none⟩)] w (fun e w' => ∃ A_r c_r, e = .returned (.slice A_r r.length c_r) ∧ w'.ownsRow w.heap.size 3 1 (.slice A_r r.length c_r) r.length (Go.Proofs.Ytbpjhmhnicfdfaa.HelpInt.iv r) ∧ Go.Proofs.Ytbpjhmhnicfdfaa.GoC.CurIs w' bc0 g0 Ac0 cc0 t_ ∧ w.grownBy w' (Value.slice (some ⟨g0, 0, none⟩) 1 1).ownBlock) := by
  have HB := Lib.hid (Aid.grown_refl w (Value.slice (some ⟨g0, 0, none⟩) 1 1).ownBlock)
  unfold P at H
  have L0 : bc0 ≤ w.heap.size := by have := Go.Proofs.Ytbpjhmhnicfdfaa.GoC.cur_lt K0.out; omega
  obtain ⟨i0_3, hi_3, hz0_3, hz1_3, hz2_3⟩ := Aid.info_parts (P := Try.prog) (T := 3) (z := .int .i64 0) (s := 1) (b := 8) (by kernel_rfl)
  go_enter Try.func30, Try.ntmps30
  obtain ⟨w_t_1, hw_t_1⟩ : ∃ x, w.alloc (.cells #[] 3) = x := ⟨_, rfl⟩
  have bw_t_1 : Below w.heap.size w w_t_1 := by rw [← hw_t_1]; exact (Below.refl _ _).alloc (Nat.le_refl _) _
  have Ot_1 : Hid (w_t_1.ownsRow w.heap.size 3 1 (.slice (some ⟨w.heap.size, 0, none⟩) 0 0) 0 []) := Lib.hid (by rw [← hw_t_1]; exact own_empty HB.out.size)
  have Dt_1_c0 := Lib.hid (Go.Proofs.Ytbpjhmhnicfdfaa.GoC.apart_cur K0.out)
  have HBw_t_1 := Lib.hid (grown_below HB.out bw_t_1)
  replace K0 := Lib.hid (Go.Proofs.Ytbpjhmhnicfdfaa.GoC.cur_below K0.out bw_t_1)
  clear bw_t_1
  replace H := let_hid H
  obtain ⟨t_4, ht_4, H⟩ := H
  obtain ⟨w_t_4, hw_t_4⟩ : ∃ x, w_t_1.alloc (.cells #[.int .i64 100, .int .i64 167, .int .i64 174, .int .i64 182, .int .i64 400, .int .i64 30] 3) = x := ⟨_, rfl⟩
  have bw_t_4 : Below w_t_1.heap.size w_t_1 w_t_4 := by rw [← hw_t_4]; exact (Below.refl _ _).alloc (Nat.le_refl _) _
  have hs_t_4 := HBw_t_1.out.size
  have nt_4 : t_4.length = 6 := by rw [← ht_4]; rfl
  have Ot_4 : Hid (w_t_4.ownsRow w.heap.size 3 1 (.slice (some ⟨w_t_1.heap.size, 0, none⟩) 6 6) 6 (Go.Proofs.Ytbpjhmhnicfdfaa.HelpInt.iv t_4)) := by
    rw [← hw_t_4, ← ht_4]
    have e_ : ([.int .i64 100, .int .i64 167, .int .i64 174, .int .i64 182, .int .i64 400, .int .i64 30] : List Value) = (Go.Proofs.Ytbpjhmhnicfdfaa.HelpInt.iv ([100, 167, 174, 182, 400, 30] : List Int)) := rfl
    exact Lib.hid (own_laid (n := 6) hs_t_4 e_ rfl (by unfold maxLen; omega))
  clear hs_t_4
  have hht_4 := Lib.hid ht_4
  clear ht_4
  replace nt_4 := Lib.hid nt_4
  have Dt_4_t_1 := Lib.hid (apart_fresh Ot_1.out)
  have Dt_4_c0 := Lib.hid (Go.Proofs.Ytbpjhmhnicfdfaa.GoC.apart_cur K0.out)
  have HBw_t_4 := Lib.hid (grown_below HBw_t_1.out bw_t_4)
  replace Ot_1 := Lib.hid (own_below Ot_1.out bw_t_4)
  replace K0 := Lib.hid (Go.Proofs.Ytbpjhmhnicfdfaa.GoC.cur_below K0.out bw_t_4)
  clear bw_t_4
  replace H := bind2_hid H
  obtain ⟨t_5, t_5_tp, qt_5, H⟩ := H
  go_wp2_with fail
  have hc_ := nt_4.out
  have hv_ : (Value.slice (some ⟨w_t_1.heap.size, 0, none⟩) 6 6 : Value) = Value.slice (some ⟨w_t_1.heap.size, 0, none⟩) t_4.length 6 := by rw [hc_]
  try rw [hv_]
  replace Ot_4 := Lib.hid (own_len hc_ Ot_4.out)
  clear hc_ hv_
  go_wp2_with fail
  go_at_call 42
  refine (Go.Proofs.Ytbpjhmhnicfdfaa.GsL1CurAmong.C (c) (t_4) (some ⟨w_t_1.heap.size, 0, none⟩) 6 (g0) (Ac0) (cc0) (bc0) _   (Lib.hid (own_cells Ot_4.out)) (Lib.hid (own_max Ot_4.out)) K0 (Lib.hid (fun _ => Dt_4_c0.out)) qt_5).mono ?_
  rintro e_t_5 wt_5 ⟨rfl, kt_5, gt_5⟩
  have Kt_5 := Lib.hid kt_5
  have Gt_5 : Hid (w_t_4.grownBy wt_5 (Value.slice (some ⟨g0, 0, none⟩) 1 1).ownBlock) := Lib.hid gt_5
  clear kt_5 gt_5
  have HBwt_5 := Lib.hid (Aid.grown_tr HBw_t_4.out Gt_5.out)
  replace Ot_1 := Lib.hid (own_other Ot_1.out Gt_5.out (Apart.symm Dt_1_c0.out))
  replace Ot_4 := Lib.hid (own_other Ot_4.out Gt_5.out (Apart.symm Dt_4_c0.out))
  clear K0 Gt_5
  replace H := let_hid H
  obtain ⟨t_8, ht_8, H⟩ := H
  obtain ⟨w_t_8, hw_t_8⟩ : ∃ x, wt_5.alloc (.cells #[.int .i64 0, .int .i64 5, .int .i64 100] 3) = x := ⟨_, rfl⟩
  have bw_t_8 : Below wt_5.heap.size wt_5 w_t_8 := by rw [← hw_t_8]; exact (Below.refl _ _).alloc (Nat.le_refl _) _
  have hs_t_8 := HBwt_5.out.size
  have nt_8 : t_8.length = 3 := by rw [← ht_8]; rfl
  have Ot_8 : Hid (w_t_8.ownsRow w.heap.size 3 1 (.slice (some ⟨wt_5.heap.size, 0, none⟩) 3 3) 3 (Go.Proofs.Ytbpjhmhnicfdfaa.HelpInt.iv t_8)) := by
    rw [← hw_t_8, ← ht_8]
    have e_ : ([.int .i64 0, .int .i64 5, .int .i64 100] : List Value) = (Go.Proofs.Ytbpjhmhnicfdfaa.HelpInt.iv ([0, 5, 100] : List Int)) := rfl
    exact Lib.hid (own_laid (n := 3) hs_t_8 e_ rfl (by unfold maxLen; omega))
  clear hs_t_8
  have hht_8 := Lib.hid ht_8
  clear ht_8
  replace nt_8 := Lib.hid nt_8
  have Dt_8_t_1 := Lib.hid (apart_fresh Ot_1.out)
  have Dt_8_t_4 := Lib.hid (apart_fresh Ot_4.out)
  have Dt_8_c0 := Lib.hid (Go.Proofs.Ytbpjhmhnicfdfaa.GoC.apart_cur Kt_5.out)
  have HBw_t_8 := Lib.hid (grown_below HBwt_5.out bw_t_8)
  replace Ot_1 := Lib.hid (own_below Ot_1.out bw_t_8)
  replace Ot_4 := Lib.hid (own_below Ot_4.out bw_t_8)
  replace Kt_5 := Lib.hid (Go.Proofs.Ytbpjhmhnicfdfaa.GoC.cur_below Kt_5.out bw_t_8)
  clear bw_t_8
  replace H := bind2_hid H
  obtain ⟨t_9, t_9_tp, qt_9, H⟩ := H
  go_wp2_with fail
  have hc_ := nt_8.out
  have hv_ : (Value.slice (some ⟨wt_5.heap.size, 0, none⟩) 3 3 : Value) = Value.slice (some ⟨wt_5.heap.size, 0, none⟩) t_8.length 3 := by rw [hc_]
  try rw [hv_]
  replace Ot_8 := Lib.hid (own_len hc_ Ot_8.out)
  clear hc_ hv_
  go_wp2_with fail
  go_at_call 42
  refine (Go.Proofs.Ytbpjhmhnicfdfaa.GsL1CurAmong.C (t_5_tp) (t_8) (some ⟨wt_5.heap.size, 0, none⟩) 3 (g0) (Ac0) (cc0) (bc0) _   (Lib.hid (own_cells Ot_8.out)) (Lib.hid (own_max Ot_8.out)) Kt_5 (Lib.hid (fun _ => Dt_8_c0.out)) qt_9).mono ?_
  rintro e_t_9 wt_9 ⟨rfl, kt_9, gt_9⟩
  have Kt_9 := Lib.hid kt_9
  have Gt_9 : Hid (w_t_8.grownBy wt_9 (Value.slice (some ⟨g0, 0, none⟩) 1 1).ownBlock) := Lib.hid gt_9
  clear kt_9 gt_9
  have HBwt_9 := Lib.hid (Aid.grown_tr HBw_t_8.out Gt_9.out)
  replace Ot_1 := Lib.hid (own_other Ot_1.out Gt_9.out (Apart.symm Dt_1_c0.out))
  replace Ot_4 := Lib.hid (own_other Ot_4.out Gt_9.out (Apart.symm Dt_4_c0.out))
  replace Ot_8 := Lib.hid (own_other Ot_8.out Gt_9.out (Apart.symm Dt_8_c0.out))
  clear Kt_5 Gt_9
  replace H := bind2_hid H
  obtain ⟨t_12, t_12_tp, qt_12, H⟩ := H
  go_wp2_with fail
  go_at_call 43
  refine (Go.Proofs.Ytbpjhmhnicfdfaa.GsL1CurPick.C (t_9_tp) (12) (g0) (Ac0) (cc0) (bc0) _   Kt_9 qt_12).mono ?_
  rintro e_t_12 wt_12 ⟨rfl, kt_12, gt_12⟩
  have Kt_12 := Lib.hid kt_12
  have Gt_12 : Hid (wt_9.grownBy wt_12 (Value.slice (some ⟨g0, 0, none⟩) 1 1).ownBlock) := Lib.hid gt_12
  clear kt_12 gt_12
  have HBwt_12 := Lib.hid (Aid.grown_tr HBwt_9.out Gt_12.out)
  replace Ot_1 := Lib.hid (own_other Ot_1.out Gt_12.out (Apart.symm Dt_1_c0.out))
  replace Ot_4 := Lib.hid (own_other Ot_4.out Gt_12.out (Apart.symm Dt_4_c0.out))
  replace Ot_8 := Lib.hid (own_other Ot_8.out Gt_12.out (Apart.symm Dt_8_c0.out))
  clear Kt_9 Gt_12
  replace H := let_hid H
  obtain ⟨t_13, ht_13, H⟩ := H
  go_wp2_with fail
  go_loopg [3, 5, 6] (fuel) (fun m_ v3_ v5_ v6_ wr => ∃ (out_3l0 : (List Int)) (at_5l0 : Int) (n_6l0 : Int) (c0_c0l0 : Go.Proofs.Ytbpjhmhnicfdfaa.GoC.Tape) (Aout_3l0 : Option Addr) (cout_3l0 : Nat), v3_ = .slice Aout_3l0 out_3l0.length cout_3l0 ∧ v5_ = .int .i64 at_5l0 ∧ v6_ = .int .i64 n_6l0 ∧ Hid (loopK (l0 t_5) m_ (out_3l0, at_5l0, n_6l0, c0_c0l0) (e0 fuel) = some (r, t_)) ∧ Hid (w.grownBy wr (Value.slice (some ⟨g0, 0, none⟩) 1 1).ownBlock) ∧ Hid (wr.ownsRow w.heap.size 3 1 (.slice Aout_3l0 out_3l0.length cout_3l0) out_3l0.length (Go.Proofs.Ytbpjhmhnicfdfaa.HelpInt.iv out_3l0)) ∧ Hid (wr.ownsRow w.heap.size 3 1 (.slice (some ⟨w_t_1.heap.size, 0, none⟩) t_4.length 6) t_4.length (Go.Proofs.Ytbpjhmhnicfdfaa.HelpInt.iv t_4)) ∧ Hid (wr.ownsRow w.heap.size 3 1 (.slice (some ⟨wt_5.heap.size, 0, none⟩) t_8.length 3) t_8.length (Go.Proofs.Ytbpjhmhnicfdfaa.HelpInt.iv t_8)) ∧ Hid (Apart Aout_3l0 (some ⟨w_t_1.heap.size, 0, none⟩)) ∧ Hid (Apart Aout_3l0 (some ⟨wt_5.heap.size, 0, none⟩)) ∧ Hid (Apart Aout_3l0 (some ⟨g0, 0, none⟩)) ∧ Hid (Go.Proofs.Ytbpjhmhnicfdfaa.GoC.CurIs wr bc0 g0 Ac0 cc0 c0_c0l0))
  case atStart => exact ⟨_, _, _, _, _, _, rfl, rfl, rfl, H, HBwt_12, Ot_1, Ot_4, Ot_8, Lib.hid (Apart.symm Dt_4_t_1.out), Lib.hid (Apart.symm Dt_8_t_1.out), Lib.hid Dt_1_c0.out, Kt_12⟩
  case round =>
    obtain ⟨out_3l0, at_5l0, n_6l0, c0_c0l0, Aout_3l0, cout_3l0, rfl, rfl, rfl, H, HBwr0, Oout_3l0, Ot_4, Ot_8, Dout_3l0_t_4, Dout_3l0_t_8, Dout_3l0_c0, Kl0_0⟩ := hrel
    rename World => wr0
    cases gk with
    | zero => exact (loop_zero H).elim
    | succ m0 =>
      replace H := loop_succ H
      unfold l0 at H
      replace H := unp4_hid H
      replace H := let_hid H
      obtain ⟨t_16, ht_16, H⟩ := H
      cases t_16 with
      | false =>
        replace H := ite_f H
        replace H := app_hid H
        unfold e0 at H
        replace H := unp4_hid H
        replace H := bind2_hid H
        obtain ⟨t_40, t_40_tp, qt_40, H⟩ := H
        go_wp2_with fail
        go_at_call 43
        refine (Go.Proofs.Ytbpjhmhnicfdfaa.GsL1CurPick.C (c0_c0l0) (60) (g0) (Ac0) (cc0) (bc0) _   Kl0_0 qt_40).mono ?_
        rintro e_t_40 wt_40 ⟨rfl, kt_40, gt_40⟩
        have Kt_40 := Lib.hid kt_40
        have Gt_40 : Hid (wr0.grownBy wt_40 (Value.slice (some ⟨g0, 0, none⟩) 1 1).ownBlock) := Lib.hid gt_40
        clear kt_40 gt_40
        have HBwt_40 := Lib.hid (Aid.grown_tr HBwr0.out Gt_40.out)
        replace Ot_4 := Lib.hid (own_other Ot_4.out Gt_40.out (Apart.symm Dt_4_c0.out))
        replace Ot_8 := Lib.hid (own_other Ot_8.out Gt_40.out (Apart.symm Dt_8_c0.out))
        replace Oout_3l0 := Lib.hid (own_other Oout_3l0.out Gt_40.out (Apart.symm Dout_3l0_c0.out))
        clear Kl0_0 Gt_40
        replace H := let_hid H
        obtain ⟨t_41, ht_41, H⟩ := H
        cases t_41 with
        | false =>
          replace H := ite_f H
          replace H := let_hid H
          obtain ⟨t_48, ht_48, H⟩ := H
          cases t_48 with
          | false =>
            replace H := ite_f H
            replace H := let_hid H
            obtain ⟨t_57, ht_57, H⟩ := H
            cases t_57 with
            | false =>
              replace H := ite_f H
              cases ret_hid H
              go_wp2_with fail
              go_ret
              exact ⟨Aout_3l0, cout_3l0, rfl, Oout_3l0.out, Kt_40.out, HBwt_40.out⟩
            | true =>
              replace H := ite_t H
              obtain ⟨w_t_59, hw_t_59⟩ : ∃ x, wt_40.alloc (.cells #[] 3) = x := ⟨_, rfl⟩
              have bw_t_59 : Below wt_40.heap.size wt_40 w_t_59 := by rw [← hw_t_59]; exact (Below.refl _ _).alloc (Nat.le_refl _) _
              have Ot_59 : Hid (w_t_59.ownsRow w.heap.size 3 1 (.slice (some ⟨wt_40.heap.size, 0, none⟩) 0 0) 0 []) := Lib.hid (by rw [← hw_t_59]; exact own_empty HBwt_40.out.size)
              have Dt_59_t_4 := Lib.hid (apart_fresh Ot_4.out)
              have Dt_59_t_8 := Lib.hid (apart_fresh Ot_8.out)
              have Dt_59_out_3l0 := Lib.hid (apart_fresh Oout_3l0.out)
              have Dt_59_c0 := Lib.hid (Go.Proofs.Ytbpjhmhnicfdfaa.GoC.apart_cur Kt_40.out)
              have HBw_t_59 := Lib.hid (grown_below HBwt_40.out bw_t_59)
              replace Ot_4 := Lib.hid (own_below Ot_4.out bw_t_59)
              replace Ot_8 := Lib.hid (own_below Ot_8.out bw_t_59)
              replace Oout_3l0 := Lib.hid (own_below Oout_3l0.out bw_t_59)
              replace Kt_40 := Lib.hid (Go.Proofs.Ytbpjhmhnicfdfaa.GoC.cur_below Kt_40.out bw_t_59)
              clear bw_t_59
              go_wp2_with fail
              go_loopg [3, 7] (fuel) (fun m_ v3_ v7_ wr => ∃ (out_3l1 : (List Int)) (n_7l1 : Int) (c0_c0l1 : Go.Proofs.Ytbpjhmhnicfdfaa.GoC.Tape) (Aout_3l1 : Option Addr) (cout_3l1 : Nat), v3_ = .slice Aout_3l1 out_3l1.length cout_3l1 ∧ v7_ = .int .i64 n_7l1 ∧ Hid (loopK (l1 ) m_ (out_3l1, n_7l1, c0_c0l1) (e1 ) = some (r, t_)) ∧ Hid (w.grownBy wr (Value.slice (some ⟨g0, 0, none⟩) 1 1).ownBlock) ∧ Hid (wr.ownsRow w.heap.size 3 1 (.slice Aout_3l1 out_3l1.length cout_3l1) out_3l1.length (Go.Proofs.Ytbpjhmhnicfdfaa.HelpInt.iv out_3l1)) ∧ Hid (wr.ownsRow w.heap.size 3 1 (.slice (some ⟨w_t_1.heap.size, 0, none⟩) t_4.length 6) t_4.length (Go.Proofs.Ytbpjhmhnicfdfaa.HelpInt.iv t_4)) ∧ Hid (wr.ownsRow w.heap.size 3 1 (.slice (some ⟨wt_5.heap.size, 0, none⟩) t_8.length 3) t_8.length (Go.Proofs.Ytbpjhmhnicfdfaa.HelpInt.iv t_8)) ∧ Hid (Apart Aout_3l1 (some ⟨w_t_1.heap.size, 0, none⟩)) ∧ Hid (Apart Aout_3l1 (some ⟨wt_5.heap.size, 0, none⟩)) ∧ Hid (Apart Aout_3l1 (some ⟨g0, 0, none⟩)) ∧ Hid (Go.Proofs.Ytbpjhmhnicfdfaa.GoC.CurIs wr bc0 g0 Ac0 cc0 c0_c0l1))
              case atStart => exact ⟨_, _, _, _, _, rfl, rfl, H, HBw_t_59, Ot_59, Ot_4, Ot_8, Lib.hid Dt_59_t_4.out, Lib.hid Dt_59_t_8.out, Lib.hid Dt_59_c0.out, Kt_40⟩
              case round =>
                obtain ⟨out_3l1, n_7l1, c0_c0l1, Aout_3l1, cout_3l1, rfl, rfl, H, HBwr1, Oout_3l1, Ot_4, Ot_8, Dout_3l1_t_4, Dout_3l1_t_8, Dout_3l1_c0, Kl1_0⟩ := hrel
                rename World => wr1
                cases gk with
                | zero => exact (loop_zero H).elim
                | succ m1 =>
                  replace H := loop_succ H
                  unfold l1 at H
                  replace H := unp3_hid H
                  replace H := bind2_hid H
                  obtain ⟨t_64, t_64_tp, qt_64, H⟩ := H
                  go_wp2_with fail
                  go_at_call 43
                  refine (Go.Proofs.Ytbpjhmhnicfdfaa.GsL1CurPick.C (c0_c0l1) (2) (g0) (Ac0) (cc0) (bc0) _   Kl1_0 qt_64).mono ?_
                  rintro e_t_64 wt_64 ⟨rfl, kt_64, gt_64⟩
                  have Kt_64 := Lib.hid kt_64
                  have Gt_64 : Hid (wr1.grownBy wt_64 (Value.slice (some ⟨g0, 0, none⟩) 1 1).ownBlock) := Lib.hid gt_64
                  clear kt_64 gt_64
                  have HBwt_64 := Lib.hid (Aid.grown_tr HBwr1.out Gt_64.out)
                  replace Ot_4 := Lib.hid (own_other Ot_4.out Gt_64.out (Apart.symm Dt_4_c0.out))
                  replace Ot_8 := Lib.hid (own_other Ot_8.out Gt_64.out (Apart.symm Dt_8_c0.out))
                  replace Oout_3l1 := Lib.hid (own_other Oout_3l1.out Gt_64.out (Apart.symm Dout_3l1_c0.out))
                  clear Kl1_0 Gt_64
                  replace H := let_hid H
                  obtain ⟨t_65, ht_65, H⟩ := H
                  replace H := let_hid H
                  obtain ⟨t_66, ht_66, H⟩ := H
                  cases t_66 with
                  | false =>
                    replace H := ite_f H
                    replace H := app_hid H
                    unfold e1 at H
                    replace H := unp3_hid H
                    cases ret_hid H
                    go_wp2_with fail
                    go_ret
                    exact ⟨Aout_3l1, cout_3l1, rfl, Oout_3l1.out, Kt_64.out, HBwt_64.out⟩
                  | true =>
                    replace H := ite_t H
                    replace H := let_hid H
                    obtain ⟨t_69, ht_69, H⟩ := H
                    obtain ⟨w_t_70, hw_t_70⟩ : ∃ x, wt_64.alloc (.cells #[.int .i64 t_69] 3) = x := ⟨_, rfl⟩
                    have bw_t_70 : Below wt_64.heap.size wt_64 w_t_70 := by rw [← hw_t_70]; exact (Below.refl _ _).alloc (Nat.le_refl _) _
                    have HBw_t_70 := Lib.hid (grown_below HBwt_64.out bw_t_70)
                    replace Ot_4 := Lib.hid (own_below Ot_4.out bw_t_70)
                    replace Ot_8 := Lib.hid (own_below Ot_8.out bw_t_70)
                    replace Oout_3l1 := Lib.hid (own_below Oout_3l1.out bw_t_70)
                    replace Kt_64 := Lib.hid (Go.Proofs.Ytbpjhmhnicfdfaa.GoC.cur_below Kt_64.out bw_t_70)
                    clear bw_t_70
                    replace H := guard_hid H
                    obtain ⟨hlt_71, H⟩ := H
                    replace H := let_hid H
                    obtain ⟨t_71, ht_71, H⟩ := H
                    have hht_71 := Lib.hid ht_71
                    clear ht_71
                    have hst_71 := HBw_t_70.out.size
                    go_wp2_with (at_builtin; refine wpList_append_own_at _ rfl _ _ 24 rfl w.heap.size 3 i0_3 (.int .i64 0) 1 8 Try.underlying24 hi_3 hz0_3 hz1_3 hz2_3 rfl (by decide) _ _ _ rfl Oout_3l1.out ⟨wt_64.heap.size, 0, none⟩ 1 1 [.int .i64 t_69] rfl rfl (news_new hw_t_70) (one_cells rfl) (by unfold maxLen; omega) (by omega) hst_71 ?_; intro vt_71 wt_71 ot_71 gt_71 zt_71 yt_71; clear zt_71; obtain ⟨qt_71, ct_71, rfl, pt_71⟩ := own_push hht_71.out (Go.Proofs.Ytbpjhmhnicfdfaa.HelpInt.iv_snoc _ _) rfl ot_71; have Pt_71 := Lib.hid pt_71; have Yt_71 := Lib.hid yt_71; have Gt_71 := Lib.hid gt_71; clear ot_71 gt_71 pt_71 yt_71; refine stop_in ?_)
                    refine stop_out ?_
                    have HBwt_71 := Lib.hid (Go.Proofs.Ytbpjhmhnicfdfaa.GoC.grown_new HBw_t_70.out Gt_71.out (Go.Proofs.Ytbpjhmhnicfdfaa.GoC.own_ge Oout_3l1.out))
                    clear hst_71
                    have Dt_71_t_4 : Hid (Apart (some ⟨qt_71, 0, none⟩) _) := Lib.hid (apart_app Dout_3l1_t_4.out (fun a_ ha_ => (own_lt Ot_4.out a_ ha_).2) Yt_71.out)
                    have Dt_71_t_8 : Hid (Apart (some ⟨qt_71, 0, none⟩) _) := Lib.hid (apart_app Dout_3l1_t_8.out (fun a_ ha_ => (own_lt Ot_8.out a_ ha_).2) Yt_71.out)
                    have Dt_71_c0 : Hid (Apart (some ⟨qt_71, 0, none⟩) _) := Lib.hid (apart_app Dout_3l1_c0.out (fun a_ ha_ => by cases ha_; exact (Go.Proofs.Ytbpjhmhnicfdfaa.GoC.cur_lt Kt_64.out).2) Yt_71.out)
                    replace Ot_4 := Lib.hid (own_other Ot_4.out Gt_71.out Dout_3l1_t_4.out)
                    replace Ot_8 := Lib.hid (own_other Ot_8.out Gt_71.out Dout_3l1_t_8.out)
                    replace Kt_64 := Lib.hid (Go.Proofs.Ytbpjhmhnicfdfaa.GoC.cur_other Kt_64.out Gt_71.out Dout_3l1_c0.out (fun a_ e_ => Nat.le_trans L0 (Go.Proofs.Ytbpjhmhnicfdfaa.GoC.own_ge Oout_3l1.out a_ e_)))
                    clear Oout_3l1 Yt_71 Gt_71
                    replace H := let_hid H
                    obtain ⟨t_74, ht_74, H⟩ := H
                    replace H := app_hid H
                    go_wp2_with fail
                    go_roundg m1
                    case measure => omega
                    case rel => exact ⟨_, _, _, _, _, rfl, rfl, H, HBwt_71, Pt_71, Ot_4, Ot_8, Lib.hid Dt_71_t_4.out, Lib.hid Dt_71_t_8.out, Lib.hid Dt_71_c0.out, Kt_64⟩
          | true =>
            replace H := ite_t H
            replace H := let_hid H
            obtain ⟨t_52, ht_52, H⟩ := H
            obtain ⟨w_t_52, hw_t_52⟩ : ∃ x, wt_40.alloc (.cells #[.int .i64 0, .int .i64 10000, .int .i64 9999] 3) = x := ⟨_, rfl⟩
            have bw_t_52 : Below wt_40.heap.size wt_40 w_t_52 := by rw [← hw_t_52]; exact (Below.refl _ _).alloc (Nat.le_refl _) _
            have hs_t_52 := HBwt_40.out.size
            have nt_52 : t_52.length = 3 := by rw [← ht_52]; rfl
            have Ot_52 : Hid (w_t_52.ownsRow w.heap.size 3 1 (.slice (some ⟨wt_40.heap.size, 0, none⟩) 3 3) 3 (Go.Proofs.Ytbpjhmhnicfdfaa.HelpInt.iv t_52)) := by
              rw [← hw_t_52, ← ht_52]
              have e_ : ([.int .i64 0, .int .i64 10000, .int .i64 9999] : List Value) = (Go.Proofs.Ytbpjhmhnicfdfaa.HelpInt.iv ([0, 10000, 9999] : List Int)) := rfl
              exact Lib.hid (own_laid (n := 3) hs_t_52 e_ rfl (by unfold maxLen; omega))
            clear hs_t_52
            have hht_52 := Lib.hid ht_52
            clear ht_52
            replace nt_52 := Lib.hid nt_52
            have Dt_52_t_4 := Lib.hid (apart_fresh Ot_4.out)
            have Dt_52_t_8 := Lib.hid (apart_fresh Ot_8.out)
            have Dt_52_out_3l0 := Lib.hid (apart_fresh Oout_3l0.out)
            have Dt_52_c0 := Lib.hid (Go.Proofs.Ytbpjhmhnicfdfaa.GoC.apart_cur Kt_40.out)
            have HBw_t_52 := Lib.hid (grown_below HBwt_40.out bw_t_52)
            replace Ot_4 := Lib.hid (own_below Ot_4.out bw_t_52)
            replace Ot_8 := Lib.hid (own_below Ot_8.out bw_t_52)
            replace Oout_3l0 := Lib.hid (own_below Oout_3l0.out bw_t_52)
            replace Kt_40 := Lib.hid (Go.Proofs.Ytbpjhmhnicfdfaa.GoC.cur_below Kt_40.out bw_t_52)
            clear bw_t_52
            replace H := bind2_hid H
            obtain ⟨t_53, t_53_tp, qt_53, H⟩ := H
            go_wp2_with fail
            have hc_ := nt_52.out
            have hv_ : (Value.slice (some ⟨wt_40.heap.size, 0, none⟩) 3 3 : Value) = Value.slice (some ⟨wt_40.heap.size, 0, none⟩) t_52.length 3 := by rw [hc_]
            try rw [hv_]
            replace Ot_52 := Lib.hid (own_len hc_ Ot_52.out)
            clear hc_ hv_
            go_wp2_with fail
            go_at_call 42
            refine (Go.Proofs.Ytbpjhmhnicfdfaa.GsL1CurAmong.C (t_40_tp) (t_52) (some ⟨wt_40.heap.size, 0, none⟩) 3 (g0) (Ac0) (cc0) (bc0) _   (Lib.hid (own_cells Ot_52.out)) (Lib.hid (own_max Ot_52.out)) Kt_40 (Lib.hid (fun _ => Dt_52_c0.out)) qt_53).mono ?_
            rintro e_t_53 wt_53 ⟨rfl, kt_53, gt_53⟩
            have Kt_53 := Lib.hid kt_53
            have Gt_53 : Hid (w_t_52.grownBy wt_53 (Value.slice (some ⟨g0, 0, none⟩) 1 1).ownBlock) := Lib.hid gt_53
            clear kt_53 gt_53
            have HBwt_53 := Lib.hid (Aid.grown_tr HBw_t_52.out Gt_53.out)
            replace Ot_4 := Lib.hid (own_other Ot_4.out Gt_53.out (Apart.symm Dt_4_c0.out))
            replace Ot_8 := Lib.hid (own_other Ot_8.out Gt_53.out (Apart.symm Dt_8_c0.out))
            replace Oout_3l0 := Lib.hid (own_other Oout_3l0.out Gt_53.out (Apart.symm Dout_3l0_c0.out))
            replace Ot_52 := Lib.hid (own_other Ot_52.out Gt_53.out (Apart.symm Dt_52_c0.out))
            clear Kt_40 Gt_53
            obtain ⟨w_t_54, hw_t_54⟩ : ∃ x, wt_53.alloc (.cells #[.int .i64 t_53] 3) = x := ⟨_, rfl⟩
            have bw_t_54 : Below wt_53.heap.size wt_53 w_t_54 := by rw [← hw_t_54]; exact (Below.refl _ _).alloc (Nat.le_refl _) _
            have HBw_t_54 := Lib.hid (grown_below HBwt_53.out bw_t_54)
            replace Ot_4 := Lib.hid (own_below Ot_4.out bw_t_54)
            replace Ot_8 := Lib.hid (own_below Ot_8.out bw_t_54)
            replace Oout_3l0 := Lib.hid (own_below Oout_3l0.out bw_t_54)
            replace Ot_52 := Lib.hid (own_below Ot_52.out bw_t_54)
            replace Kt_53 := Lib.hid (Go.Proofs.Ytbpjhmhnicfdfaa.GoC.cur_below Kt_53.out bw_t_54)
            clear bw_t_54
            replace H := guard_hid H
            obtain ⟨hlt_55, H⟩ := H
            replace H := let_hid H
            obtain ⟨t_55, ht_55, H⟩ := H
            have hht_55 := Lib.hid ht_55
            clear ht_55
            have hst_55 := HBw_t_54.out.size
            go_wp2_with (at_builtin; refine wpList_append_own_at _ rfl _ _ 24 rfl w.heap.size 3 i0_3 (.int .i64 0) 1 8 Try.underlying24 hi_3 hz0_3 hz1_3 hz2_3 rfl (by decide) _ _ _ rfl Oout_3l0.out ⟨wt_53.heap.size, 0, none⟩ 1 1 [.int .i64 t_53] rfl rfl (news_new hw_t_54) (one_cells rfl) (by unfold maxLen; omega) (by omega) hst_55 ?_; intro vt_55 wt_55 ot_55 gt_55 zt_55 yt_55; clear zt_55; obtain ⟨qt_55, ct_55, rfl, pt_55⟩ := own_push hht_55.out (Go.Proofs.Ytbpjhmhnicfdfaa.HelpInt.iv_snoc _ _) rfl ot_55; have Pt_55 := Lib.hid pt_55; have Yt_55 := Lib.hid yt_55; have Gt_55 := Lib.hid gt_55; clear ot_55 gt_55 pt_55 yt_55; refine stop_in ?_)
            refine stop_out ?_
            have HBwt_55 := Lib.hid (Go.Proofs.Ytbpjhmhnicfdfaa.GoC.grown_new HBw_t_54.out Gt_55.out (Go.Proofs.Ytbpjhmhnicfdfaa.GoC.own_ge Oout_3l0.out))
            clear hst_55
            have Dt_55_t_4 : Hid (Apart (some ⟨qt_55, 0, none⟩) _) := Lib.hid (apart_app Dout_3l0_t_4.out (fun a_ ha_ => (own_lt Ot_4.out a_ ha_).2) Yt_55.out)
            have Dt_55_t_8 : Hid (Apart (some ⟨qt_55, 0, none⟩) _) := Lib.hid (apart_app Dout_3l0_t_8.out (fun a_ ha_ => (own_lt Ot_8.out a_ ha_).2) Yt_55.out)
            have Dt_55_c0 : Hid (Apart (some ⟨qt_55, 0, none⟩) _) := Lib.hid (apart_app Dout_3l0_c0.out (fun a_ ha_ => by cases ha_; exact (Go.Proofs.Ytbpjhmhnicfdfaa.GoC.cur_lt Kt_53.out).2) Yt_55.out)
            have Dt_55_t_52 : Hid (Apart (some ⟨qt_55, 0, none⟩) _) := Lib.hid (apart_app (Apart.symm Dt_52_out_3l0.out) (fun a_ ha_ => (own_lt Ot_52.out a_ ha_).2) Yt_55.out)
            replace Ot_4 := Lib.hid (own_other Ot_4.out Gt_55.out Dout_3l0_t_4.out)
            replace Ot_8 := Lib.hid (own_other Ot_8.out Gt_55.out Dout_3l0_t_8.out)
            replace Ot_52 := Lib.hid (own_other Ot_52.out Gt_55.out (Apart.symm Dt_52_out_3l0.out))
            replace Kt_53 := Lib.hid (Go.Proofs.Ytbpjhmhnicfdfaa.GoC.cur_other Kt_53.out Gt_55.out Dout_3l0_c0.out (fun a_ e_ => Nat.le_trans L0 (Go.Proofs.Ytbpjhmhnicfdfaa.GoC.own_ge Oout_3l0.out a_ e_)))
            clear Oout_3l0 Yt_55 Gt_55
            cases ret_hid H
            go_wp2_with fail
            go_ret
            exact ⟨(some ⟨qt_55, 0, none⟩), ct_55, rfl, Pt_55.out, Kt_53.out, HBwt_55.out⟩
        | true =>
          replace H := ite_t H
          replace H := bind2_hid H
          obtain ⟨t_45, t_45_tp, qt_45, H⟩ := H
          go_wp2_with fail
          go_at_call 43
          refine (Go.Proofs.Ytbpjhmhnicfdfaa.GsL1CurPick.C (t_40_tp) (2) (g0) (Ac0) (cc0) (bc0) _   Kt_40 qt_45).mono ?_
          rintro e_t_45 wt_45 ⟨rfl, kt_45, gt_45⟩
          have Kt_45 := Lib.hid kt_45
          have Gt_45 : Hid (wt_40.grownBy wt_45 (Value.slice (some ⟨g0, 0, none⟩) 1 1).ownBlock) := Lib.hid gt_45
          clear kt_45 gt_45
          have HBwt_45 := Lib.hid (Aid.grown_tr HBwt_40.out Gt_45.out)
          replace Ot_4 := Lib.hid (own_other Ot_4.out Gt_45.out (Apart.symm Dt_4_c0.out))
          replace Ot_8 := Lib.hid (own_other Ot_8.out Gt_45.out (Apart.symm Dt_8_c0.out))
          replace Oout_3l0 := Lib.hid (own_other Oout_3l0.out Gt_45.out (Apart.symm Dout_3l0_c0.out))
          clear Kt_40 Gt_45
          replace H := guard_hid H
          obtain ⟨hl_t_46, H⟩ := H
          replace H := let_hid H
          obtain ⟨t_46, ht_46, H⟩ := H
          have dt_46 : ((Go.Proofs.Ytbpjhmhnicfdfaa.HelpInt.iv out_3l0)).take (Int.toNat t_45 * 1) = (Go.Proofs.Ytbpjhmhnicfdfaa.HelpInt.iv t_46) := by
            rw [← ht_46]
            simp [Go.Proofs.Ytbpjhmhnicfdfaa.HelpInt.iv, List.map_take]
          have nt_46 : Int.toNat t_45 = t_46.length := by rw [← ht_46, List.length_take]; omega
          obtain ⟨rt_46, Ot_46⟩ := slice_head (P := Try.prog) (t := 24) (e := 3) (k := .i64) (by kernel_rfl) (by kernel_rfl) hi_3 hz1_3 Oout_3l0.out hl_t_46 nt_46 dt_46
          replace Ot_46 := Lib.hid Ot_46
          clear dt_46 nt_46 hl_t_46
          have hht_46 := Lib.hid ht_46
          clear ht_46
          cases ret_hid H
          go_wp2_with fail
          go_ret
          exact ⟨Aout_3l0, cout_3l0, rfl, Ot_46.out, Kt_45.out, HBwt_45.out⟩
      | true =>
        replace H := ite_t H
        obtain ⟨w_t_19, hw_t_19⟩ : ∃ x, wr0.alloc (.cells #[.int .i64 at_5l0] 3) = x := ⟨_, rfl⟩
        have bw_t_19 : Below wr0.heap.size wr0 w_t_19 := by rw [← hw_t_19]; exact (Below.refl _ _).alloc (Nat.le_refl _) _
        have HBw_t_19 := Lib.hid (grown_below HBwr0.out bw_t_19)
        replace Ot_4 := Lib.hid (own_below Ot_4.out bw_t_19)
        replace Ot_8 := Lib.hid (own_below Ot_8.out bw_t_19)
        replace Oout_3l0 := Lib.hid (own_below Oout_3l0.out bw_t_19)
        replace Kl0_0 := Lib.hid (Go.Proofs.Ytbpjhmhnicfdfaa.GoC.cur_below Kl0_0.out bw_t_19)
        clear bw_t_19
        replace H := guard_hid H
        obtain ⟨hlt_20, H⟩ := H
        replace H := let_hid H
        obtain ⟨t_20, ht_20, H⟩ := H
        have hht_20 := Lib.hid ht_20
        clear ht_20
        have hst_20 := HBw_t_19.out.size
        go_wp2_with (at_builtin; refine wpList_append_own_at _ rfl _ _ 24 rfl w.heap.size 3 i0_3 (.int .i64 0) 1 8 Try.underlying24 hi_3 hz0_3 hz1_3 hz2_3 rfl (by decide) _ _ _ rfl Oout_3l0.out ⟨wr0.heap.size, 0, none⟩ 1 1 [.int .i64 at_5l0] rfl rfl (news_new hw_t_19) (one_cells rfl) (by unfold maxLen; omega) (by omega) hst_20 ?_; intro vt_20 wt_20 ot_20 gt_20 zt_20 yt_20; clear zt_20; obtain ⟨qt_20, ct_20, rfl, pt_20⟩ := own_push hht_20.out (Go.Proofs.Ytbpjhmhnicfdfaa.HelpInt.iv_snoc _ _) rfl ot_20; have Pt_20 := Lib.hid pt_20; have Yt_20 := Lib.hid yt_20; have Gt_20 := Lib.hid gt_20; clear ot_20 gt_20 pt_20 yt_20; refine stop_in ?_)
        refine stop_out ?_
        have HBwt_20 := Lib.hid (Go.Proofs.Ytbpjhmhnicfdfaa.GoC.grown_new HBw_t_19.out Gt_20.out (Go.Proofs.Ytbpjhmhnicfdfaa.GoC.own_ge Oout_3l0.out))
        clear hst_20
        have Dt_20_t_4 : Hid (Apart (some ⟨qt_20, 0, none⟩) _) := Lib.hid (apart_app Dout_3l0_t_4.out (fun a_ ha_ => (own_lt Ot_4.out a_ ha_).2) Yt_20.out)
        have Dt_20_t_8 : Hid (Apart (some ⟨qt_20, 0, none⟩) _) := Lib.hid (apart_app Dout_3l0_t_8.out (fun a_ ha_ => (own_lt Ot_8.out a_ ha_).2) Yt_20.out)
        have Dt_20_c0 : Hid (Apart (some ⟨qt_20, 0, none⟩) _) := Lib.hid (apart_app Dout_3l0_c0.out (fun a_ ha_ => by cases ha_; exact (Go.Proofs.Ytbpjhmhnicfdfaa.GoC.cur_lt Kl0_0.out).2) Yt_20.out)
        replace Ot_4 := Lib.hid (own_other Ot_4.out Gt_20.out Dout_3l0_t_4.out)
        replace Ot_8 := Lib.hid (own_other Ot_8.out Gt_20.out Dout_3l0_t_8.out)
        replace Kl0_0 := Lib.hid (Go.Proofs.Ytbpjhmhnicfdfaa.GoC.cur_other Kl0_0.out Gt_20.out Dout_3l0_c0.out (fun a_ e_ => Nat.le_trans L0 (Go.Proofs.Ytbpjhmhnicfdfaa.GoC.own_ge Oout_3l0.out a_ e_)))
        clear Oout_3l0 Yt_20 Gt_20
        replace H := let_hid H
        obtain ⟨t_24, ht_24, H⟩ := H
        replace H := let_hid H
        obtain ⟨t_26, ht_26, H⟩ := H
        obtain ⟨w_t_26, hw_t_26⟩ : ∃ x, wt_20.alloc (.cells #[.int .i64 (-5), .int .i64 0, .int .i64 0, .int .i64 0, .int .i64 5, .int .i64 6] 3) = x := ⟨_, rfl⟩
        have bw_t_26 : Below wt_20.heap.size wt_20 w_t_26 := by rw [← hw_t_26]; exact (Below.refl _ _).alloc (Nat.le_refl _) _
        have hs_t_26 := HBwt_20.out.size
        have nt_26 : t_26.length = 6 := by rw [← ht_26]; rfl
        have Ot_26 : Hid (w_t_26.ownsRow w.heap.size 3 1 (.slice (some ⟨wt_20.heap.size, 0, none⟩) 6 6) 6 (Go.Proofs.Ytbpjhmhnicfdfaa.HelpInt.iv t_26)) := by
          rw [← hw_t_26, ← ht_26]
          have e_ : ([.int .i64 (-5), .int .i64 0, .int .i64 0, .int .i64 0, .int .i64 5, .int .i64 6] : List Value) = (Go.Proofs.Ytbpjhmhnicfdfaa.HelpInt.iv ([(-5), 0, 0, 0, 5, 6] : List Int)) := rfl
          exact Lib.hid (own_laid (n := 6) hs_t_26 e_ rfl (by unfold maxLen; omega))
        clear hs_t_26
        have hht_26 := Lib.hid ht_26
        clear ht_26
        replace nt_26 := Lib.hid nt_26
        have Dt_26_t_4 := Lib.hid (apart_fresh Ot_4.out)
        have Dt_26_t_8 := Lib.hid (apart_fresh Ot_8.out)
        have Dt_26_t_20 := Lib.hid (apart_fresh Pt_20.out)
        have Dt_26_c0 := Lib.hid (Go.Proofs.Ytbpjhmhnicfdfaa.GoC.apart_cur Kl0_0.out)
        have HBw_t_26 := Lib.hid (grown_below HBwt_20.out bw_t_26)
        replace Ot_4 := Lib.hid (own_below Ot_4.out bw_t_26)
        replace Ot_8 := Lib.hid (own_below Ot_8.out bw_t_26)
        replace Pt_20 := Lib.hid (own_below Pt_20.out bw_t_26)
        replace Kl0_0 := Lib.hid (Go.Proofs.Ytbpjhmhnicfdfaa.GoC.cur_below Kl0_0.out bw_t_26)
        clear bw_t_26
        replace H := bind2_hid H
        obtain ⟨t_27, t_27_tp, qt_27, H⟩ := H
        go_wp2_with fail
        have hc_ := nt_26.out
        have hv_ : (Value.slice (some ⟨wt_20.heap.size, 0, none⟩) 6 6 : Value) = Value.slice (some ⟨wt_20.heap.size, 0, none⟩) t_26.length 6 := by rw [hc_]
        try rw [hv_]
        replace Ot_26 := Lib.hid (own_len hc_ Ot_26.out)
        clear hc_ hv_
        go_wp2_with fail
        go_at_call 42
        refine (Go.Proofs.Ytbpjhmhnicfdfaa.GsL1CurAmong.C (c0_c0l0) (t_26) (some ⟨wt_20.heap.size, 0, none⟩) 6 (g0) (Ac0) (cc0) (bc0) _   (Lib.hid (own_cells Ot_26.out)) (Lib.hid (own_max Ot_26.out)) Kl0_0 (Lib.hid (fun _ => Dt_26_c0.out)) qt_27).mono ?_
        rintro e_t_27 wt_27 ⟨rfl, kt_27, gt_27⟩
        have Kt_27 := Lib.hid kt_27
        have Gt_27 : Hid (w_t_26.grownBy wt_27 (Value.slice (some ⟨g0, 0, none⟩) 1 1).ownBlock) := Lib.hid gt_27
        clear kt_27 gt_27
        have HBwt_27 := Lib.hid (Aid.grown_tr HBw_t_26.out Gt_27.out)
        replace Ot_4 := Lib.hid (own_other Ot_4.out Gt_27.out (Apart.symm Dt_4_c0.out))
        replace Ot_8 := Lib.hid (own_other Ot_8.out Gt_27.out (Apart.symm Dt_8_c0.out))
        replace Pt_20 := Lib.hid (own_other Pt_20.out Gt_27.out (Apart.symm Dt_20_c0.out))
        replace Ot_26 := Lib.hid (own_other Ot_26.out Gt_27.out (Apart.symm Dt_26_c0.out))
        clear Kl0_0 Gt_27
        replace H := let_hid H
        obtain ⟨t_28, ht_28, H⟩ := H
        replace H := bind2_hid H
        obtain ⟨t_31, t_31_tp, qt_31, H⟩ := H
        go_wp2_with fail
        go_at_call 41
        refine (Go.Proofs.Ytbpjhmhnicfdfaa.GsL1CurOne.C (t_27_tp) (9) (g0) (Ac0) (cc0) (bc0) _   Kt_27 qt_31).mono ?_
        rintro e_t_31 wt_31 ⟨rfl, kt_31, gt_31⟩
        have Kt_31 := Lib.hid kt_31
        have Gt_31 : Hid (wt_27.grownBy wt_31 (Value.slice (some ⟨g0, 0, none⟩) 1 1).ownBlock) := Lib.hid gt_31
        clear kt_31 gt_31
        have HBwt_31 := Lib.hid (Aid.grown_tr HBwt_27.out Gt_31.out)
        replace Ot_4 := Lib.hid (own_other Ot_4.out Gt_31.out (Apart.symm Dt_4_c0.out))
        replace Ot_8 := Lib.hid (own_other Ot_8.out Gt_31.out (Apart.symm Dt_8_c0.out))
        replace Pt_20 := Lib.hid (own_other Pt_20.out Gt_31.out (Apart.symm Dt_20_c0.out))
        replace Ot_26 := Lib.hid (own_other Ot_26.out Gt_31.out (Apart.symm Dt_26_c0.out))
        clear Kt_27 Gt_31
        cases t_31 with
        | false =>
          replace H := ite_f H
          replace H := let_hid H
          obtain ⟨t_37, ht_37, H⟩ := H
          replace H := app_hid H
          go_wp2_with fail
          go_roundg m0
          case measure => omega
          case rel => exact ⟨_, _, _, _, _, _, rfl, rfl, rfl, H, HBwt_31, Pt_20, Ot_4, Ot_8, Lib.hid Dt_20_t_4.out, Lib.hid Dt_20_t_8.out, Lib.hid Dt_20_c0.out, Kt_31⟩
        | true =>
          replace H := ite_t H
          replace H := let_hid H
          obtain ⟨t_34, ht_34, H⟩ := H
          replace H := let_hid H
          obtain ⟨t_37, ht_37, H⟩ := H
          replace H := app_hid H
          go_wp2_with fail
          go_roundg m0
          case measure => omega
          case rel => exact ⟨_, _, _, _, _, _, rfl, rfl, rfl, H, HBwt_31, Pt_20, Ot_4, Ot_8, Lib.hid Dt_20_t_4.out, Lib.hid Dt_20_t_8.out, Lib.hid Dt_20_c0.out, Kt_31⟩
end Go.Proofs.Ytbpjhmhnicfdfaa.GsL1CurHoles5

/- loop.example/g01062/spec.DrawGaugeOf as a plain function, and the contract of the program's: where the plain one has an answer, the program has it. Conditions: slices read as lists. -/
namespace Go.Proofs.Ytbpjhmhnicfdfaa.GsDrawGaugeOf
set_option linter.unusedVariables false
set_option linter.unusedSimpArgs false
open Go.RowKit
open Go.Proofs.Ytbpjhmhnicfdfaa.Rowed Go.Proofs.Ytbpjhmhnicfdfaa.Turn Go.Proofs.Ytbpjhmhnicfdfaa.Aid Go.Proofs.Ytbpjhmhnicfdfaa.GoP Go.Proofs.Ytbpjhmhnicfdfaa.GoM

def P (fuel : Nat) (tapes : List Int → Go.Proofs.Ytbpjhmhnicfdfaa.GoC.Tape) (code : (List Int)) : Option ((List Int)) :=
  letK (tapes code) fun (t_3 : Go.Proofs.Ytbpjhmhnicfdfaa.GoC.Tape) =>
  bind2 (Go.Proofs.Ytbpjhmhnicfdfaa.GsL1CurHoles5.P fuel t_3) fun (t_6 : (List Int)) (t_6_tp : Go.Proofs.Ytbpjhmhnicfdfaa.GoC.Tape) =>
  some t_6

set_option maxRecDepth 100000 in
set_option maxHeartbeats 2000000 in
theorem C (fuel : Nat) (tapes : List Int → Go.Proofs.Ytbpjhmhnicfdfaa.GoC.Tape) (code : (List Int)) (A0 : Option Addr) (c0 : Nat)  (w : World) (HE : Hid (Go.Proofs.Ytbpjhmhnicfdfaa.GoC.Tells tapes)) (M0 : Hid (Cells w 1 A0 code.length (Go.Proofs.Ytbpjhmhnicfdfaa.GoC.u8s code))) (N0 : Hid (code.length ≤ 9223372036854775807)) (V0 : Hid (∀ z ∈ code, 0 ≤ z ∧ z ≤ 255))  {r : (List Int)} (H : Hid (P fuel tapes code = some r)) :
    Calls Try.prog 6 #[.slice A0 code.length c0] w (fun e w' => ∃ A_r c_r, e = .returned (.slice A_r r.length c_r) ∧ w'.ownsRow w.heap.size 3 1 (.slice A_r r.length c_r) r.length (Go.Proofs.Ytbpjhmhnicfdfaa.HelpInt.iv r) ∧ Below w.heap.size w w') := by
  have HB := Lib.hid (Below.refl w.heap.size w)
  unfold P at H
  have N0o := N0.out
  go_enter Try.func6, Try.ntmps6
  replace H := let_hid H
  obtain ⟨t_3, ht_3, H⟩ := H
  obtain ⟨w_t_3, hw_t_3⟩ : ∃ x, w.alloc (.cells #[.slice A0 code.length c0, .int .i64 0, .int .u64 0] 46) = x := ⟨_, rfl⟩
  have bw_t_3 : Below w.heap.size w w_t_3 := by rw [← hw_t_3]; exact (Below.refl _ _).alloc (Nat.le_refl _) _
  have Kt_3 : Hid (Go.Proofs.Ytbpjhmhnicfdfaa.GoC.CurIs w_t_3 w.heap.size w.heap.size A0 c0 t_3) := Lib.hid (by rw [← hw_t_3, ← ht_3]; exact Go.Proofs.Ytbpjhmhnicfdfaa.GoC.cur_new HB.out.size (Cells.below M0.out HB.out) (fun a_ ha_ h0_ => by subst ha_; exact Go.Proofs.Ytbpjhmhnicfdfaa.GoC.cells_lt M0.out (by unfold Go.Proofs.Ytbpjhmhnicfdfaa.GoC.u8s; rw [List.length_map]; exact h0_)) (HE.out.2.2 code V0.out N0.out))
  have hht_3 := Lib.hid ht_3
  clear ht_3
  have HBw_t_3 := Lib.hid (Below.step HB.out bw_t_3)
  clear bw_t_3
  replace H := bind2_hid H
  obtain ⟨t_6, t_6_tp, qt_6, H⟩ := H
  go_wp2_with fail
  go_at_call 30
  refine (Go.Proofs.Ytbpjhmhnicfdfaa.GsL1CurHoles5.C fuel (t_3) (w.heap.size) (A0) (c0) (w.heap.size) _   Kt_3 qt_6).mono ?_
  rintro e_t_6 wt_6 ⟨At_6, ct_6, rfl, ot_6, kt_6, gt_6⟩
  have Dt_6_t_3 := Lib.hid (Go.Proofs.Ytbpjhmhnicfdfaa.GoC.apart_callcur ot_6 Kt_3.out)
  have Ot_6 := Lib.hid (own_lower ot_6 HBw_t_3.out.size)
  clear ot_6
  have Kt_6 := Lib.hid kt_6
  have Gt_6 : Hid (w_t_3.grownBy wt_6 (Value.slice (some ⟨w.heap.size, 0, none⟩) 1 1).ownBlock) := Lib.hid gt_6
  clear kt_6 gt_6
  have HBwt_6 := Lib.hid (Go.Proofs.Ytbpjhmhnicfdfaa.GoC.below_cur HBw_t_3.out Gt_6.out HBw_t_3.out.size (Go.Proofs.Ytbpjhmhnicfdfaa.GoC.cur_lt Kt_3.out).1)
  clear Kt_3 Gt_6
  obtain rfl := ret_hid H
  go_wp2_with fail
  go_ret
  exact ⟨At_6, ct_6, rfl, Ot_6.out, HBwt_6.out⟩
end Go.Proofs.Ytbpjhmhnicfdfaa.GsDrawGaugeOf

/- loop.example/g01062/impl.within as a plain function, and the contract of the program's: where the plain one has an answer, the program has it. Conditions: slices read as lists. -/
namespace Go.Proofs.Ytbpjhmhnicfdfaa.GiWithin
set_option linter.unusedVariables false
set_option linter.unusedSimpArgs false
open Go.RowKit
open Go.Proofs.Ytbpjhmhnicfdfaa.Rowed Go.Proofs.Ytbpjhmhnicfdfaa.Turn Go.Proofs.Ytbpjhmhnicfdfaa.Aid Go.Proofs.Ytbpjhmhnicfdfaa.GoP Go.Proofs.Ytbpjhmhnicfdfaa.GoM

def P (n_0 : Int) (low : Int) (high : Int) : Option (Bool) :=
  letK (decide (low ≤ n_0)) fun (t_3 : Bool) =>
  joinK (fun (t_8 : Bool) =>
  some t_8) fun jt_8 => iteK t_3 (letK (decide (n_0 ≤ high)) fun (t_7 : Bool) =>
  appK jt_8 t_7) (appK jt_8 false)

set_option maxRecDepth 100000 in
set_option maxHeartbeats 2000000 in
theorem C (n_0 : Int) (low : Int) (high : Int)   (w : World)   {r : Bool} (H : Hid (P n_0 low high = some r)) :
    Calls Try.prog 40 #[.int .i64 n_0, .int .i64 low, .int .i64 high] w (Gives (.bool r) w) := by
  have HB := Lib.hid (Below.refl w.heap.size w)
  unfold P at H
  go_enter Try.func40, Try.ntmps40
  replace H := let_hid H
  obtain ⟨t_3, ht_3, H⟩ := H
  replace H := join_hid H
  cases t_3 with
  | false =>
    replace H := ite_f H
    replace H := app_hid H
    obtain rfl := ret_hid H
    go_wp2_with fail
    go_ret
    exact ⟨rfl, HB.out⟩
  | true =>
    replace H := ite_t H
    replace H := let_hid H
    obtain ⟨t_7, ht_7, H⟩ := H
    replace H := app_hid H
    obtain rfl := ret_hid H
    go_wp2_with fail
    go_ret
    exact ⟨rfl, HB.out⟩

set_option maxRecDepth 100000 in
set_option maxHeartbeats 2000000 in
theorem C0 (n_0 : Int) (low : Int) (high : Int)   (w : World)   {r : Bool} (H : Hid (P n_0 low high = some r)) :
    Calls Try.prog 40 #[.int .i64 n_0, .int .i64 low, .int .i64 high] w (fun e w'' => e = .returned (.bool r) ∧ w'' = w) := by
  have HB := Lib.hid (Below.refl w.heap.size w)
  unfold P at H
  go_enter Try.func40, Try.ntmps40
  replace H := let_hid H
  obtain ⟨t_3, ht_3, H⟩ := H
  replace H := join_hid H
  cases t_3 with
  | false =>
    replace H := ite_f H
    replace H := app_hid H
    obtain rfl := ret_hid H
    go_wp2_with fail
    go_ret
    exact ⟨rfl, rfl⟩
  | true =>
    replace H := ite_t H
    replace H := let_hid H
    obtain ⟨t_7, ht_7, H⟩ := H
    replace H := app_hid H
    obtain rfl := ret_hid H
    go_wp2_with fail
    go_ret
    exact ⟨rfl, rfl⟩
end Go.Proofs.Ytbpjhmhnicfdfaa.GiWithin

/- loop.example/g01062/impl.areHoles as a plain function, and the contract of the program's: where the plain one has an answer, the program has it. Conditions: slices read as lists. -/
namespace Go.Proofs.Ytbpjhmhnicfdfaa.GiAreHoles
set_option linter.unusedVariables false
set_option linter.unusedSimpArgs false
open Go.RowKit
open Go.Proofs.Ytbpjhmhnicfdfaa.Rowed Go.Proofs.Ytbpjhmhnicfdfaa.Turn Go.Proofs.Ytbpjhmhnicfdfaa.Aid Go.Proofs.Ytbpjhmhnicfdfaa.GoP Go.Proofs.Ytbpjhmhnicfdfaa.GoM

def l0 (holes : (List Int)) (k0 : Nat) (s : Unit) (nx0 bk0 : Unit → Option (Bool)) : Option (Bool) :=
  
  Option.bind (idx holes (k0 : Int)) fun (yt_11 : Int) =>
  Option.bind (Go.Proofs.Ytbpjhmhnicfdfaa.GiWithin.P yt_11 0 9999) fun (t_16 : Bool) =>
  letK (!t_16) fun (t_17 : Bool) =>
  joinK (fun (t_30 : Bool) =>
  iteK t_30
  (some false)
  (appK nx0 ())) fun jt_30 => iteK t_17 (appK jt_30 true) (letK (decide (0 < (k0 : Int))) fun (t_20 : Bool) =>
  joinK (fun (t_29 : Bool) =>
  appK jt_30 t_29) fun jt_29 => iteK t_20 (letK (IntKind.i64.wrap ((k0 : Int) - 1)) fun (t_25 : Int) =>
  Option.bind (idx holes t_25) fun (yt_26 : Int) =>
  letK (decide (yt_11 ≤ yt_26)) fun (t_28 : Bool) =>
  appK jt_29 t_28) (appK jt_29 false))

def e0  (s : Unit) : Option (Bool) :=
  
  some true

def P (holes : (List Int)) : Option (Bool) :=
  Option.bind (Go.Proofs.Ytbpjhmhnicfdfaa.GiWithin.P (holes.length : Int) 2 40) fun (t_3 : Bool) =>
  letK (!t_3) fun (t_4 : Bool) =>
  iteK t_4
  (some false)
  (cntK (l0 holes) (holes.length) 0 () (e0 ))

set_option maxRecDepth 100000 in
set_option maxHeartbeats 2000000 in
theorem C (holes : (List Int)) (A0 : Option Addr) (c0 : Nat)  (w : World) (M0 : Hid (Cells w 1 A0 holes.length (Go.Proofs.Ytbpjhmhnicfdfaa.HelpInt.iv holes))) (N0 : Hid (holes.length ≤ 9223372036854775807))  {r : Bool} (H : Hid (P holes = some r)) :
    Calls Try.prog 31 #[.slice A0 holes.length c0] w (Gives (.bool r) w) := by
  have HB := Lib.hid (Below.refl w.heap.size w)
  unfold P at H
  have N0o := N0.out
  go_enter Try.func31, Try.ntmps31
  replace H := bind_hid H
  obtain ⟨t_3, qt_3, H⟩ := H
  go_wp2_with fail
  go_at_call 40
  refine (Go.Proofs.Ytbpjhmhnicfdfaa.GiWithin.C ((holes.length : Int)) (2) (40)  _    qt_3).mono ?_
  rintro e_t_3 wt_3 ⟨rfl, bt_3⟩
  have HBwt_3 := Lib.hid (Below.step HB.out bt_3)
  clear bt_3
  cases t_3 with
  | false =>
    replace H := let_hid H
    obtain ⟨t_4, ht_4, H⟩ := H
    obtain rfl : t_4 = true := ht_4.symm
    replace H := ite_t H
    obtain rfl := ret_hid H
    go_wp2_with fail
    go_ret
    exact ⟨rfl, HBwt_3.out⟩
  | true =>
    replace H := let_hid H
    obtain ⟨t_4, ht_4, H⟩ := H
    obtain rfl : t_4 = false := ht_4.symm
    replace H := ite_f H
    go_wp2_with fail
    go_loopg [11] (holes.length) (fun m_ v11_ wr => ∃ (k0 : Nat) , k0 + m_ = holes.length ∧ v11_ = .int .i64 (k0 : Int) ∧ Hid (cntK (l0 holes) m_ k0 () (e0 ) = some r) ∧ Hid (Below w.heap.size w wr))
    case atStart => exact ⟨0, by omega, rfl, H, HBwt_3⟩
    case round =>
      obtain ⟨k0, hkm0, rfl, H, HBwr0⟩ := hrel
      rename World => wr0
      cases gk with
      | zero =>
        obtain rfl : k0 = holes.length := by omega
        have hc0 : decide (((holes.length : Nat) : Int) < ((holes.length : Nat) : Int)) = false := by simp
        replace H := cnt_zero H
        unfold e0 at H
        obtain rfl := ret_hid H
        go_wp2_with fail
        go_ret
        exact ⟨rfl, HBwr0.out⟩
      | succ m0 =>
        have hlt0 : k0 < holes.length := by omega
        have hc0 : decide ((k0 : Int) < ((holes.length : Nat) : Int)) = true := by simp; omega
        replace H := cnt_succ H
        unfold l0 at H
        replace H := idx_hid H
        obtain ⟨nt_11, yt_11, et_11, lt_11, gt_11, H⟩ := H
        obtain rfl : k0 = nt_11 := by omega
        clear et_11
        obtain ⟨ab_t_11, ao_t_11, zt_11, At_11, z_t_11, ct_11_0⟩ := Go.Proofs.Ytbpjhmhnicfdfaa.HelpInt.Ints.at_ M0.out lt_11
        obtain rfl := Option.some.inj (gt_11.out.symm.trans z_t_11)
        subst At_11
        have ltt_11 := cell_lt ct_11_0
        replace ct_11_0 := cell_below HBwr0.out ct_11_0
        clear z_t_11
        have b0t_11 : (0 : Int) ≤ (k0 : Int) := by omega
        have b1t_11 : (k0 : Int) < ((holes.length : Nat) : Int) := by omega
        have b2t_11 : ((k0 : Int)).toNat = k0 := by omega
        replace H := bind_hid H
        obtain ⟨t_16, qt_16, H⟩ := H
        go_wp2_with fail
        go_at_call 40
        refine (Go.Proofs.Ytbpjhmhnicfdfaa.GiWithin.C (yt_11) (0) (9999)  _    qt_16).mono ?_
        rintro e_t_16 wt_16 ⟨rfl, bt_16⟩
        have HBwt_16 := Lib.hid (Below.step HBwr0.out bt_16)
        replace ct_11_0 := cell_below bt_16 ct_11_0
        clear bt_16
        cases t_16 with
        | false =>
          replace H := let_hid H
          obtain ⟨t_17, ht_17, H⟩ := H
          obtain rfl : t_17 = true := ht_17.symm
          replace H := join_hid H
          replace H := ite_t H
          replace H := app_hid H
          replace H := ite_t H
          obtain rfl := ret_hid H
          go_wp2_with fail
          go_ret
          exact ⟨rfl, HBwt_16.out⟩
        | true =>
          replace H := let_hid H
          obtain ⟨t_17, ht_17, H⟩ := H
          obtain rfl : t_17 = false := ht_17.symm
          replace H := join_hid H
          replace H := ite_f H
          replace H := let_hid H
          obtain ⟨t_20, ht_20, H⟩ := H
          replace H := join_hid H
          cases t_20 with
          | false =>
            have nht_20 : ¬ (0 < k0) := by have := of_decide_eq_false ht_20; omega
            replace H := ite_f H
            replace H := app_hid H
            replace H := app_hid H
            replace H := ite_f H
            replace H := app_hid H
            go_wp2_with fail
            go_roundg m0
            case measure => omega
            case rel => exact ⟨k0 + 1, by omega, by go_num, H, HBwt_16⟩
          | true =>
            have nht_20 : 0 < k0 := by have := of_decide_eq_true ht_20; omega
            replace H := ite_t H
            replace H := let_hid H
            obtain ⟨t_25, ht_25, H⟩ := H
            replace H := idx_hid H
            obtain ⟨nt_26, yt_26, et_26, lt_26, gt_26, H⟩ := H
            subst et_26
            obtain ⟨ab_t_26, ao_t_26, zt_26, At_26, z_t_26, ct_26_0⟩ := Go.Proofs.Ytbpjhmhnicfdfaa.HelpInt.Ints.at_ M0.out lt_26
            obtain rfl := Option.some.inj (gt_26.out.symm.trans z_t_26)
            simp only [Option.some.injEq, Addr.mk.injEq] at At_26
            obtain ⟨rfl, rfl, _⟩ := At_26
            have ltt_26 := cell_lt ct_26_0
            replace ct_26_0 := cell_below HBwt_16.out ct_26_0
            clear z_t_26
            have b0t_26 : (0 : Int) ≤ (nt_26 : Int) := by omega
            have b1t_26 : (nt_26 : Int) < ((holes.length : Nat) : Int) := by omega
            have b2t_26 : ((nt_26 : Int)).toNat = nt_26 := by omega
            replace H := let_hid H
            obtain ⟨t_28, ht_28, H⟩ := H
            replace H := app_hid H
            replace H := app_hid H
            cases t_28 with
            | false =>
              replace H := ite_f H
              replace H := app_hid H
              go_wp2_with fail
              go_roundg m0
              case measure => omega
              case rel => exact ⟨k0 + 1, by omega, by go_num, H, HBwt_16⟩
            | true =>
              replace H := ite_t H
              obtain rfl := ret_hid H
              go_wp2_with fail
              go_ret
              exact ⟨rfl, HBwt_16.out⟩
end Go.Proofs.Ytbpjhmhnicfdfaa.GiAreHoles

/- loop.example/g01062/impl.isGauge as a plain function, and the contract of the program's: where the plain one has an answer, the program has it. Conditions: slices read as lists. -/
namespace Go.Proofs.Ytbpjhmhnicfdfaa.GiIsGauge
set_option linter.unusedVariables false
set_option linter.unusedSimpArgs false
open Go.RowKit
open Go.Proofs.Ytbpjhmhnicfdfaa.Rowed Go.Proofs.Ytbpjhmhnicfdfaa.Turn Go.Proofs.Ytbpjhmhnicfdfaa.Aid Go.Proofs.Ytbpjhmhnicfdfaa.GoP Go.Proofs.Ytbpjhmhnicfdfaa.GoM

def P (gauge : Int) : Option (Bool) :=
  Option.bind (Go.Proofs.Ytbpjhmhnicfdfaa.GiWithin.P gauge 500 2000) fun (t_2 : Bool) =>
  some t_2

set_option maxRecDepth 100000 in
set_option maxHeartbeats 2000000 in
theorem C (gauge : Int)   (w : World)   {r : Bool} (H : Hid (P gauge = some r)) :
    Calls Try.prog 32 #[.int .i64 gauge] w (Gives (.bool r) w) := by
  have HB := Lib.hid (Below.refl w.heap.size w)
  unfold P at H
  go_enter Try.func32, Try.ntmps32
  replace H := bind_hid H
  obtain ⟨t_2, qt_2, H⟩ := H
  go_wp2_with fail
  go_at_call 40
  refine (Go.Proofs.Ytbpjhmhnicfdfaa.GiWithin.C (gauge) (500) (2000)  _    qt_2).mono ?_
  rintro e_t_2 wt_2 ⟨rfl, bt_2⟩
  have HBwt_2 := Lib.hid (Below.step HB.out bt_2)
  clear bt_2
  obtain rfl := ret_hid H
  go_wp2_with fail
  go_ret
  exact ⟨rfl, HBwt_2.out⟩
end Go.Proofs.Ytbpjhmhnicfdfaa.GiIsGauge

/- loop.example/g01062/impl.GaugeOf as a plain function, and the contract of the program's: where the plain one has an answer, the program has it. Conditions: slices read as lists. -/
namespace Go.Proofs.Ytbpjhmhnicfdfaa.GiGaugeOf
set_option linter.unusedVariables false
set_option linter.unusedSimpArgs false
open Go.RowKit
open Go.Proofs.Ytbpjhmhnicfdfaa.Rowed Go.Proofs.Ytbpjhmhnicfdfaa.Turn Go.Proofs.Ytbpjhmhnicfdfaa.Aid Go.Proofs.Ytbpjhmhnicfdfaa.GoP Go.Proofs.Ytbpjhmhnicfdfaa.GoM

def P (holes : (List Int)) : Option (Int × Bool) :=
  Option.bind (Go.Proofs.Ytbpjhmhnicfdfaa.GiAreHoles.P holes) fun (t_3 : Bool) =>
  letK (!t_3) fun (t_4 : Bool) =>
  iteK t_4
  (some (0, false))
  (letK (IntKind.i64.wrap ((holes.length : Int) - 1)) fun (t_9 : Int) =>
  letK (IntKind.i64.wrap (200000 * t_9)) fun (t_12 : Int) =>
  Option.bind (idx holes t_9) fun (yt_15 : Int) =>
  Option.bind (idx holes 0) fun (yt_18 : Int) =>
  letK (IntKind.i64.wrap (yt_15 - yt_18)) fun (t_20 : Int) =>
  guardK (¬ (t_20 = 0)) <|
  letK (IntKind.i64.wrap (Int.tdiv t_12 t_20)) fun (t_21 : Int) =>
  Option.bind (Go.Proofs.Ytbpjhmhnicfdfaa.GiIsGauge.P t_21) fun (t_24 : Bool) =>
  letK (!t_24) fun (t_25 : Bool) =>
  iteK t_25
  (some (0, false))
  (some (t_21, true)))

set_option maxRecDepth 100000 in
set_option maxHeartbeats 2000000 in
theorem C (holes : (List Int)) (A0 : Option Addr) (c0 : Nat)  (w : World) (M0 : Hid (Cells w 1 A0 holes.length (Go.Proofs.Ytbpjhmhnicfdfaa.HelpInt.iv holes))) (N0 : Hid (holes.length ≤ 9223372036854775807))  {r0 : Int} {r1 : Bool} (H : Hid (P holes = some (r0, r1))) :
    Calls Try.prog 7 #[.slice A0 holes.length c0] w (Gives (.tuple #[.int .i64 r0, .bool r1]) w) := by
  have HB := Lib.hid (Below.refl w.heap.size w)
  unfold P at H
  have N0o := N0.out
  go_enter Try.func7, Try.ntmps7
  replace H := bind_hid H
  obtain ⟨t_3, qt_3, H⟩ := H
  go_wp2_with fail
  go_at_call 31
  refine (Go.Proofs.Ytbpjhmhnicfdfaa.GiAreHoles.C (holes) A0 c0 _   (Lib.hid (Cells.below M0.out HB.out)) N0 qt_3).mono ?_
  rintro e_t_3 wt_3 ⟨rfl, bt_3⟩
  have HBwt_3 := Lib.hid (Below.step HB.out bt_3)
  clear bt_3
  cases t_3 with
  | false =>
    replace H := let_hid H
    obtain ⟨t_4, ht_4, H⟩ := H
    obtain rfl : t_4 = true := ht_4.symm
    replace H := ite_t H
    cases ret_hid H
    go_wp2_with fail
    go_ret2
    exact ⟨rfl, HBwt_3.out⟩
  | true =>
    replace H := let_hid H
    obtain ⟨t_4, ht_4, H⟩ := H
    obtain rfl : t_4 = false := ht_4.symm
    replace H := ite_f H
    replace H := let_hid H
    obtain ⟨t_9, ht_9, H⟩ := H
    go_wp2_with fail
    replace H := let_hid H
    obtain ⟨t_12, ht_12, H⟩ := H
    replace H := idx_hid H
    obtain ⟨nt_15, yt_15, et_15, lt_15, gt_15, H⟩ := H
    subst et_15
    obtain ⟨ab_t_15, ao_t_15, zt_15, At_15, z_t_15, ct_15_0⟩ := Go.Proofs.Ytbpjhmhnicfdfaa.HelpInt.Ints.at_ M0.out lt_15
    obtain rfl := Option.some.inj (gt_15.out.symm.trans z_t_15)
    subst At_15
    have ltt_15 := cell_lt ct_15_0
    replace ct_15_0 := cell_below HBwt_3.out ct_15_0
    clear z_t_15
    have b0t_15 : (0 : Int) ≤ (nt_15 : Int) := by omega
    have b1t_15 : (nt_15 : Int) < ((holes.length : Nat) : Int) := by omega
    have b2t_15 : ((nt_15 : Int)).toNat = nt_15 := by omega
    have Hct_15_0 := Lib.hid ct_15_0
    replace ct_15_0 := cell_regrown ct_15_0
    replace H := idx_hid H
    obtain ⟨nt_18, yt_18, et_18, lt_18, gt_18, H⟩ := H
    obtain rfl : 0 = nt_18 := by omega
    clear et_18
    obtain ⟨ab_t_18, ao_t_18, zt_18, At_18, z_t_18, ct_18_0⟩ := Go.Proofs.Ytbpjhmhnicfdfaa.HelpInt.Ints.at_ M0.out lt_18
    obtain rfl := Option.some.inj (gt_18.out.symm.trans z_t_18)
    simp only [Option.some.injEq, Addr.mk.injEq] at At_18
    obtain ⟨rfl, rfl, _⟩ := At_18
    have ltt_18 := cell_lt ct_18_0
    replace ct_18_0 := cell_below HBwt_3.out ct_18_0
    clear z_t_18
    have b1t_18 : (0 : Int) < ((holes.length : Nat) : Int) := by omega
    have b3t_18 : 0 < holes.length := by omega
    try simp only [Nat.zero_mul, Nat.add_zero, Nat.zero_add, Nat.reduceMul] at ct_18_0
    have Hct_18_0 := Lib.hid ct_18_0
    replace ct_18_0 := cell_regrown ct_18_0
    replace H := let_hid H
    obtain ⟨t_20, ht_20, H⟩ := H
    replace H := guard_hid H
    obtain ⟨hz_t_21, H⟩ := H
    replace H := let_hid H
    obtain ⟨t_21, ht_21, H⟩ := H
    refine wp_region_quiet_below (by kernel_rfl) (by kernel_rfl) ?_
    repeat (go_big_quiet_step (fail))
    refine wpQuiet_nil ?_
    intro Y4 hY4
    replace hY4 := below_class hY4
    replace ct_15_0 := Hct_15_0.out
    clear Hct_15_0
    replace ct_18_0 := Hct_18_0.out
    clear Hct_18_0
    have HBY4 := Lib.hid (Below.step HBwt_3.out hY4)
    replace ct_15_0 := cell_below hY4 ct_15_0
    replace ct_18_0 := cell_below hY4 ct_18_0
    clear hY4
    replace H := bind_hid H
    obtain ⟨t_24, qt_24, H⟩ := H
    go_wp2_with fail
    go_at_call 32
    refine (Go.Proofs.Ytbpjhmhnicfdfaa.GiIsGauge.C (t_21)  _    qt_24).mono ?_
    rintro e_t_24 wt_24 ⟨rfl, bt_24⟩
    have HBwt_24 := Lib.hid (Below.step HBY4.out bt_24)
    replace ct_15_0 := cell_below bt_24 ct_15_0
    replace ct_18_0 := cell_below bt_24 ct_18_0
    clear bt_24
    cases t_24 with
    | false =>
      replace H := let_hid H
      obtain ⟨t_25, ht_25, H⟩ := H
      obtain rfl : t_25 = true := ht_25.symm
      replace H := ite_t H
      cases ret_hid H
      go_wp2_with fail
      go_ret2
      exact ⟨rfl, HBwt_24.out⟩
    | true =>
      replace H := let_hid H
      obtain ⟨t_25, ht_25, H⟩ := H
      obtain rfl : t_25 = false := ht_25.symm
      replace H := ite_f H
      cases ret_hid H
      go_wp2_with fail
      go_ret2
      exact ⟨rfl, HBwt_24.out⟩
end Go.Proofs.Ytbpjhmhnicfdfaa.GiGaugeOf

/- loop.example/g01062/spec.l1In as a plain function, and the contract of the program's: where the plain one has an answer, the program has it. Conditions: slices read as lists. -/
namespace Go.Proofs.Ytbpjhmhnicfdfaa.GsL1In
set_option linter.unusedVariables false
set_option linter.unusedSimpArgs false
open Go.RowKit
open Go.Proofs.Ytbpjhmhnicfdfaa.Rowed Go.Proofs.Ytbpjhmhnicfdfaa.Turn Go.Proofs.Ytbpjhmhnicfdfaa.Aid Go.Proofs.Ytbpjhmhnicfdfaa.GoP Go.Proofs.Ytbpjhmhnicfdfaa.GoM

def P (x : Int) (a : Int) (b : Int) : Option (Bool) :=
  letK (decide (a ≤ x)) fun (t_3 : Bool) =>
  joinK (fun (t_8 : Bool) =>
  some t_8) fun jt_8 => iteK t_3 (letK (decide (x ≤ b)) fun (t_7 : Bool) =>
  appK jt_8 t_7) (appK jt_8 false)

set_option maxRecDepth 100000 in
set_option maxHeartbeats 2000000 in
theorem C (x : Int) (a : Int) (b : Int)   (w : World)   {r : Bool} (H : Hid (P x a b = some r)) :
    Calls Try.prog 44 #[.int .i64 x, .int .i64 a, .int .i64 b] w (Gives (.bool r) w) := by
  have HB := Lib.hid (Below.refl w.heap.size w)
  unfold P at H
  go_enter Try.func44, Try.ntmps44
  replace H := let_hid H
  obtain ⟨t_3, ht_3, H⟩ := H
  replace H := join_hid H
  cases t_3 with
  | false =>
    replace H := ite_f H
    replace H := app_hid H
    obtain rfl := ret_hid H
    go_wp2_with fail
    go_ret
    exact ⟨rfl, HB.out⟩
  | true =>
    replace H := ite_t H
    replace H := let_hid H
    obtain ⟨t_7, ht_7, H⟩ := H
    replace H := app_hid H
    obtain rfl := ret_hid H
    go_wp2_with fail
    go_ret
    exact ⟨rfl, HB.out⟩

set_option maxRecDepth 100000 in
set_option maxHeartbeats 2000000 in
theorem C0 (x : Int) (a : Int) (b : Int)   (w : World)   {r : Bool} (H : Hid (P x a b = some r)) :
    Calls Try.prog 44 #[.int .i64 x, .int .i64 a, .int .i64 b] w (fun e w'' => e = .returned (.bool r) ∧ w'' = w) := by
  have HB := Lib.hid (Below.refl w.heap.size w)
  unfold P at H
  go_enter Try.func44, Try.ntmps44
  replace H := let_hid H
  obtain ⟨t_3, ht_3, H⟩ := H
  replace H := join_hid H
  cases t_3 with
  | false =>
    replace H := ite_f H
    replace H := app_hid H
    obtain rfl := ret_hid H
    go_wp2_with fail
    go_ret
    exact ⟨rfl, rfl⟩
  | true =>
    replace H := ite_t H
    replace H := let_hid H
    obtain ⟨t_7, ht_7, H⟩ := H
    replace H := app_hid H
    obtain rfl := ret_hid H
    go_wp2_with fail
    go_ret
    exact ⟨rfl, rfl⟩
end Go.Proofs.Ytbpjhmhnicfdfaa.GsL1In

/- loop.example/g01062/spec.l1Rising as a plain function, and the contract of the program's: where the plain one has an answer, the program has it. Conditions: slices read as lists. -/
namespace Go.Proofs.Ytbpjhmhnicfdfaa.GsL1Rising
set_option linter.unusedVariables false
set_option linter.unusedSimpArgs false
open Go.RowKit
open Go.Proofs.Ytbpjhmhnicfdfaa.Rowed Go.Proofs.Ytbpjhmhnicfdfaa.Turn Go.Proofs.Ytbpjhmhnicfdfaa.Aid Go.Proofs.Ytbpjhmhnicfdfaa.GoP Go.Proofs.Ytbpjhmhnicfdfaa.GoM

def l0 (l : (List Int)) (lo : Int) (hi : Int) (k0 : Nat) (s : Unit) (nx0 bk0 : Unit → Option (Bool)) : Option (Bool) :=
  
  Option.bind (idx l (k0 : Int)) fun (yt_8 : Int) =>
  Option.bind (Go.Proofs.Ytbpjhmhnicfdfaa.GsL1In.P yt_8 lo hi) fun (t_12 : Bool) =>
  letK (!t_12) fun (t_13 : Bool) =>
  joinK (fun (t_29 : Bool) =>
  iteK t_29
  (some false)
  (appK nx0 ())) fun jt_29 => iteK t_13 (appK jt_29 true) (letK (decide (0 < (k0 : Int))) fun (t_16 : Bool) =>
  joinK (fun (t_28 : Bool) =>
  appK jt_29 t_28) fun jt_28 => iteK t_16 (letK (IntKind.i64.wrap ((k0 : Int) - 1)) fun (t_20 : Int) =>
  Option.bind (idx l t_20) fun (yt_21 : Int) =>
  Option.bind (idx l (k0 : Int)) fun (yt_25 : Int) =>
  letK (decide (yt_25 ≤ yt_21)) fun (t_27 : Bool) =>
  appK jt_28 t_27) (appK jt_28 false))

def e0  (s : Unit) : Option (Bool) :=
  
  some true

def P (l : (List Int)) (lo : Int) (hi : Int) : Option (Bool) :=
  cntK (l0 l lo hi) (l.length) 0 () (e0 )

set_option maxRecDepth 100000 in
set_option maxHeartbeats 2000000 in
theorem C (l : (List Int)) (lo : Int) (hi : Int) (A0 : Option Addr) (c0 : Nat)  (w : World) (M0 : Hid (Cells w 1 A0 l.length (Go.Proofs.Ytbpjhmhnicfdfaa.HelpInt.iv l))) (N0 : Hid (l.length ≤ 9223372036854775807))  {r : Bool} (H : Hid (P l lo hi = some r)) :
    Calls Try.prog 50 #[.slice A0 l.length c0, .int .i64 lo, .int .i64 hi] w (Gives (.bool r) w) := by
  have HB := Lib.hid (Below.refl w.heap.size w)
  unfold P at H
  have N0o := N0.out
  go_enter Try.func50, Try.ntmps50
  go_wp2_with fail
  go_loopg [7] (l.length) (fun m_ v7_ wr => ∃ (k0 : Nat) , k0 + m_ = l.length ∧ v7_ = .int .i64 (k0 : Int) ∧ Hid (cntK (l0 l lo hi) m_ k0 () (e0 ) = some r) ∧ Hid (Below w.heap.size w wr))
  case atStart => exact ⟨0, by omega, rfl, H, HB⟩
  case round =>
    obtain ⟨k0, hkm0, rfl, H, HBwr0⟩ := hrel
    rename World => wr0
    cases gk with
    | zero =>
      obtain rfl : k0 = l.length := by omega
      have hc0 : decide (((l.length : Nat) : Int) < ((l.length : Nat) : Int)) = false := by simp
      replace H := cnt_zero H
      unfold e0 at H
      obtain rfl := ret_hid H
      go_wp2_with fail
      go_ret
      exact ⟨rfl, HBwr0.out⟩
    | succ m0 =>
      have hlt0 : k0 < l.length := by omega
      have hc0 : decide ((k0 : Int) < ((l.length : Nat) : Int)) = true := by simp; omega
      replace H := cnt_succ H
      unfold l0 at H
      go_wp2_with fail
      replace H := idx_hid H
      obtain ⟨nt_8, yt_8, et_8, lt_8, gt_8, H⟩ := H
      obtain rfl : k0 = nt_8 := by omega
      clear et_8
      obtain ⟨ab_t_8, ao_t_8, zt_8, At_8, z_t_8, ct_8_0⟩ := Go.Proofs.Ytbpjhmhnicfdfaa.HelpInt.Ints.at_ M0.out lt_8
      obtain rfl := Option.some.inj (gt_8.out.symm.trans z_t_8)
      subst At_8
      have ltt_8 := cell_lt ct_8_0
      replace ct_8_0 := cell_below HBwr0.out ct_8_0
      clear z_t_8
      have b0t_8 : (0 : Int) ≤ (k0 : Int) := by omega
      have b1t_8 : (k0 : Int) < ((l.length : Nat) : Int) := by omega
      have b2t_8 : ((k0 : Int)).toNat = k0 := by omega
      have Hct_8_0 := Lib.hid ct_8_0
      replace ct_8_0 := cell_regrown ct_8_0
      replace H := bind_hid H
      obtain ⟨t_12, qt_12, H⟩ := H
      have nt_12 : ∀ d os, Calls Try.prog 44 #[.int .i64 yt_8, .int .i64 lo, .int .i64 hi] (Go.Sort.grow (redrawn wr0 d) os) fun e w'' => e = .returned (.bool t_12) ∧ ∃ p : Regrown, w'' = Go.Sort.grow (redrawn wr0 p.d) p.os := fun d os => Calls.regrown_of (Go.Proofs.Ytbpjhmhnicfdfaa.GsL1In.C (yt_8) (lo) (hi)  _    qt_12)
      cases t_12 with
      | false =>
        replace H := let_hid H
        obtain ⟨t_13, ht_13, H⟩ := H
        obtain rfl : t_13 = true := ht_13.symm
        replace H := join_hid H
        replace H := ite_t H
        replace H := app_hid H
        refine wp_region_quiet_below (by kernel_rfl) (by kernel_rfl) ?_
        repeat (go_big_quiet_step (first | (go_at_call 44; exact nt_12 _ _)))
        refine wpQuiet_nil ?_
        intro Y4 hY4
        replace hY4 := below_class hY4
        clear nt_12
        replace ct_8_0 := Hct_8_0.out
        clear Hct_8_0
        have HBY4 := Lib.hid (Below.step HBwr0.out hY4)
        replace ct_8_0 := cell_below hY4 ct_8_0
        clear hY4
        replace H := ite_t H
        obtain rfl := ret_hid H
        go_wp2_with fail
        go_ret
        exact ⟨rfl, HBY4.out⟩
      | true =>
        replace H := let_hid H
        obtain ⟨t_13, ht_13, H⟩ := H
        obtain rfl : t_13 = false := ht_13.symm
        replace H := join_hid H
        replace H := ite_f H
        replace H := let_hid H
        obtain ⟨t_16, ht_16, H⟩ := H
        replace H := join_hid H
        cases t_16 with
        | false =>
          have nht_16 : ¬ (0 < k0) := by have := of_decide_eq_false ht_16; omega
          replace H := ite_f H
          replace H := app_hid H
          replace H := app_hid H
          refine wp_region_quiet_below (by kernel_rfl) (by kernel_rfl) ?_
          repeat (go_big_quiet_step (first | (go_at_call 44; exact nt_12 _ _)))
          refine wpQuiet_nil ?_
          intro Y4 hY4
          replace hY4 := below_class hY4
          clear nt_12
          replace ct_8_0 := Hct_8_0.out
          clear Hct_8_0
          have HBY4 := Lib.hid (Below.step HBwr0.out hY4)
          replace ct_8_0 := cell_below hY4 ct_8_0
          clear hY4
          replace H := ite_f H
          replace H := app_hid H
          go_wp2_with fail
          go_roundg m0
          case measure => omega
          case rel => exact ⟨k0 + 1, by omega, by go_num, H, HBY4⟩
        | true =>
          have nht_16 : 0 < k0 := by have := of_decide_eq_true ht_16; omega
          replace H := ite_t H
          replace H := let_hid H
          obtain ⟨t_20, ht_20, H⟩ := H
          replace H := idx_hid H
          obtain ⟨nt_21, yt_21, et_21, lt_21, gt_21, H⟩ := H
          subst et_21
          obtain ⟨ab_t_21, ao_t_21, zt_21, At_21, z_t_21, ct_21_0⟩ := Go.Proofs.Ytbpjhmhnicfdfaa.HelpInt.Ints.at_ M0.out lt_21
          obtain rfl := Option.some.inj (gt_21.out.symm.trans z_t_21)
          simp only [Option.some.injEq, Addr.mk.injEq] at At_21
          obtain ⟨rfl, rfl, _⟩ := At_21
          have ltt_21 := cell_lt ct_21_0
          replace ct_21_0 := cell_below HBwr0.out ct_21_0
          clear z_t_21
          have b0t_21 : (0 : Int) ≤ (nt_21 : Int) := by omega
          have b1t_21 : (nt_21 : Int) < ((l.length : Nat) : Int) := by omega
          have b2t_21 : ((nt_21 : Int)).toNat = nt_21 := by omega
          have Hct_21_0 := Lib.hid ct_21_0
          replace ct_21_0 := cell_regrown ct_21_0
          replace H := idx_hid H
          obtain ⟨nt_25, yt_25, et_25, lt_25, gt_25, H⟩ := H
          obtain rfl : k0 = nt_25 := by omega
          clear et_25
          obtain rfl := Option.some.inj (gt_8.out.symm.trans gt_25.out)
          clear gt_25 lt_25
          replace H := let_hid H
          obtain ⟨t_27, ht_27, H⟩ := H
          replace H := app_hid H
          replace H := app_hid H
          refine wp_region_quiet_below (by kernel_rfl) (by kernel_rfl) ?_
          repeat (go_big_quiet_step (first | (go_at_call 44; exact nt_12 _ _)))
          refine wpQuiet_nil ?_
          intro Y4 hY4
          replace hY4 := below_class hY4
          clear nt_12
          replace ct_8_0 := Hct_8_0.out
          clear Hct_8_0
          replace ct_21_0 := Hct_21_0.out
          clear Hct_21_0
          have HBY4 := Lib.hid (Below.step HBwr0.out hY4)
          replace ct_8_0 := cell_below hY4 ct_8_0
          replace ct_21_0 := cell_below hY4 ct_21_0
          clear hY4
          cases t_27 with
          | false =>
            replace H := ite_f H
            replace H := app_hid H
            go_wp2_with fail
            go_roundg m0
            case measure => omega
            case rel => exact ⟨k0 + 1, by omega, by go_num, H, HBY4⟩
          | true =>
            replace H := ite_t H
            obtain rfl := ret_hid H
            go_wp2_with fail
            go_ret
            exact ⟨rfl, HBY4.out⟩
end Go.Proofs.Ytbpjhmhnicfdfaa.GsL1Rising

/- loop.example/g01062/spec.l5Holes as a plain function, and the contract of the program's: where the plain one has an answer, the program has it. Conditions: slices read as lists. -/
namespace Go.Proofs.Ytbpjhmhnicfdfaa.GsL5Holes
set_option linter.unusedVariables false
set_option linter.unusedSimpArgs false
open Go.RowKit
open Go.Proofs.Ytbpjhmhnicfdfaa.Rowed Go.Proofs.Ytbpjhmhnicfdfaa.Turn Go.Proofs.Ytbpjhmhnicfdfaa.Aid Go.Proofs.Ytbpjhmhnicfdfaa.GoP Go.Proofs.Ytbpjhmhnicfdfaa.GoM

def P (holes : (List Int)) : Option (Bool) :=
  Option.bind (Go.Proofs.Ytbpjhmhnicfdfaa.GsL1In.P (holes.length : Int) 2 40) fun (t_3 : Bool) =>
  joinK (fun (t_7 : Bool) =>
  some t_7) fun jt_7 => iteK t_3 (Option.bind (Go.Proofs.Ytbpjhmhnicfdfaa.GsL1Rising.P holes 0 9999) fun (t_6 : Bool) =>
  appK jt_7 t_6) (appK jt_7 false)

set_option maxRecDepth 100000 in
set_option maxHeartbeats 2000000 in
theorem C (holes : (List Int)) (A0 : Option Addr) (c0 : Nat)  (w : World) (M0 : Hid (Cells w 1 A0 holes.length (Go.Proofs.Ytbpjhmhnicfdfaa.HelpInt.iv holes))) (N0 : Hid (holes.length ≤ 9223372036854775807))  {r : Bool} (H : Hid (P holes = some r)) :
    Calls Try.prog 33 #[.slice A0 holes.length c0] w (Gives (.bool r) w) := by
  have HB := Lib.hid (Below.refl w.heap.size w)
  unfold P at H
  have N0o := N0.out
  go_enter Try.func33, Try.ntmps33
  replace H := bind_hid H
  obtain ⟨t_3, qt_3, H⟩ := H
  go_wp2_with fail
  go_at_call 44
  refine (Go.Proofs.Ytbpjhmhnicfdfaa.GsL1In.C ((holes.length : Int)) (2) (40)  _    qt_3).mono ?_
  rintro e_t_3 wt_3 ⟨rfl, bt_3⟩
  have HBwt_3 := Lib.hid (Below.step HB.out bt_3)
  clear bt_3
  replace H := join_hid H
  cases t_3 with
  | false =>
    replace H := ite_f H
    replace H := app_hid H
    obtain rfl := ret_hid H
    go_wp2_with fail
    go_ret
    exact ⟨rfl, HBwt_3.out⟩
  | true =>
    replace H := ite_t H
    replace H := bind_hid H
    obtain ⟨t_6, qt_6, H⟩ := H
    go_wp2_with fail
    go_at_call 50
    refine (Go.Proofs.Ytbpjhmhnicfdfaa.GsL1Rising.C (holes) (0) (9999) A0 c0 _   (Lib.hid (Cells.below M0.out HBwt_3.out)) N0 qt_6).mono ?_
    rintro e_t_6 wt_6 ⟨rfl, bt_6⟩
    have HBwt_6 := Lib.hid (Below.step HBwt_3.out bt_6)
    clear bt_6
    replace H := app_hid H
    obtain rfl := ret_hid H
    go_wp2_with fail
    go_ret
    exact ⟨rfl, HBwt_6.out⟩
end Go.Proofs.Ytbpjhmhnicfdfaa.GsL5Holes

/- loop.example/g01062/spec.l5Gauge as a plain function, and the contract of the program's: where the plain one has an answer, the program has it. Conditions: slices read as lists. -/
namespace Go.Proofs.Ytbpjhmhnicfdfaa.GsL5Gauge
set_option linter.unusedVariables false
set_option linter.unusedSimpArgs false
open Go.RowKit
open Go.Proofs.Ytbpjhmhnicfdfaa.Rowed Go.Proofs.Ytbpjhmhnicfdfaa.Turn Go.Proofs.Ytbpjhmhnicfdfaa.Aid Go.Proofs.Ytbpjhmhnicfdfaa.GoP Go.Proofs.Ytbpjhmhnicfdfaa.GoM

def P (n_0 : Int) : Option (Bool) :=
  Option.bind (Go.Proofs.Ytbpjhmhnicfdfaa.GsL1In.P n_0 500 2000) fun (t_2 : Bool) =>
  some t_2

set_option maxRecDepth 100000 in
set_option maxHeartbeats 2000000 in
theorem C (n_0 : Int)   (w : World)   {r : Bool} (H : Hid (P n_0 = some r)) :
    Calls Try.prog 34 #[.int .i64 n_0] w (Gives (.bool r) w) := by
  have HB := Lib.hid (Below.refl w.heap.size w)
  unfold P at H
  go_enter Try.func34, Try.ntmps34
  replace H := bind_hid H
  obtain ⟨t_2, qt_2, H⟩ := H
  go_wp2_with fail
  go_at_call 44
  refine (Go.Proofs.Ytbpjhmhnicfdfaa.GsL1In.C (n_0) (500) (2000)  _    qt_2).mono ?_
  rintro e_t_2 wt_2 ⟨rfl, bt_2⟩
  have HBwt_2 := Lib.hid (Below.step HB.out bt_2)
  clear bt_2
  obtain rfl := ret_hid H
  go_wp2_with fail
  go_ret
  exact ⟨rfl, HBwt_2.out⟩
end Go.Proofs.Ytbpjhmhnicfdfaa.GsL5Gauge

/- loop.example/g01062/spec.GaugeOf as a plain function, and the contract of the program's: where the plain one has an answer, the program has it. Conditions: slices read as lists. -/
namespace Go.Proofs.Ytbpjhmhnicfdfaa.GsGaugeOf
set_option linter.unusedVariables false
set_option linter.unusedSimpArgs false
open Go.RowKit
open Go.Proofs.Ytbpjhmhnicfdfaa.Rowed Go.Proofs.Ytbpjhmhnicfdfaa.Turn Go.Proofs.Ytbpjhmhnicfdfaa.Aid Go.Proofs.Ytbpjhmhnicfdfaa.GoP Go.Proofs.Ytbpjhmhnicfdfaa.GoM

def P (holes : (List Int)) : Option (Int × Bool) :=
  Option.bind (Go.Proofs.Ytbpjhmhnicfdfaa.GsL5Holes.P holes) fun (t_3 : Bool) =>
  letK (!t_3) fun (t_4 : Bool) =>
  iteK t_4
  (some (0, false))
  (letK (IntKind.i64.wrap ((holes.length : Int) - 1)) fun (t_9 : Int) =>
  letK (IntKind.i64.wrap (200000 * t_9)) fun (t_10 : Int) =>
  letK (IntKind.i64.wrap ((holes.length : Int) - 1)) fun (t_14 : Int) =>
  Option.bind (idx holes t_14) fun (yt_15 : Int) =>
  Option.bind (idx holes 0) fun (yt_18 : Int) =>
  letK (IntKind.i64.wrap (yt_15 - yt_18)) fun (t_20 : Int) =>
  guardK (¬ (t_20 = 0)) <|
  letK (IntKind.i64.wrap (Int.tdiv t_10 t_20)) fun (t_21 : Int) =>
  Option.bind (Go.Proofs.Ytbpjhmhnicfdfaa.GsL5Gauge.P t_21) fun (t_24 : Bool) =>
  letK (!t_24) fun (t_25 : Bool) =>
  iteK t_25
  (some (0, false))
  (some (t_21, true)))

set_option maxRecDepth 100000 in
set_option maxHeartbeats 2000000 in
theorem C (holes : (List Int)) (A0 : Option Addr) (c0 : Nat)  (w : World) (M0 : Hid (Cells w 1 A0 holes.length (Go.Proofs.Ytbpjhmhnicfdfaa.HelpInt.iv holes))) (N0 : Hid (holes.length ≤ 9223372036854775807))  {r0 : Int} {r1 : Bool} (H : Hid (P holes = some (r0, r1))) :
    Calls Try.prog 8 #[.slice A0 holes.length c0] w (Gives (.tuple #[.int .i64 r0, .bool r1]) w) := by
  have HB := Lib.hid (Below.refl w.heap.size w)
  unfold P at H
  have N0o := N0.out
  go_enter Try.func8, Try.ntmps8
  replace H := bind_hid H
  obtain ⟨t_3, qt_3, H⟩ := H
  go_wp2_with fail
  go_at_call 33
  refine (Go.Proofs.Ytbpjhmhnicfdfaa.GsL5Holes.C (holes) A0 c0 _   (Lib.hid (Cells.below M0.out HB.out)) N0 qt_3).mono ?_
  rintro e_t_3 wt_3 ⟨rfl, bt_3⟩
  have HBwt_3 := Lib.hid (Below.step HB.out bt_3)
  clear bt_3
  cases t_3 with
  | false =>
    replace H := let_hid H
    obtain ⟨t_4, ht_4, H⟩ := H
    obtain rfl : t_4 = true := ht_4.symm
    replace H := ite_t H
    cases ret_hid H
    go_wp2_with fail
    go_ret2
    exact ⟨rfl, HBwt_3.out⟩
  | true =>
    replace H := let_hid H
    obtain ⟨t_4, ht_4, H⟩ := H
    obtain rfl : t_4 = false := ht_4.symm
    replace H := ite_f H
    go_wp2_with fail
    replace H := let_hid H
    obtain ⟨t_9, ht_9, H⟩ := H
    replace H := let_hid H
    obtain ⟨t_10, ht_10, H⟩ := H
    replace H := let_hid H
    obtain ⟨t_14, ht_14, H⟩ := H
    obtain rfl := ht_9.symm.trans ht_14
    replace H := idx_hid H
    obtain ⟨nt_15, yt_15, et_15, lt_15, gt_15, H⟩ := H
    subst et_15
    obtain ⟨ab_t_15, ao_t_15, zt_15, At_15, z_t_15, ct_15_0⟩ := Go.Proofs.Ytbpjhmhnicfdfaa.HelpInt.Ints.at_ M0.out lt_15
    obtain rfl := Option.some.inj (gt_15.out.symm.trans z_t_15)
    subst At_15
    have ltt_15 := cell_lt ct_15_0
    replace ct_15_0 := cell_below HBwt_3.out ct_15_0
    clear z_t_15
    have b0t_15 : (0 : Int) ≤ (nt_15 : Int) := by omega
    have b1t_15 : (nt_15 : Int) < ((holes.length : Nat) : Int) := by omega
    have b2t_15 : ((nt_15 : Int)).toNat = nt_15 := by omega
    have Hct_15_0 := Lib.hid ct_15_0
    replace ct_15_0 := cell_regrown ct_15_0
    replace H := idx_hid H
    obtain ⟨nt_18, yt_18, et_18, lt_18, gt_18, H⟩ := H
    obtain rfl : 0 = nt_18 := by omega
    clear et_18
    obtain ⟨ab_t_18, ao_t_18, zt_18, At_18, z_t_18, ct_18_0⟩ := Go.Proofs.Ytbpjhmhnicfdfaa.HelpInt.Ints.at_ M0.out lt_18
    obtain rfl := Option.some.inj (gt_18.out.symm.trans z_t_18)
    simp only [Option.some.injEq, Addr.mk.injEq] at At_18
    obtain ⟨rfl, rfl, _⟩ := At_18
    have ltt_18 := cell_lt ct_18_0
    replace ct_18_0 := cell_below HBwt_3.out ct_18_0
    clear z_t_18
    have b1t_18 : (0 : Int) < ((holes.length : Nat) : Int) := by omega
    have b3t_18 : 0 < holes.length := by omega
    try simp only [Nat.zero_mul, Nat.add_zero, Nat.zero_add, Nat.reduceMul] at ct_18_0
    have Hct_18_0 := Lib.hid ct_18_0
    replace ct_18_0 := cell_regrown ct_18_0
    replace H := let_hid H
    obtain ⟨t_20, ht_20, H⟩ := H
    replace H := guard_hid H
    obtain ⟨hz_t_21, H⟩ := H
    replace H := let_hid H
    obtain ⟨t_21, ht_21, H⟩ := H
    refine wp_region_quiet_below (by kernel_rfl) (by kernel_rfl) ?_
    repeat (go_big_quiet_step (fail))
    refine wpQuiet_nil ?_
    intro Y3 hY3
    replace hY3 := below_class hY3
    replace ct_15_0 := Hct_15_0.out
    clear Hct_15_0
    replace ct_18_0 := Hct_18_0.out
    clear Hct_18_0
    have HBY3 := Lib.hid (Below.step HBwt_3.out hY3)
    replace ct_15_0 := cell_below hY3 ct_15_0
    replace ct_18_0 := cell_below hY3 ct_18_0
    clear hY3
    replace H := bind_hid H
    obtain ⟨t_24, qt_24, H⟩ := H
    go_wp2_with fail
    go_at_call 34
    refine (Go.Proofs.Ytbpjhmhnicfdfaa.GsL5Gauge.C (t_21)  _    qt_24).mono ?_
    rintro e_t_24 wt_24 ⟨rfl, bt_24⟩
    have HBwt_24 := Lib.hid (Below.step HBY3.out bt_24)
    replace ct_15_0 := cell_below bt_24 ct_15_0
    replace ct_18_0 := cell_below bt_24 ct_18_0
    clear bt_24
    cases t_24 with
    | false =>
      replace H := let_hid H
      obtain ⟨t_25, ht_25, H⟩ := H
      obtain rfl : t_25 = true := ht_25.symm
      replace H := ite_t H
      cases ret_hid H
      go_wp2_with fail
      go_ret2
      exact ⟨rfl, HBwt_24.out⟩
    | true =>
      replace H := let_hid H
      obtain ⟨t_25, ht_25, H⟩ := H
      obtain rfl : t_25 = false := ht_25.symm
      replace H := ite_f H
      cases ret_hid H
      go_wp2_with fail
      go_ret2
      exact ⟨rfl, HBwt_24.out⟩
end Go.Proofs.Ytbpjhmhnicfdfaa.GsGaugeOf

/- An append onto a row of its own as one step of a region that draws its order. No condition. -/
namespace Go.Proofs.Ytbpjhmhnicfdfaa.GoH
set_option linter.unusedVariables false
theorem step_append_own {P : Program} {w : World} {ops : Array Oper} {o : Oper} {a : Act} {K : Act → World → Prop} {Q : Exit → Act → World → Prop} {E : Prop} (hgd : o.guard = none) (s x : Operand) (t : TypeId)
    (ho : o.op = .call { callee := .builtin .append, args := #[s, x], argTypes := #[t, t] })
    (base : Nat) (e : TypeId) (i : TypeInfo) (z : Value) (size bytes : Nat) (ht : P.underlying t = some (.slice e)) (hi : P.info? e = some i) (hz : i.zero = some z)
    (hsize : i.size = size) (hby : i.bytes = bytes) (hzs : z.cells.size = size) (hsz : 0 < size)
    (A : Option Addr) (c n : Nat) (xs : List Value) (hs : a.eval s = .slice A n c) (hown : w.ownsRow base e size (.slice A n c) n xs)
    (ad : Addr) (cc : Nat) (news : List Value) (hx : a.eval x = .slice (some ad) 1 cc) (hl : news.length = 1 * size) (hnews : ∀ j u, news[j]? = some u → w.cell? (ad.add j) = some u) (h1 : ∀ u ∈ news, u.oneCell' = true)
    (h63 : n + 1 ≤ maxLen) (hbytes : (n + 1) * bytes ≤ 140737488355328) (hbase : base ≤ w.heap.size)
    (h : ∀ v' w', w'.ownsRow base e size v' (n + 1) (xs ++ news) → w.grownBy w' (Value.slice A n c).ownBlock → (v'.ownBlock = (Value.slice A n c).ownBlock ∨ v'.ownBlock = some w.heap.size) → K (a.put o.dst v') w') :
    if Region.wanted o (yielded ops a.tmps) = true then Oper.wp P o a w K Q else E := by
  refine Go.step_append_lies w hgd s x t ho base e i z size bytes ht hi hz hsize hby hzs hsz (.slice A n c) n xs hs hown ad 1 cc news hx hl hnews h1 (by omega) h63 hbytes hbase w.heap.size rfl ?_
  intro g cap w' o1 g1 y1 _
  refine h _ w' o1 g1 ?_
  rcases y1 with y1 | y1
  · left; rw [y1]; rfl
  · right; rw [y1]; rfl
end Go.Proofs.Ytbpjhmhnicfdfaa.GoH

/- loop.example/g01062/impl.distances as a plain function, and the contract of the program's: where the plain one has an answer, the program has it. Conditions: slices read as lists. -/
namespace Go.Proofs.Ytbpjhmhnicfdfaa.GiDistances
set_option linter.unusedVariables false
set_option linter.unusedSimpArgs false
open Go.RowKit
open Go.Proofs.Ytbpjhmhnicfdfaa.Rowed Go.Proofs.Ytbpjhmhnicfdfaa.Turn Go.Proofs.Ytbpjhmhnicfdfaa.Aid Go.Proofs.Ytbpjhmhnicfdfaa.GoP Go.Proofs.Ytbpjhmhnicfdfaa.GoM

def l0 (holes : (List Int)) (s : (List Int) × Int) (nx0 bk0 : (List Int) × Int → Option ((List Int))) : Option ((List Int)) :=
  unp2 s fun list_3l0 i_4l0 =>
  letK (decide (i_4l0 < (holes.length : Int))) fun (t_7 : Bool) =>
  iteK t_7
  (Option.bind (idx holes i_4l0) fun (yt_11 : Int) =>
  letK (IntKind.i64.wrap (i_4l0 - 1)) fun (t_15 : Int) =>
  Option.bind (idx holes t_15) fun (yt_16 : Int) =>
  letK (IntKind.i64.wrap (yt_11 - yt_16)) fun (t_18 : Int) =>
  guardK (list_3l0.length ≤ 1099511627776) <|
  letK (list_3l0 ++ [t_18]) fun (t_20 : (List Int)) =>
  letK (IntKind.i64.wrap (i_4l0 + 1)) fun (t_23 : Int) =>
  appK nx0 (t_20, t_23))
  (appK bk0 (list_3l0, i_4l0))

def e0  (s : (List Int) × Int) : Option ((List Int)) :=
  unp2 s fun list_3l0 i_4l0 =>
  some list_3l0

def P (fuel : Nat) (holes : (List Int)) : Option ((List Int)) :=
  loopK (l0 holes) fuel (([] : List Int), 1) (e0 )

set_option maxRecDepth 100000 in
set_option maxHeartbeats 2000000 in
theorem C (fuel : Nat) (holes : (List Int)) (A0 : Option Addr) (c0 : Nat)  (w : World) (M0 : Hid (Cells w 1 A0 holes.length (Go.Proofs.Ytbpjhmhnicfdfaa.HelpInt.iv holes))) (N0 : Hid (holes.length ≤ 9223372036854775807))  {r : (List Int)} (H : Hid (P fuel holes = some r)) :
    Calls Try.prog 35 #[.slice A0 holes.length c0] w (fun e w' => ∃ A_r c_r, e = .returned (.slice A_r r.length c_r) ∧ w'.ownsRow w.heap.size 3 1 (.slice A_r r.length c_r) r.length (Go.Proofs.Ytbpjhmhnicfdfaa.HelpInt.iv r) ∧ Below w.heap.size w w') := by
  have HB := Lib.hid (Below.refl w.heap.size w)
  unfold P at H
  have N0o := N0.out
  obtain ⟨i0_3, hi_3, hz0_3, hz1_3, hz2_3⟩ := Aid.info_parts (P := Try.prog) (T := 3) (z := .int .i64 0) (s := 1) (b := 8) (by kernel_rfl)
  go_enter Try.func35, Try.ntmps35
  obtain ⟨w_t_1, hw_t_1⟩ : ∃ x, w.alloc (.cells #[] 3) = x := ⟨_, rfl⟩
  have bw_t_1 : Below w.heap.size w w_t_1 := by rw [← hw_t_1]; exact (Below.refl _ _).alloc (Nat.le_refl _) _
  have Ot_1 : Hid (w_t_1.ownsRow w.heap.size 3 1 (.slice (some ⟨w.heap.size, 0, none⟩) 0 0) 0 []) := Lib.hid (by rw [← hw_t_1]; exact own_empty HB.out.size)
  have HBw_t_1 := Lib.hid (Below.step HB.out bw_t_1)
  clear bw_t_1
  go_wp2_with fail
  go_loopg [3, 4] (fuel) (fun m_ v3_ v4_ wr => ∃ (list_3l0 : (List Int)) (i_4l0 : Int) (Alist_3l0 : Option Addr) (clist_3l0 : Nat), v3_ = .slice Alist_3l0 list_3l0.length clist_3l0 ∧ v4_ = .int .i64 i_4l0 ∧ Hid (loopK (l0 holes) m_ (list_3l0, i_4l0) (e0 ) = some r) ∧ Hid (Below w.heap.size w wr) ∧ Hid (wr.ownsRow w.heap.size 3 1 (.slice Alist_3l0 list_3l0.length clist_3l0) list_3l0.length (Go.Proofs.Ytbpjhmhnicfdfaa.HelpInt.iv list_3l0)))
  case atStart => exact ⟨_, _, _, _, rfl, rfl, H, HBw_t_1, Ot_1⟩
  case round =>
    obtain ⟨list_3l0, i_4l0, Alist_3l0, clist_3l0, rfl, rfl, H, HBwr0, Olist_3l0⟩ := hrel
    rename World => wr0
    cases gk with
    | zero => exact (loop_zero H).elim
    | succ m0 =>
      replace H := loop_succ H
      unfold l0 at H
      replace H := unp2_hid H
      replace H := let_hid H
      obtain ⟨t_7, ht_7, H⟩ := H
      cases t_7 with
      | false =>
        replace H := ite_f H
        replace H := app_hid H
        unfold e0 at H
        replace H := unp2_hid H
        obtain rfl := ret_hid H
        go_wp2_with fail
        go_ret
        exact ⟨Alist_3l0, clist_3l0, rfl, Olist_3l0.out, HBwr0.out⟩
      | true =>
        replace H := ite_t H
        go_wp2_with fail
        have bd5 : Below wr0.heap.size wr0 wr0.drew := (Below.refl _ _).drew
        have HBwr0.drew := Lib.hid (Below.step HBwr0.out bd5)
        replace Olist_3l0 := Lib.hid (own_below Olist_3l0.out bd5)
        clear bd5
        replace H := idx_hid H
        obtain ⟨nt_11, yt_11, et_11, lt_11, gt_11, H⟩ := H
        subst et_11
        have nc_1 : nt_11 < holes.length := by have := of_decide_eq_true ht_7; omega
        obtain ⟨ab_t_11, ao_t_11, zt_11, At_11, z_t_11, ct_11_0⟩ := Go.Proofs.Ytbpjhmhnicfdfaa.HelpInt.Ints.at_ M0.out lt_11
        obtain rfl := Option.some.inj (gt_11.out.symm.trans z_t_11)
        subst At_11
        have ltt_11 := cell_lt ct_11_0
        replace ct_11_0 := cell_below HBwr0.drew.out ct_11_0
        clear z_t_11
        have b0t_11 : (0 : Int) ≤ (nt_11 : Int) := by omega
        have b1t_11 : (nt_11 : Int) < ((holes.length : Nat) : Int) := by omega
        have b2t_11 : ((nt_11 : Int)).toNat = nt_11 := by omega
        replace H := let_hid H
        obtain ⟨t_15, ht_15, H⟩ := H
        replace H := idx_hid H
        obtain ⟨nt_16, yt_16, et_16, lt_16, gt_16, H⟩ := H
        subst et_16
        obtain ⟨ab_t_16, ao_t_16, zt_16, At_16, z_t_16, ct_16_0⟩ := Go.Proofs.Ytbpjhmhnicfdfaa.HelpInt.Ints.at_ M0.out lt_16
        obtain rfl := Option.some.inj (gt_16.out.symm.trans z_t_16)
        simp only [Option.some.injEq, Addr.mk.injEq] at At_16
        obtain ⟨rfl, rfl, _⟩ := At_16
        have ltt_16 := cell_lt ct_16_0
        replace ct_16_0 := cell_below HBwr0.drew.out ct_16_0
        clear z_t_16
        have b0t_16 : (0 : Int) ≤ (nt_16 : Int) := by omega
        have b1t_16 : (nt_16 : Int) < ((holes.length : Nat) : Int) := by omega
        have b2t_16 : ((nt_16 : Int)).toNat = nt_16 := by omega
        replace H := let_hid H
        obtain ⟨t_18, ht_18, H⟩ := H
        obtain ⟨w_t_19, hw_t_19⟩ : ∃ x, wr0.drew.alloc (.cells #[.int .i64 t_18] 3) = x := ⟨_, rfl⟩
        have bw_t_19 : Below wr0.drew.heap.size wr0.drew w_t_19 := by rw [← hw_t_19]; exact (Below.refl _ _).alloc (Nat.le_refl _) _
        have HBw_t_19 := Lib.hid (Below.step HBwr0.drew.out bw_t_19)
        have ct_11_0__2 := cell_below bw_t_19 ct_11_0
        have ct_16_0__3 := cell_below bw_t_19 ct_16_0
        replace Olist_3l0 := Lib.hid (own_below Olist_3l0.out bw_t_19)
        clear bw_t_19
        replace H := guard_hid H
        obtain ⟨hlt_20, H⟩ := H
        replace H := let_hid H
        obtain ⟨t_20, ht_20, H⟩ := H
        have hht_20 := Lib.hid ht_20
        clear ht_20
        go_region_held3 (fun w' => w'.cell? ⟨ab_t_11, ao_t_11 + nt_11, none⟩ = some (.int .i64 yt_11) ∧ w'.cell? ⟨ab_t_11, ao_t_11 + nt_16, none⟩ = some (.int .i64 yt_16)) (first | exact ⟨ct_11_0, ct_16_0⟩ | exact ⟨ct_11_0__2, ct_16_0__3⟩)
            (first
              | (have hst_20 := HBw_t_19.out.size
                 have h1t_20 : list_3l0.length + 1 ≤ maxLen := by unfold maxLen; omega
                 have h2t_20 : (list_3l0.length + 1) * 8 ≤ 140737488355328 := by omega
                 have h3t_20 := news_new hw_t_19
                 refine Go.Proofs.Ytbpjhmhnicfdfaa.GoH.step_append_own (w := w_t_19) rfl (.tmp 12) (.tmp 23) 24 rfl w.heap.size 3 i0_3 (.int .i64 0) 1 8 Try.underlying24 hi_3 hz0_3 hz1_3 hz2_3 rfl (by decide) Alist_3l0 clist_3l0 list_3l0.length _ rfl Olist_3l0.out ⟨wr0.drew.heap.size, 0, none⟩ 1 [.int .i64 t_18] rfl rfl h3t_20 (one_cells rfl) h1t_20 h2t_20 hst_20 ?_
                 intro vt_20 wt_20 ot_20 gt_20 yt_20
                 obtain ⟨qt_20, ct_20, rfl, pt_20⟩ := own_push hht_20.out (Go.Proofs.Ytbpjhmhnicfdfaa.HelpInt.iv_snoc _ _) rfl ot_20
                 have Pt_20 := Lib.hid pt_20
                 have Yt_20 := Lib.hid yt_20
                 have Gt_20 := Lib.hid gt_20
                 clear ot_20 gt_20 pt_20 yt_20
                 have HBwt_20 := Lib.hid (HBw_t_19.out.grown Gt_20.out hst_20 (fun q hq => (Olist_3l0.out.lt q hq).1))
                 clear hst_20
                 replace ct_11_0__2 := cell_other ct_11_0__2 Gt_20.out (apart_old Olist_3l0.out ltt_11)
                 replace ct_16_0__3 := cell_other ct_16_0__3 Gt_20.out (apart_old Olist_3l0.out ltt_16)
                 clear ct_11_0 ct_16_0
                 clear Olist_3l0 Yt_20 Gt_20))
        replace H := let_hid H
        obtain ⟨t_23, ht_23, H⟩ := H
        replace H := app_hid H
        go_wp2_with fail
        go_roundg m0
        case measure => omega
        case rel => exact ⟨_, _, _, _, rfl, rfl, H, HBwt_20, Pt_20⟩
end Go.Proofs.Ytbpjhmhnicfdfaa.GiDistances

/- slices.Max[[]int,int] as a plain function, and the contract of the program's: where the plain one has an answer, the program has it. Conditions: slices read as lists. -/
namespace Go.Proofs.Ytbpjhmhnicfdfaa.GxSlicesMaxIntInt
set_option linter.unusedVariables false
set_option linter.unusedSimpArgs false
open Go.RowKit
open Go.Proofs.Ytbpjhmhnicfdfaa.Rowed Go.Proofs.Ytbpjhmhnicfdfaa.Turn Go.Proofs.Ytbpjhmhnicfdfaa.Aid Go.Proofs.Ytbpjhmhnicfdfaa.GoP Go.Proofs.Ytbpjhmhnicfdfaa.GoM

def l0 (x : (List Int)) (s : Int × Int) (nx0 bk0 : Int × Int → Option (Int)) : Option (Int) :=
  unp2 s fun m_3l0 i_4l0 =>
  letK (decide (i_4l0 < (x.length : Int))) fun (t_14 : Bool) =>
  iteK t_14
  (Option.bind (idx x i_4l0) fun (yt_18 : Int) =>
  letK (max m_3l0 yt_18) fun (t_20 : Int) =>
  letK (IntKind.i64.wrap (i_4l0 + 1)) fun (t_23 : Int) =>
  appK nx0 (t_20, t_23))
  (appK bk0 (m_3l0, i_4l0))

def e0  (s : Int × Int) : Option (Int) :=
  unp2 s fun m_3l0 i_4l0 =>
  some m_3l0

def j0 (x : (List Int)) (fuel : Nat) (s : Unit) : Option (Int) :=
  Option.bind (idx x 0) fun (yt_7 : Int) =>
  loopK (l0 x) fuel (yt_7, 1) (e0 )

def P (fuel : Nat) (x : (List Int)) : Option (Int) :=
  letK (decide ((x.length : Int) < 1)) fun (t_3 : Bool) =>
  iteK t_3
  (none)
  (j0 x fuel ())

set_option maxRecDepth 100000 in
set_option maxHeartbeats 2000000 in
theorem C (fuel : Nat) (x : (List Int)) (A0 : Option Addr) (c0 : Nat)  (w : World) (M0 : Hid (Cells w 1 A0 x.length (Go.Proofs.Ytbpjhmhnicfdfaa.HelpInt.iv x))) (N0 : Hid (x.length ≤ 9223372036854775807))  {r : Int} (H : Hid (P fuel x = some r)) :
    Calls Try.prog 36 #[.slice A0 x.length c0] w (Gives (.int .i64 r) w) := by
  have HB := Lib.hid (Below.refl w.heap.size w)
  unfold P at H
  have N0o := N0.out
  go_enter Try.func36, Try.ntmps36
  replace H := let_hid H
  obtain ⟨t_3, ht_3, H⟩ := H
  cases t_3 with
  | false =>
    have nht_3 : ¬ (x.length < 1) := by have := of_decide_eq_false ht_3; omega
    replace H := ite_f H
    unfold j0 at H
    replace H := idx_hid H
    obtain ⟨nt_7, yt_7, et_7, lt_7, gt_7, H⟩ := H
    obtain rfl : 0 = nt_7 := by omega
    clear et_7
    obtain ⟨ab_t_7, ao_t_7, zt_7, At_7, z_t_7, ct_7_0⟩ := Go.Proofs.Ytbpjhmhnicfdfaa.HelpInt.Ints.at_ M0.out lt_7
    obtain rfl := Option.some.inj (gt_7.out.symm.trans z_t_7)
    subst At_7
    have ltt_7 := cell_lt ct_7_0
    replace ct_7_0 := cell_below HB.out ct_7_0
    clear z_t_7
    have b1t_7 : (0 : Int) < ((x.length : Nat) : Int) := by omega
    have b3t_7 : 0 < x.length := by omega
    try simp only [Nat.zero_mul, Nat.add_zero, Nat.zero_add, Nat.reduceMul] at ct_7_0
    go_wp2_with fail
    go_loopg [3, 4] (fuel) (fun m_ v3_ v4_ wr => ∃ (m_3l0 : Int) (i_4l0 : Int), v3_ = .int .i64 m_3l0 ∧ v4_ = .int .i64 i_4l0 ∧ Hid (loopK (l0 x) m_ (m_3l0, i_4l0) (e0 ) = some r) ∧ Hid (Below w.heap.size w wr))
    case atStart => exact ⟨_, _, rfl, rfl, H, HB⟩
    case round =>
      obtain ⟨m_3l0, i_4l0, rfl, rfl, H, HBwr0⟩ := hrel
      rename World => wr0
      cases gk with
      | zero => exact (loop_zero H).elim
      | succ m0 =>
        replace H := loop_succ H
        unfold l0 at H
        replace H := unp2_hid H
        replace H := let_hid H
        obtain ⟨t_14, ht_14, H⟩ := H
        cases t_14 with
        | false =>
          replace H := ite_f H
          replace H := app_hid H
          unfold e0 at H
          replace H := unp2_hid H
          obtain rfl := ret_hid H
          go_wp2_with fail
          go_ret
          exact ⟨rfl, HBwr0.out⟩
        | true =>
          replace H := ite_t H
          replace H := idx_hid H
          obtain ⟨nt_18, yt_18, et_18, lt_18, gt_18, H⟩ := H
          subst et_18
          have nc_4 : nt_18 < x.length := by have := of_decide_eq_true ht_14; omega
          obtain ⟨ab_t_18, ao_t_18, zt_18, At_18, z_t_18, ct_18_0⟩ := Go.Proofs.Ytbpjhmhnicfdfaa.HelpInt.Ints.at_ M0.out lt_18
          obtain rfl := Option.some.inj (gt_18.out.symm.trans z_t_18)
          simp only [Option.some.injEq, Addr.mk.injEq] at At_18
          obtain ⟨rfl, rfl, _⟩ := At_18
          have ltt_18 := cell_lt ct_18_0
          replace ct_18_0 := cell_below HBwr0.out ct_18_0
          clear z_t_18
          have b0t_18 : (0 : Int) ≤ (nt_18 : Int) := by omega
          have b1t_18 : (nt_18 : Int) < ((x.length : Nat) : Int) := by omega
          have b2t_18 : ((nt_18 : Int)).toNat = nt_18 := by omega
          replace H := let_hid H
          obtain ⟨t_20, ht_20, H⟩ := H
          replace H := let_hid H
          obtain ⟨t_23, ht_23, H⟩ := H
          replace H := app_hid H
          go_wp2_with fail
          go_roundg m0
          case measure => omega
          case rel => exact ⟨_, _, rfl, rfl, H, HBwr0⟩
  | true =>
    have nht_3 : x.length < 1 := by have := of_decide_eq_true ht_3; omega
    replace H := ite_t H
    exact (none_hid H).elim
end Go.Proofs.Ytbpjhmhnicfdfaa.GxSlicesMaxIntInt

/- slices.Min[[]int,int] as a plain function, and the contract of the program's: where the plain one has an answer, the program has it. Conditions: slices read as lists. -/
namespace Go.Proofs.Ytbpjhmhnicfdfaa.GxSlicesMinIntInt
set_option linter.unusedVariables false
set_option linter.unusedSimpArgs false
open Go.RowKit
open Go.Proofs.Ytbpjhmhnicfdfaa.Rowed Go.Proofs.Ytbpjhmhnicfdfaa.Turn Go.Proofs.Ytbpjhmhnicfdfaa.Aid Go.Proofs.Ytbpjhmhnicfdfaa.GoP Go.Proofs.Ytbpjhmhnicfdfaa.GoM

def l0 (x : (List Int)) (s : Int × Int) (nx0 bk0 : Int × Int → Option (Int)) : Option (Int) :=
  unp2 s fun m_3l0 i_4l0 =>
  letK (decide (i_4l0 < (x.length : Int))) fun (t_14 : Bool) =>
  iteK t_14
  (Option.bind (idx x i_4l0) fun (yt_18 : Int) =>
  letK (min m_3l0 yt_18) fun (t_20 : Int) =>
  letK (IntKind.i64.wrap (i_4l0 + 1)) fun (t_23 : Int) =>
  appK nx0 (t_20, t_23))
  (appK bk0 (m_3l0, i_4l0))

def e0  (s : Int × Int) : Option (Int) :=
  unp2 s fun m_3l0 i_4l0 =>
  some m_3l0

def j0 (x : (List Int)) (fuel : Nat) (s : Unit) : Option (Int) :=
  Option.bind (idx x 0) fun (yt_7 : Int) =>
  loopK (l0 x) fuel (yt_7, 1) (e0 )

def P (fuel : Nat) (x : (List Int)) : Option (Int) :=
  letK (decide ((x.length : Int) < 1)) fun (t_3 : Bool) =>
  iteK t_3
  (none)
  (j0 x fuel ())

set_option maxRecDepth 100000 in
set_option maxHeartbeats 2000000 in
theorem C (fuel : Nat) (x : (List Int)) (A0 : Option Addr) (c0 : Nat)  (w : World) (M0 : Hid (Cells w 1 A0 x.length (Go.Proofs.Ytbpjhmhnicfdfaa.HelpInt.iv x))) (N0 : Hid (x.length ≤ 9223372036854775807))  {r : Int} (H : Hid (P fuel x = some r)) :
    Calls Try.prog 37 #[.slice A0 x.length c0] w (Gives (.int .i64 r) w) := by
  have HB := Lib.hid (Below.refl w.heap.size w)
  unfold P at H
  have N0o := N0.out
  go_enter Try.func37, Try.ntmps37
  replace H := let_hid H
  obtain ⟨t_3, ht_3, H⟩ := H
  cases t_3 with
  | false =>
    have nht_3 : ¬ (x.length < 1) := by have := of_decide_eq_false ht_3; omega
    replace H := ite_f H
    unfold j0 at H
    replace H := idx_hid H
    obtain ⟨nt_7, yt_7, et_7, lt_7, gt_7, H⟩ := H
    obtain rfl : 0 = nt_7 := by omega
    clear et_7
    obtain ⟨ab_t_7, ao_t_7, zt_7, At_7, z_t_7, ct_7_0⟩ := Go.Proofs.Ytbpjhmhnicfdfaa.HelpInt.Ints.at_ M0.out lt_7
    obtain rfl := Option.some.inj (gt_7.out.symm.trans z_t_7)
    subst At_7
    have ltt_7 := cell_lt ct_7_0
    replace ct_7_0 := cell_below HB.out ct_7_0
    clear z_t_7
    have b1t_7 : (0 : Int) < ((x.length : Nat) : Int) := by omega
    have b3t_7 : 0 < x.length := by omega
    try simp only [Nat.zero_mul, Nat.add_zero, Nat.zero_add, Nat.reduceMul] at ct_7_0
    go_wp2_with fail
    go_loopg [3, 4] (fuel) (fun m_ v3_ v4_ wr => ∃ (m_3l0 : Int) (i_4l0 : Int), v3_ = .int .i64 m_3l0 ∧ v4_ = .int .i64 i_4l0 ∧ Hid (loopK (l0 x) m_ (m_3l0, i_4l0) (e0 ) = some r) ∧ Hid (Below w.heap.size w wr))
    case atStart => exact ⟨_, _, rfl, rfl, H, HB⟩
    case round =>
      obtain ⟨m_3l0, i_4l0, rfl, rfl, H, HBwr0⟩ := hrel
      rename World => wr0
      cases gk with
      | zero => exact (loop_zero H).elim
      | succ m0 =>
        replace H := loop_succ H
        unfold l0 at H
        replace H := unp2_hid H
        replace H := let_hid H
        obtain ⟨t_14, ht_14, H⟩ := H
        cases t_14 with
        | false =>
          replace H := ite_f H
          replace H := app_hid H
          unfold e0 at H
          replace H := unp2_hid H
          obtain rfl := ret_hid H
          go_wp2_with fail
          go_ret
          exact ⟨rfl, HBwr0.out⟩
        | true =>
          replace H := ite_t H
          replace H := idx_hid H
          obtain ⟨nt_18, yt_18, et_18, lt_18, gt_18, H⟩ := H
          subst et_18
          have nc_5 : nt_18 < x.length := by have := of_decide_eq_true ht_14; omega
          obtain ⟨ab_t_18, ao_t_18, zt_18, At_18, z_t_18, ct_18_0⟩ := Go.Proofs.Ytbpjhmhnicfdfaa.HelpInt.Ints.at_ M0.out lt_18
          obtain rfl := Option.some.inj (gt_18.out.symm.trans z_t_18)
          simp only [Option.some.injEq, Addr.mk.injEq] at At_18
          obtain ⟨rfl, rfl, _⟩ := At_18
          have ltt_18 := cell_lt ct_18_0
          replace ct_18_0 := cell_below HBwr0.out ct_18_0
          clear z_t_18
          have b0t_18 : (0 : Int) ≤ (nt_18 : Int) := by omega
          have b1t_18 : (nt_18 : Int) < ((x.length : Nat) : Int) := by omega
          have b2t_18 : ((nt_18 : Int)).toNat = nt_18 := by omega
          replace H := let_hid H
          obtain ⟨t_20, ht_20, H⟩ := H
          replace H := let_hid H
          obtain ⟨t_23, ht_23, H⟩ := H
          replace H := app_hid H
          go_wp2_with fail
          go_roundg m0
          case measure => omega
          case rel => exact ⟨_, _, rfl, rfl, H, HBwr0⟩
  | true =>
    have nht_3 : x.length < 1 := by have := of_decide_eq_true ht_3; omega
    replace H := ite_t H
    exact (none_hid H).elim
end Go.Proofs.Ytbpjhmhnicfdfaa.GxSlicesMinIntInt

/- loop.example/g01062/impl.AreEven as a plain function, and the contract of the program's: where the plain one has an answer, the program has it. Conditions: slices read as lists. -/
namespace Go.Proofs.Ytbpjhmhnicfdfaa.GiAreEven
set_option linter.unusedVariables false
set_option linter.unusedSimpArgs false
open Go.RowKit
open Go.Proofs.Ytbpjhmhnicfdfaa.Rowed Go.Proofs.Ytbpjhmhnicfdfaa.Turn Go.Proofs.Ytbpjhmhnicfdfaa.Aid Go.Proofs.Ytbpjhmhnicfdfaa.GoP Go.Proofs.Ytbpjhmhnicfdfaa.GoM

def P (fuel : Nat) (holes : (List Int)) : Option (Bool × Bool) :=
  Option.bind (Go.Proofs.Ytbpjhmhnicfdfaa.GiAreHoles.P holes) fun (t_3 : Bool) =>
  letK (!t_3) fun (t_4 : Bool) =>
  iteK t_4
  (some (false, false))
  (Option.bind (Go.Proofs.Ytbpjhmhnicfdfaa.GiDistances.P fuel holes) fun (t_8 : (List Int)) =>
  Option.bind (Go.Proofs.Ytbpjhmhnicfdfaa.GxSlicesMaxIntInt.P fuel t_8) fun (t_11 : Int) =>
  Option.bind (Go.Proofs.Ytbpjhmhnicfdfaa.GxSlicesMinIntInt.P fuel t_8) fun (t_13 : Int) =>
  letK (IntKind.i64.wrap (t_11 - t_13)) fun (t_14 : Int) =>
  letK (decide (t_14 ≤ 10)) fun (t_15 : Bool) =>
  some (t_15, true))

set_option maxRecDepth 100000 in
set_option maxHeartbeats 2000000 in
theorem C (fuel : Nat) (holes : (List Int)) (A0 : Option Addr) (c0 : Nat)  (w : World) (M0 : Hid (Cells w 1 A0 holes.length (Go.Proofs.Ytbpjhmhnicfdfaa.HelpInt.iv holes))) (N0 : Hid (holes.length ≤ 9223372036854775807))  {r0 : Bool} {r1 : Bool} (H : Hid (P fuel holes = some (r0, r1))) :
    Calls Try.prog 9 #[.slice A0 holes.length c0] w (Gives (.tuple #[.bool r0, .bool r1]) w) := by
  have HB := Lib.hid (Below.refl w.heap.size w)
  unfold P at H
  have N0o := N0.out
  go_enter Try.func9, Try.ntmps9
  replace H := bind_hid H
  obtain ⟨t_3, qt_3, H⟩ := H
  go_wp2_with fail
  go_at_call 31
  refine (Go.Proofs.Ytbpjhmhnicfdfaa.GiAreHoles.C (holes) A0 c0 _   (Lib.hid (Cells.below M0.out HB.out)) N0 qt_3).mono ?_
  rintro e_t_3 wt_3 ⟨rfl, bt_3⟩
  have HBwt_3 := Lib.hid (Below.step HB.out bt_3)
  clear bt_3
  cases t_3 with
  | false =>
    replace H := let_hid H
    obtain ⟨t_4, ht_4, H⟩ := H
    obtain rfl : t_4 = true := ht_4.symm
    replace H := ite_t H
    cases ret_hid H
    go_wp2_with fail
    go_ret2
    exact ⟨rfl, HBwt_3.out⟩
  | true =>
    replace H := let_hid H
    obtain ⟨t_4, ht_4, H⟩ := H
    obtain rfl : t_4 = false := ht_4.symm
    replace H := ite_f H
    replace H := bind_hid H
    obtain ⟨t_8, qt_8, H⟩ := H
    go_wp2_with fail
    go_at_call 35
    refine (Go.Proofs.Ytbpjhmhnicfdfaa.GiDistances.C fuel (holes) A0 c0 _   (Lib.hid (Cells.below M0.out HBwt_3.out)) N0 qt_8).mono ?_
    rintro e_t_8 wt_8 ⟨At_8, ct_8, rfl, ot_8, bt_8⟩
    have Ot_8 := Lib.hid (own_lower ot_8 HBwt_3.out.size)
    clear ot_8
    have HBwt_8 := Lib.hid (Below.step HBwt_3.out bt_8)
    clear bt_8
    replace H := bind_hid H
    obtain ⟨t_11, qt_11, H⟩ := H
    go_wp2_with fail
    go_at_call 36
    refine (Go.Proofs.Ytbpjhmhnicfdfaa.GxSlicesMaxIntInt.C fuel (t_8) At_8 ct_8 _   (Lib.hid (own_cells Ot_8.out)) (Lib.hid (own_max Ot_8.out)) qt_11).mono ?_
    rintro e_t_11 wt_11 ⟨rfl, bt_11⟩
    have HBwt_11 := Lib.hid (Below.step HBwt_8.out bt_11)
    replace Ot_8 := Lib.hid (own_below Ot_8.out bt_11)
    clear bt_11
    replace H := bind_hid H
    obtain ⟨t_13, qt_13, H⟩ := H
    go_wp2_with fail
    go_at_call 37
    refine (Go.Proofs.Ytbpjhmhnicfdfaa.GxSlicesMinIntInt.C fuel (t_8) At_8 ct_8 _   (Lib.hid (own_cells Ot_8.out)) (Lib.hid (own_max Ot_8.out)) qt_13).mono ?_
    rintro e_t_13 wt_13 ⟨rfl, bt_13⟩
    have HBwt_13 := Lib.hid (Below.step HBwt_11.out bt_13)
    replace Ot_8 := Lib.hid (own_below Ot_8.out bt_13)
    clear bt_13
    replace H := let_hid H
    obtain ⟨t_14, ht_14, H⟩ := H
    replace H := let_hid H
    obtain ⟨t_15, ht_15, H⟩ := H
    cases ret_hid H
    go_wp2_with fail
    go_ret2
    exact ⟨rfl, HBwt_13.out⟩
end Go.Proofs.Ytbpjhmhnicfdfaa.GiAreEven

/- loop.example/g01062/spec.l1Least as a plain function, and the contract of the program's: where the plain one has an answer, the program has it. Conditions: slices read as lists. -/
namespace Go.Proofs.Ytbpjhmhnicfdfaa.GsL1Least
set_option linter.unusedVariables false
set_option linter.unusedSimpArgs false
open Go.RowKit
open Go.Proofs.Ytbpjhmhnicfdfaa.Rowed Go.Proofs.Ytbpjhmhnicfdfaa.Turn Go.Proofs.Ytbpjhmhnicfdfaa.Aid Go.Proofs.Ytbpjhmhnicfdfaa.GoP Go.Proofs.Ytbpjhmhnicfdfaa.GoM

def P (a : Int) (b : Int) : Option (Int) :=
  letK (decide (a < b)) fun (t_3 : Bool) =>
  iteK t_3
  (some a)
  (some b)

set_option maxRecDepth 100000 in
set_option maxHeartbeats 2000000 in
theorem C (a : Int) (b : Int)   (w : World)   {r : Int} (H : Hid (P a b = some r)) :
    Calls Try.prog 38 #[.int .i64 a, .int .i64 b] w (Gives (.int .i64 r) w) := by
  have HB := Lib.hid (Below.refl w.heap.size w)
  unfold P at H
  go_enter Try.func38, Try.ntmps38
  replace H := let_hid H
  obtain ⟨t_3, ht_3, H⟩ := H
  cases t_3 with
  | false =>
    replace H := ite_f H
    obtain rfl := ret_hid H
    go_wp2_with fail
    go_ret
    exact ⟨rfl, HB.out⟩
  | true =>
    replace H := ite_t H
    obtain rfl := ret_hid H
    go_wp2_with fail
    go_ret
    exact ⟨rfl, HB.out⟩

set_option maxRecDepth 100000 in
set_option maxHeartbeats 2000000 in
theorem C0 (a : Int) (b : Int)   (w : World)   {r : Int} (H : Hid (P a b = some r)) :
    Calls Try.prog 38 #[.int .i64 a, .int .i64 b] w (fun e w'' => e = .returned (.int .i64 r) ∧ w'' = w) := by
  have HB := Lib.hid (Below.refl w.heap.size w)
  unfold P at H
  go_enter Try.func38, Try.ntmps38
  replace H := let_hid H
  obtain ⟨t_3, ht_3, H⟩ := H
  cases t_3 with
  | false =>
    replace H := ite_f H
    obtain rfl := ret_hid H
    go_wp2_with fail
    go_ret
    exact ⟨rfl, rfl⟩
  | true =>
    replace H := ite_t H
    obtain rfl := ret_hid H
    go_wp2_with fail
    go_ret
    exact ⟨rfl, rfl⟩
end Go.Proofs.Ytbpjhmhnicfdfaa.GsL1Least

/- loop.example/g01062/spec.l1Most as a plain function, and the contract of the program's: where the plain one has an answer, the program has it. Conditions: slices read as lists. -/
namespace Go.Proofs.Ytbpjhmhnicfdfaa.GsL1Most
set_option linter.unusedVariables false
set_option linter.unusedSimpArgs false
open Go.RowKit
open Go.Proofs.Ytbpjhmhnicfdfaa.Rowed Go.Proofs.Ytbpjhmhnicfdfaa.Turn Go.Proofs.Ytbpjhmhnicfdfaa.Aid Go.Proofs.Ytbpjhmhnicfdfaa.GoP Go.Proofs.Ytbpjhmhnicfdfaa.GoM

def P (a : Int) (b : Int) : Option (Int) :=
  letK (decide (b < a)) fun (t_3 : Bool) =>
  iteK t_3
  (some a)
  (some b)

set_option maxRecDepth 100000 in
set_option maxHeartbeats 2000000 in
theorem C (a : Int) (b : Int)   (w : World)   {r : Int} (H : Hid (P a b = some r)) :
    Calls Try.prog 39 #[.int .i64 a, .int .i64 b] w (Gives (.int .i64 r) w) := by
  have HB := Lib.hid (Below.refl w.heap.size w)
  unfold P at H
  go_enter Try.func39, Try.ntmps39
  replace H := let_hid H
  obtain ⟨t_3, ht_3, H⟩ := H
  cases t_3 with
  | false =>
    replace H := ite_f H
    obtain rfl := ret_hid H
    go_wp2_with fail
    go_ret
    exact ⟨rfl, HB.out⟩
  | true =>
    replace H := ite_t H
    obtain rfl := ret_hid H
    go_wp2_with fail
    go_ret
    exact ⟨rfl, HB.out⟩

set_option maxRecDepth 100000 in
set_option maxHeartbeats 2000000 in
theorem C0 (a : Int) (b : Int)   (w : World)   {r : Int} (H : Hid (P a b = some r)) :
    Calls Try.prog 39 #[.int .i64 a, .int .i64 b] w (fun e w'' => e = .returned (.int .i64 r) ∧ w'' = w) := by
  have HB := Lib.hid (Below.refl w.heap.size w)
  unfold P at H
  go_enter Try.func39, Try.ntmps39
  replace H := let_hid H
  obtain ⟨t_3, ht_3, H⟩ := H
  cases t_3 with
  | false =>
    replace H := ite_f H
    obtain rfl := ret_hid H
    go_wp2_with fail
    go_ret
    exact ⟨rfl, rfl⟩
  | true =>
    replace H := ite_t H
    obtain rfl := ret_hid H
    go_wp2_with fail
    go_ret
    exact ⟨rfl, rfl⟩
end Go.Proofs.Ytbpjhmhnicfdfaa.GsL1Most

/- loop.example/g01062/spec.AreEven as a plain function, and the contract of the program's: where the plain one has an answer, the program has it. Conditions: slices read as lists. -/
namespace Go.Proofs.Ytbpjhmhnicfdfaa.GsAreEven
set_option linter.unusedVariables false
set_option linter.unusedSimpArgs false
open Go.RowKit
open Go.Proofs.Ytbpjhmhnicfdfaa.Rowed Go.Proofs.Ytbpjhmhnicfdfaa.Turn Go.Proofs.Ytbpjhmhnicfdfaa.Aid Go.Proofs.Ytbpjhmhnicfdfaa.GoP Go.Proofs.Ytbpjhmhnicfdfaa.GoM

def l0 (holes : (List Int)) (s : Int × Int × Int) (nx0 bk0 : Int × Int × Int → Option (Bool × Bool)) : Option (Bool × Bool) :=
  unp3 s fun least_4l0 most_5l0 i_6l0 =>
  letK (decide (i_6l0 < (holes.length : Int))) fun (t_27 : Bool) =>
  iteK t_27
  (Option.bind (idx holes i_6l0) fun (yt_31 : Int) =>
  letK (IntKind.i64.wrap (i_6l0 - 1)) fun (t_35 : Int) =>
  Option.bind (idx holes t_35) fun (yt_36 : Int) =>
  letK (IntKind.i64.wrap (yt_31 - yt_36)) fun (t_38 : Int) =>
  Option.bind (Go.Proofs.Ytbpjhmhnicfdfaa.GsL1Least.P least_4l0 t_38) fun (t_39 : Int) =>
  Option.bind (idx holes i_6l0) fun (yt_44 : Int) =>
  letK (IntKind.i64.wrap (i_6l0 - 1)) fun (t_48 : Int) =>
  Option.bind (idx holes t_48) fun (yt_49 : Int) =>
  letK (IntKind.i64.wrap (yt_44 - yt_49)) fun (t_51 : Int) =>
  Option.bind (Go.Proofs.Ytbpjhmhnicfdfaa.GsL1Most.P most_5l0 t_51) fun (t_52 : Int) =>
  letK (IntKind.i64.wrap (i_6l0 + 1)) fun (t_55 : Int) =>
  appK nx0 (t_39, t_52, t_55))
  (appK bk0 (least_4l0, most_5l0, i_6l0))

def e0  (s : Int × Int × Int) : Option (Bool × Bool) :=
  unp3 s fun least_4l0 most_5l0 i_6l0 =>
  letK (IntKind.i64.wrap (most_5l0 - least_4l0)) fun (t_59 : Int) =>
  letK (decide (t_59 ≤ 10)) fun (t_60 : Bool) =>
  some (t_60, true)

def P (fuel : Nat) (holes : (List Int)) : Option (Bool × Bool) :=
  Option.bind (Go.Proofs.Ytbpjhmhnicfdfaa.GsL5Holes.P holes) fun (t_3 : Bool) =>
  letK (!t_3) fun (t_4 : Bool) =>
  iteK t_4
  (some (false, false))
  (Option.bind (idx holes 1) fun (yt_8 : Int) =>
  Option.bind (idx holes 0) fun (yt_11 : Int) =>
  letK (IntKind.i64.wrap (yt_8 - yt_11)) fun (t_13 : Int) =>
  Option.bind (idx holes 1) fun (yt_15 : Int) =>
  Option.bind (idx holes 0) fun (yt_18 : Int) =>
  letK (IntKind.i64.wrap (yt_15 - yt_18)) fun (t_20 : Int) =>
  loopK (l0 holes) fuel (t_13, t_20, 1) (e0 ))

set_option maxRecDepth 100000 in
set_option maxHeartbeats 2000000 in
theorem C (fuel : Nat) (holes : (List Int)) (A0 : Option Addr) (c0 : Nat)  (w : World) (M0 : Hid (Cells w 1 A0 holes.length (Go.Proofs.Ytbpjhmhnicfdfaa.HelpInt.iv holes))) (N0 : Hid (holes.length ≤ 9223372036854775807))  {r0 : Bool} {r1 : Bool} (H : Hid (P fuel holes = some (r0, r1))) :
    Calls Try.prog 10 #[.slice A0 holes.length c0] w (Gives (.tuple #[.bool r0, .bool r1]) w) := by
  have HB := Lib.hid (Below.refl w.heap.size w)
  unfold P at H
  have N0o := N0.out
  go_enter Try.func10, Try.ntmps10
  replace H := bind_hid H
  obtain ⟨t_3, qt_3, H⟩ := H
  go_wp2_with fail
  go_at_call 33
  refine (Go.Proofs.Ytbpjhmhnicfdfaa.GsL5Holes.C (holes) A0 c0 _   (Lib.hid (Cells.below M0.out HB.out)) N0 qt_3).mono ?_
  rintro e_t_3 wt_3 ⟨rfl, bt_3⟩
  have HBwt_3 := Lib.hid (Below.step HB.out bt_3)
  clear bt_3
  cases t_3 with
  | false =>
    replace H := let_hid H
    obtain ⟨t_4, ht_4, H⟩ := H
    obtain rfl : t_4 = true := ht_4.symm
    replace H := ite_t H
    cases ret_hid H
    go_wp2_with fail
    go_ret2
    exact ⟨rfl, HBwt_3.out⟩
  | true =>
    replace H := let_hid H
    obtain ⟨t_4, ht_4, H⟩ := H
    obtain rfl : t_4 = false := ht_4.symm
    replace H := ite_f H
    go_wp2_with fail
    replace H := idx_hid H
    obtain ⟨nt_8, yt_8, et_8, lt_8, gt_8, H⟩ := H
    obtain rfl : 1 = nt_8 := by omega
    clear et_8
    obtain ⟨ab_t_8, ao_t_8, zt_8, At_8, z_t_8, ct_8_0⟩ := Go.Proofs.Ytbpjhmhnicfdfaa.HelpInt.Ints.at_ M0.out lt_8
    obtain rfl := Option.some.inj (gt_8.out.symm.trans z_t_8)
    subst At_8
    have ltt_8 := cell_lt ct_8_0
    replace ct_8_0 := cell_below HBwt_3.out ct_8_0
    clear z_t_8
    have b1t_8 : (1 : Int) < ((holes.length : Nat) : Int) := by omega
    have b3t_8 : 1 < holes.length := by omega
    try simp only [Nat.zero_mul, Nat.add_zero, Nat.zero_add, Nat.reduceMul] at ct_8_0
    have Hct_8_0 := Lib.hid ct_8_0
    replace ct_8_0 := cell_regrown ct_8_0
    replace H := idx_hid H
    obtain ⟨nt_11, yt_11, et_11, lt_11, gt_11, H⟩ := H
    obtain rfl : 0 = nt_11 := by omega
    clear et_11
    obtain ⟨ab_t_11, ao_t_11, zt_11, At_11, z_t_11, ct_11_0⟩ := Go.Proofs.Ytbpjhmhnicfdfaa.HelpInt.Ints.at_ M0.out lt_11
    obtain rfl := Option.some.inj (gt_11.out.symm.trans z_t_11)
    simp only [Option.some.injEq, Addr.mk.injEq] at At_11
    obtain ⟨rfl, rfl, _⟩ := At_11
    have ltt_11 := cell_lt ct_11_0
    replace ct_11_0 := cell_below HBwt_3.out ct_11_0
    clear z_t_11
    have b1t_11 : (0 : Int) < ((holes.length : Nat) : Int) := by omega
    have b3t_11 : 0 < holes.length := by omega
    try simp only [Nat.zero_mul, Nat.add_zero, Nat.zero_add, Nat.reduceMul] at ct_11_0
    have Hct_11_0 := Lib.hid ct_11_0
    replace ct_11_0 := cell_regrown ct_11_0
    replace H := let_hid H
    obtain ⟨t_13, ht_13, H⟩ := H
    replace H := idx_hid H
    obtain ⟨nt_15, yt_15, et_15, lt_15, gt_15, H⟩ := H
    obtain rfl : 1 = nt_15 := by omega
    clear et_15
    obtain rfl := Option.some.inj (gt_8.out.symm.trans gt_15.out)
    clear gt_15 lt_15
    replace H := idx_hid H
    obtain ⟨nt_18, yt_18, et_18, lt_18, gt_18, H⟩ := H
    obtain rfl : 0 = nt_18 := by omega
    clear et_18
    obtain rfl := Option.some.inj (gt_11.out.symm.trans gt_18.out)
    clear gt_18 lt_18
    replace H := let_hid H
    obtain ⟨t_20, ht_20, H⟩ := H
    obtain rfl := ht_13.symm.trans ht_20
    refine wp_region_quiet_below (by kernel_rfl) (by kernel_rfl) ?_
    repeat (go_big_quiet_step (fail))
    refine wpQuiet_nil ?_
    intro Y3 hY3
    replace hY3 := below_class hY3
    replace ct_8_0 := Hct_8_0.out
    clear Hct_8_0
    replace ct_11_0 := Hct_11_0.out
    clear Hct_11_0
    have HBY3 := Lib.hid (Below.step HBwt_3.out hY3)
    replace ct_8_0 := cell_below hY3 ct_8_0
    replace ct_11_0 := cell_below hY3 ct_11_0
    clear hY3
    go_wp2_with fail
    go_loopg [4, 5, 6] (fuel) (fun m_ v4_ v5_ v6_ wr => ∃ (least_4l0 : Int) (most_5l0 : Int) (i_6l0 : Int), v4_ = .int .i64 least_4l0 ∧ v5_ = .int .i64 most_5l0 ∧ v6_ = .int .i64 i_6l0 ∧ Hid (loopK (l0 holes) m_ (least_4l0, most_5l0, i_6l0) (e0 ) = some (r0, r1)) ∧ Hid (Below w.heap.size w wr))
    case atStart => exact ⟨_, _, _, rfl, rfl, rfl, H, HBY3⟩
    case round =>
      obtain ⟨least_4l0, most_5l0, i_6l0, rfl, rfl, rfl, H, HBwr0⟩ := hrel
      rename World => wr0
      cases gk with
      | zero => exact (loop_zero H).elim
      | succ m0 =>
        replace H := loop_succ H
        unfold l0 at H
        replace H := unp3_hid H
        replace H := let_hid H
        obtain ⟨t_27, ht_27, H⟩ := H
        cases t_27 with
        | false =>
          replace H := ite_f H
          replace H := app_hid H
          unfold e0 at H
          replace H := unp3_hid H
          replace H := let_hid H
          obtain ⟨t_59, ht_59, H⟩ := H
          replace H := let_hid H
          obtain ⟨t_60, ht_60, H⟩ := H
          cases ret_hid H
          go_wp2_with fail
          go_ret2
          exact ⟨rfl, HBwr0.out⟩
        | true =>
          replace H := ite_t H
          go_wp2_with fail
          replace H := idx_hid H
          obtain ⟨nt_31, yt_31, et_31, lt_31, gt_31, H⟩ := H
          subst et_31
          have nc_6 : nt_31 < holes.length := by have := of_decide_eq_true ht_27; omega
          obtain ⟨ab_t_31, ao_t_31, zt_31, At_31, z_t_31, ct_31_0⟩ := Go.Proofs.Ytbpjhmhnicfdfaa.HelpInt.Ints.at_ M0.out lt_31
          obtain rfl := Option.some.inj (gt_31.out.symm.trans z_t_31)
          simp only [Option.some.injEq, Addr.mk.injEq] at At_31
          obtain ⟨rfl, rfl, _⟩ := At_31
          have ltt_31 := cell_lt ct_31_0
          replace ct_31_0 := cell_below HBwr0.out ct_31_0
          clear z_t_31
          have b0t_31 : (0 : Int) ≤ (nt_31 : Int) := by omega
          have b1t_31 : (nt_31 : Int) < ((holes.length : Nat) : Int) := by omega
          have b2t_31 : ((nt_31 : Int)).toNat = nt_31 := by omega
          have Hct_31_0 := Lib.hid ct_31_0
          replace ct_31_0 := cell_regrown ct_31_0
          replace H := let_hid H
          obtain ⟨t_35, ht_35, H⟩ := H
          replace H := idx_hid H
          obtain ⟨nt_36, yt_36, et_36, lt_36, gt_36, H⟩ := H
          subst et_36
          obtain ⟨ab_t_36, ao_t_36, zt_36, At_36, z_t_36, ct_36_0⟩ := Go.Proofs.Ytbpjhmhnicfdfaa.HelpInt.Ints.at_ M0.out lt_36
          obtain rfl := Option.some.inj (gt_36.out.symm.trans z_t_36)
          simp only [Option.some.injEq, Addr.mk.injEq] at At_36
          obtain ⟨rfl, rfl, _⟩ := At_36
          have ltt_36 := cell_lt ct_36_0
          replace ct_36_0 := cell_below HBwr0.out ct_36_0
          clear z_t_36
          have b0t_36 : (0 : Int) ≤ (nt_36 : Int) := by omega
          have b1t_36 : (nt_36 : Int) < ((holes.length : Nat) : Int) := by omega
          have b2t_36 : ((nt_36 : Int)).toNat = nt_36 := by omega
          have Hct_36_0 := Lib.hid ct_36_0
          replace ct_36_0 := cell_regrown ct_36_0
          replace H := let_hid H
          obtain ⟨t_38, ht_38, H⟩ := H
          replace H := bind_hid H
          obtain ⟨t_39, qt_39, H⟩ := H
          have nt_39 : ∀ d os, Calls Try.prog 38 #[.int .i64 least_4l0, .int .i64 t_38] (Go.Sort.grow (redrawn wr0 d) os) fun e w'' => e = .returned (.int .i64 t_39) ∧ ∃ p : Regrown, w'' = Go.Sort.grow (redrawn wr0 p.d) p.os := fun d os => Calls.regrown_of (Go.Proofs.Ytbpjhmhnicfdfaa.GsL1Least.C (least_4l0) (t_38)  _    qt_39)
          refine wp_region_quiet_below (by kernel_rfl) (by kernel_rfl) ?_
          repeat (go_big_quiet_step (first | (go_at_call 38; exact nt_39 _ _)))
          refine wpQuiet_nil ?_
          intro Y7 hY7
          replace hY7 := below_class hY7
          clear nt_39
          replace ct_31_0 := Hct_31_0.out
          clear Hct_31_0
          replace ct_36_0 := Hct_36_0.out
          clear Hct_36_0
          have HBY7 := Lib.hid (Below.step HBwr0.out hY7)
          replace ct_31_0 := cell_below hY7 ct_31_0
          replace ct_36_0 := cell_below hY7 ct_36_0
          clear hY7
          go_wp2_with fail
          have Hct_31_0 := Lib.hid ct_31_0
          replace ct_31_0 := cell_regrown ct_31_0
          have Hct_36_0 := Lib.hid ct_36_0
          replace ct_36_0 := cell_regrown ct_36_0
          replace H := idx_hid H
          obtain ⟨nt_44, yt_44, et_44, lt_44, gt_44, H⟩ := H
          obtain rfl : nt_31 = nt_44 := by omega
          clear et_44
          obtain rfl := Option.some.inj (gt_31.out.symm.trans gt_44.out)
          clear gt_44 lt_44
          replace H := let_hid H
          obtain ⟨t_48, ht_48, H⟩ := H
          obtain rfl := ht_35.symm.trans ht_48
          replace H := idx_hid H
          obtain ⟨nt_49, yt_49, et_49, lt_49, gt_49, H⟩ := H
          obtain rfl : nt_36 = nt_49 := by omega
          clear et_49
          obtain rfl := Option.some.inj (gt_36.out.symm.trans gt_49.out)
          clear gt_49 lt_49
          replace H := let_hid H
          obtain ⟨t_51, ht_51, H⟩ := H
          obtain rfl := ht_38.symm.trans ht_51
          replace H := bind_hid H
          obtain ⟨t_52, qt_52, H⟩ := H
          have nt_52 : ∀ d os, Calls Try.prog 39 #[.int .i64 most_5l0, .int .i64 t_38] (Go.Sort.grow (redrawn Y7 d) os) fun e w'' => e = .returned (.int .i64 t_52) ∧ ∃ p : Regrown, w'' = Go.Sort.grow (redrawn Y7 p.d) p.os := fun d os => Calls.regrown_of (Go.Proofs.Ytbpjhmhnicfdfaa.GsL1Most.C (most_5l0) (t_38)  _    qt_52)
          refine wp_region_quiet_below (by kernel_rfl) (by kernel_rfl) ?_
          repeat (go_big_quiet_step (first | (go_at_call 39; exact nt_52 _ _)))
          refine wpQuiet_nil ?_
          intro Y8 hY8
          replace hY8 := below_class hY8
          clear nt_52
          replace ct_31_0 := Hct_31_0.out
          clear Hct_31_0
          replace ct_36_0 := Hct_36_0.out
          clear Hct_36_0
          have HBY8 := Lib.hid (Below.step HBY7.out hY8)
          replace ct_31_0 := cell_below hY8 ct_31_0
          replace ct_36_0 := cell_below hY8 ct_36_0
          clear hY8
          replace H := let_hid H
          obtain ⟨t_55, ht_55, H⟩ := H
          replace H := app_hid H
          go_wp2_with fail
          go_roundg m0
          case measure => omega
          case rel => exact ⟨_, _, _, rfl, rfl, rfl, H, HBY8⟩
end Go.Proofs.Ytbpjhmhnicfdfaa.GsAreEven

/- loop.example/g01062/impl.IsPair as a plain function, and the contract of the program's: where the plain one has an answer, the program has it. Conditions: slices read as lists. -/
namespace Go.Proofs.Ytbpjhmhnicfdfaa.GiIsPair
set_option linter.unusedVariables false
set_option linter.unusedSimpArgs false
open Go.RowKit
open Go.Proofs.Ytbpjhmhnicfdfaa.Rowed Go.Proofs.Ytbpjhmhnicfdfaa.Turn Go.Proofs.Ytbpjhmhnicfdfaa.Aid Go.Proofs.Ytbpjhmhnicfdfaa.GoP Go.Proofs.Ytbpjhmhnicfdfaa.GoM

def l0 (a : (List Int)) (b : (List Int)) (off : Int) (k0 : Nat) (s : Unit) (nx0 bk0 : Unit → Option (Bool × Bool)) : Option (Bool × Bool) :=
  
  Option.bind (idx a (k0 : Int)) fun (yt_32 : Int) =>
  Option.bind (idx a 0) fun (yt_35 : Int) =>
  letK (IntKind.i64.wrap (yt_32 - yt_35)) fun (t_37 : Int) =>
  Option.bind (idx b (k0 : Int)) fun (yt_40 : Int) =>
  Option.bind (idx b 0) fun (yt_43 : Int) =>
  letK (IntKind.i64.wrap (yt_40 - yt_43)) fun (t_45 : Int) =>
  letK (IntKind.i64.wrap (t_37 - t_45)) fun (t_46 : Int) =>
  letK (IntKind.i64.wrap (-off)) fun (t_48 : Int) =>
  Option.bind (Go.Proofs.Ytbpjhmhnicfdfaa.GiWithin.P t_46 t_48 off) fun (t_50 : Bool) =>
  letK (!t_50) fun (t_51 : Bool) =>
  iteK t_51
  (some (false, true))
  (appK nx0 ())

def e0  (s : Unit) : Option (Bool × Bool) :=
  
  some (true, true)

def P (a : (List Int)) (b : (List Int)) (off : Int) : Option (Bool × Bool) :=
  Option.bind (Go.Proofs.Ytbpjhmhnicfdfaa.GiAreHoles.P a) fun (t_3 : Bool) =>
  letK (!t_3) fun (t_4 : Bool) =>
  joinK (fun (t_9 : Bool) =>
  joinK (fun (t_16 : Bool) =>
  joinK (fun (t_21 : Bool) =>
  iteK t_21
  (some (false, false))
  (cntK (l0 a b off) (a.length) 0 () (e0 ))) fun jt_21 => iteK t_16 (appK jt_21 true) (Option.bind (Go.Proofs.Ytbpjhmhnicfdfaa.GiWithin.P off 0 50) fun (t_19 : Bool) =>
  letK (!t_19) fun (t_20 : Bool) =>
  appK jt_21 t_20)) fun jt_16 => iteK t_9 (appK jt_16 true) (letK ((a.length : Int) != (b.length : Int)) fun (t_15 : Bool) =>
  appK jt_16 t_15)) fun jt_9 => iteK t_4 (appK jt_9 true) (Option.bind (Go.Proofs.Ytbpjhmhnicfdfaa.GiAreHoles.P b) fun (t_7 : Bool) =>
  letK (!t_7) fun (t_8 : Bool) =>
  appK jt_9 t_8)

set_option maxRecDepth 100000 in
set_option maxHeartbeats 2000000 in
theorem C (a : (List Int)) (b : (List Int)) (off : Int) (A0 : Option Addr) (c0 : Nat) (A1 : Option Addr) (c1 : Nat)  (w : World) (M0 : Hid (Cells w 1 A0 a.length (Go.Proofs.Ytbpjhmhnicfdfaa.HelpInt.iv a))) (N0 : Hid (a.length ≤ 9223372036854775807)) (M1 : Hid (Cells w 1 A1 b.length (Go.Proofs.Ytbpjhmhnicfdfaa.HelpInt.iv b))) (N1 : Hid (b.length ≤ 9223372036854775807))  {r0 : Bool} {r1 : Bool} (H : Hid (P a b off = some (r0, r1))) :
    Calls Try.prog 11 #[.slice A0 a.length c0, .slice A1 b.length c1, .int .i64 off] w (Gives (.tuple #[.bool r0, .bool r1]) w) := by
  have HB := Lib.hid (Below.refl w.heap.size w)
  unfold P at H
  have N0o := N0.out
  have N1o := N1.out
  go_enter Try.func11, Try.ntmps11
  replace H := bind_hid H
  obtain ⟨t_3, qt_3, H⟩ := H
  go_wp2_with fail
  go_at_call 31
  refine (Go.Proofs.Ytbpjhmhnicfdfaa.GiAreHoles.C (a) A0 c0 _   (Lib.hid (Cells.below M0.out HB.out)) N0 qt_3).mono ?_
  rintro e_t_3 wt_3 ⟨rfl, bt_3⟩
  have HBwt_3 := Lib.hid (Below.step HB.out bt_3)
  clear bt_3
  cases t_3 with
  | false =>
    replace H := let_hid H
    obtain ⟨t_4, ht_4, H⟩ := H
    obtain rfl : t_4 = true := ht_4.symm
    replace H := join_hid H
    replace H := ite_t H
    replace H := app_hid H
    replace H := join_hid H
    replace H := ite_t H
    replace H := app_hid H
    replace H := join_hid H
    replace H := ite_t H
    replace H := app_hid H
    replace H := ite_t H
    cases ret_hid H
    go_wp2_with fail
    go_ret2
    exact ⟨rfl, HBwt_3.out⟩
  | true =>
    replace H := let_hid H
    obtain ⟨t_4, ht_4, H⟩ := H
    obtain rfl : t_4 = false := ht_4.symm
    replace H := join_hid H
    replace H := ite_f H
    replace H := bind_hid H
    obtain ⟨t_7, qt_7, H⟩ := H
    go_wp2_with fail
    go_at_call 31
    refine (Go.Proofs.Ytbpjhmhnicfdfaa.GiAreHoles.C (b) A1 c1 _   (Lib.hid (Cells.below M1.out HBwt_3.out)) N1 qt_7).mono ?_
    rintro e_t_7 wt_7 ⟨rfl, bt_7⟩
    have HBwt_7 := Lib.hid (Below.step HBwt_3.out bt_7)
    clear bt_7
    cases t_7 with
    | false =>
      replace H := let_hid H
      obtain ⟨t_8, ht_8, H⟩ := H
      obtain rfl : t_8 = true := ht_8.symm
      replace H := app_hid H
      replace H := join_hid H
      replace H := ite_t H
      replace H := app_hid H
      replace H := join_hid H
      replace H := ite_t H
      replace H := app_hid H
      replace H := ite_t H
      cases ret_hid H
      go_wp2_with fail
      go_ret2
      exact ⟨rfl, HBwt_7.out⟩
    | true =>
      replace H := let_hid H
      obtain ⟨t_8, ht_8, H⟩ := H
      obtain rfl : t_8 = false := ht_8.symm
      replace H := app_hid H
      replace H := join_hid H
      replace H := ite_f H
      replace H := let_hid H
      obtain ⟨t_15, ht_15, H⟩ := H
      replace H := app_hid H
      replace H := join_hid H
      cases t_15 with
      | false =>
        have Hht_15 : Hid (a.length = b.length) := Lib.hid (by have := bne_eq_false_iff_eq.1 ht_15; omega)
        have nht_15 : (a.length == b.length) = true := beq_iff_eq.2 Hht_15.out
        replace H := ite_f H
        replace H := bind_hid H
        obtain ⟨t_19, qt_19, H⟩ := H
        go_wp2_with fail
        go_at_call 40
        refine (Go.Proofs.Ytbpjhmhnicfdfaa.GiWithin.C (off) (0) (50)  _    qt_19).mono ?_
        rintro e_t_19 wt_19 ⟨rfl, bt_19⟩
        have HBwt_19 := Lib.hid (Below.step HBwt_7.out bt_19)
        clear bt_19
        cases t_19 with
        | false =>
          replace H := let_hid H
          obtain ⟨t_20, ht_20, H⟩ := H
          obtain rfl : t_20 = true := ht_20.symm
          replace H := app_hid H
          replace H := ite_t H
          cases ret_hid H
          go_wp2_with fail
          go_ret2
          exact ⟨rfl, HBwt_19.out⟩
        | true =>
          replace H := let_hid H
          obtain ⟨t_20, ht_20, H⟩ := H
          obtain rfl : t_20 = false := ht_20.symm
          replace H := app_hid H
          replace H := ite_f H
          go_wp2_with fail
          go_loopg [31] (a.length) (fun m_ v31_ wr => ∃ (k0 : Nat) , k0 + m_ = a.length ∧ v31_ = .int .i64 (k0 : Int) ∧ Hid (cntK (l0 a b off) m_ k0 () (e0 ) = some (r0, r1)) ∧ Hid (Below w.heap.size w wr))
          case atStart => exact ⟨0, by omega, rfl, H, HBwt_19⟩
          case round =>
            obtain ⟨k0, hkm0, rfl, H, HBwr0⟩ := hrel
            rename World => wr0
            cases gk with
            | zero =>
              obtain rfl : k0 = a.length := by omega
              have hc0 : decide (((a.length : Nat) : Int) < ((a.length : Nat) : Int)) = false := by simp
              replace H := cnt_zero H
              unfold e0 at H
              cases ret_hid H
              go_wp2_with fail
              go_ret2
              exact ⟨rfl, HBwr0.out⟩
            | succ m0 =>
              have hlt0 : k0 < a.length := by omega
              have hc0 : decide ((k0 : Int) < ((a.length : Nat) : Int)) = true := by simp; omega
              replace H := cnt_succ H
              unfold l0 at H
              go_wp2_with fail
              replace H := idx_hid H
              obtain ⟨nt_32, yt_32, et_32, lt_32, gt_32, H⟩ := H
              obtain rfl : k0 = nt_32 := by omega
              clear et_32
              obtain ⟨ab_t_32, ao_t_32, zt_32, At_32, z_t_32, ct_32_0⟩ := Go.Proofs.Ytbpjhmhnicfdfaa.HelpInt.Ints.at_ M0.out lt_32
              obtain rfl := Option.some.inj (gt_32.out.symm.trans z_t_32)
              subst At_32
              have ltt_32 := cell_lt ct_32_0
              replace ct_32_0 := cell_below HBwr0.out ct_32_0
              clear z_t_32
              have b0t_32 : (0 : Int) ≤ (k0 : Int) := by omega
              have b1t_32 : (k0 : Int) < ((a.length : Nat) : Int) := by omega
              have b2t_32 : ((k0 : Int)).toNat = k0 := by omega
              have Hct_32_0 := Lib.hid ct_32_0
              replace ct_32_0 := cell_regrown ct_32_0
              replace H := idx_hid H
              obtain ⟨nt_35, yt_35, et_35, lt_35, gt_35, H⟩ := H
              obtain rfl : 0 = nt_35 := by omega
              clear et_35
              obtain ⟨ab_t_35, ao_t_35, zt_35, At_35, z_t_35, ct_35_0⟩ := Go.Proofs.Ytbpjhmhnicfdfaa.HelpInt.Ints.at_ M0.out lt_35
              obtain rfl := Option.some.inj (gt_35.out.symm.trans z_t_35)
              simp only [Option.some.injEq, Addr.mk.injEq] at At_35
              obtain ⟨rfl, rfl, _⟩ := At_35
              have ltt_35 := cell_lt ct_35_0
              replace ct_35_0 := cell_below HBwr0.out ct_35_0
              clear z_t_35
              have b1t_35 : (0 : Int) < ((a.length : Nat) : Int) := by omega
              have b3t_35 : 0 < a.length := by omega
              try simp only [Nat.zero_mul, Nat.add_zero, Nat.zero_add, Nat.reduceMul] at ct_35_0
              have Hct_35_0 := Lib.hid ct_35_0
              replace ct_35_0 := cell_regrown ct_35_0
              replace H := let_hid H
              obtain ⟨t_37, ht_37, H⟩ := H
              replace H := idx_hid H
              obtain ⟨nt_40, yt_40, et_40, lt_40, gt_40, H⟩ := H
              obtain rfl : k0 = nt_40 := by omega
              clear et_40
              obtain ⟨ab_t_40, ao_t_40, zt_40, At_40, z_t_40, ct_40_0⟩ := Go.Proofs.Ytbpjhmhnicfdfaa.HelpInt.Ints.at_ M1.out lt_40
              obtain rfl := Option.some.inj (gt_40.out.symm.trans z_t_40)
              subst At_40
              have ltt_40 := cell_lt ct_40_0
              replace ct_40_0 := cell_below HBwr0.out ct_40_0
              clear z_t_40
              have b0t_40 : (0 : Int) ≤ (k0 : Int) := by omega
              have b1t_40 : (k0 : Int) < ((b.length : Nat) : Int) := by omega
              have b2t_40 : ((k0 : Int)).toNat = k0 := by omega
              have Hct_40_0 := Lib.hid ct_40_0
              replace ct_40_0 := cell_regrown ct_40_0
              replace H := idx_hid H
              obtain ⟨nt_43, yt_43, et_43, lt_43, gt_43, H⟩ := H
              obtain rfl : 0 = nt_43 := by omega
              clear et_43
              obtain ⟨ab_t_43, ao_t_43, zt_43, At_43, z_t_43, ct_43_0⟩ := Go.Proofs.Ytbpjhmhnicfdfaa.HelpInt.Ints.at_ M1.out lt_43
              obtain rfl := Option.some.inj (gt_43.out.symm.trans z_t_43)
              simp only [Option.some.injEq, Addr.mk.injEq] at At_43
              obtain ⟨rfl, rfl, _⟩ := At_43
              have ltt_43 := cell_lt ct_43_0
              replace ct_43_0 := cell_below HBwr0.out ct_43_0
              clear z_t_43
              have b1t_43 : (0 : Int) < ((b.length : Nat) : Int) := by omega
              have b3t_43 : 0 < b.length := by omega
              try simp only [Nat.zero_mul, Nat.add_zero, Nat.zero_add, Nat.reduceMul] at ct_43_0
              have Hct_43_0 := Lib.hid ct_43_0
              replace ct_43_0 := cell_regrown ct_43_0
              replace H := let_hid H
              obtain ⟨t_45, ht_45, H⟩ := H
              replace H := let_hid H
              obtain ⟨t_46, ht_46, H⟩ := H
              replace H := let_hid H
              obtain ⟨t_48, ht_48, H⟩ := H
              replace H := bind_hid H
              obtain ⟨t_50, qt_50, H⟩ := H
              have nt_50 : ∀ d os, Calls Try.prog 40 #[.int .i64 t_46, .int .i64 t_48, .int .i64 off] (Go.Sort.grow (redrawn wr0 d) os) fun e w'' => e = .returned (.bool t_50) ∧ ∃ p : Regrown, w'' = Go.Sort.grow (redrawn wr0 p.d) p.os := fun d os => Calls.regrown_of (Go.Proofs.Ytbpjhmhnicfdfaa.GiWithin.C (t_46) (t_48) (off)  _    qt_50)
              cases t_50 with
              | false =>
                replace H := let_hid H
                obtain ⟨t_51, ht_51, H⟩ := H
                obtain rfl : t_51 = true := ht_51.symm
                refine wp_region_quiet_below (by kernel_rfl) (by kernel_rfl) ?_
                repeat (go_big_quiet_step (first | (go_at_call 40; exact nt_50 _ _)))
                refine wpQuiet_nil ?_
                intro Y6 hY6
                replace hY6 := below_class hY6
                clear nt_50
                replace ct_32_0 := Hct_32_0.out
                clear Hct_32_0
                replace ct_35_0 := Hct_35_0.out
                clear Hct_35_0
                replace ct_40_0 := Hct_40_0.out
                clear Hct_40_0
                replace ct_43_0 := Hct_43_0.out
                clear Hct_43_0
                have HBY6 := Lib.hid (Below.step HBwr0.out hY6)
                replace ct_32_0 := cell_below hY6 ct_32_0
                replace ct_35_0 := cell_below hY6 ct_35_0
                replace ct_40_0 := cell_below hY6 ct_40_0
                replace ct_43_0 := cell_below hY6 ct_43_0
                clear hY6
                replace H := ite_t H
                cases ret_hid H
                go_wp2_with fail
                go_ret2
                exact ⟨rfl, HBY6.out⟩
              | true =>
                replace H := let_hid H
                obtain ⟨t_51, ht_51, H⟩ := H
                obtain rfl : t_51 = false := ht_51.symm
                refine wp_region_quiet_below (by kernel_rfl) (by kernel_rfl) ?_
                repeat (go_big_quiet_step (first | (go_at_call 40; exact nt_50 _ _)))
                refine wpQuiet_nil ?_
                intro Y6 hY6
                replace hY6 := below_class hY6
                clear nt_50
                replace ct_32_0 := Hct_32_0.out
                clear Hct_32_0
                replace ct_35_0 := Hct_35_0.out
                clear Hct_35_0
                replace ct_40_0 := Hct_40_0.out
                clear Hct_40_0
                replace ct_43_0 := Hct_43_0.out
                clear Hct_43_0
                have HBY6 := Lib.hid (Below.step HBwr0.out hY6)
                replace ct_32_0 := cell_below hY6 ct_32_0
                replace ct_35_0 := cell_below hY6 ct_35_0
                replace ct_40_0 := cell_below hY6 ct_40_0
                replace ct_43_0 := cell_below hY6 ct_43_0
                clear hY6
                replace H := ite_f H
                replace H := app_hid H
                go_wp2_with fail
                go_roundg m0
                case measure => omega
                case rel => exact ⟨k0 + 1, by omega, by go_num, H, HBY6⟩
      | true =>
        have nht_15 : ¬ (a.length = b.length) := by have := bne_iff_ne.1 ht_15; omega
        replace H := ite_t H
        replace H := app_hid H
        replace H := ite_t H
        cases ret_hid H
        go_wp2_with fail
        go_ret2
        exact ⟨rfl, HBwt_7.out⟩
end Go.Proofs.Ytbpjhmhnicfdfaa.GiIsPair

