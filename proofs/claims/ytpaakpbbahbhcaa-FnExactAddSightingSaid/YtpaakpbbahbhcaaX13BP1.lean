/- Texts on which the proofs of several laws stand, one behind the other (1 of 6). No condition of their own. -/
import Derived.Lib.Hide
import Derived.Below
import Derived.Laws.OwnMore
import Derived.Laws.World
import Derived.Deep.Draws
import Derived.Lib.QuietBelow
import Derived.Lib.Strings
import Derived.OwnWalk
import Derived.Laws.Strings3
import Derived.Laws.AppendOwnNone
import Derived.Laws.DeepStrings4
import Derived.Laws.Slices
import Derived.Deep.Slices
import Derived.Laws.MakeOwn
import Derived.Maps.AppendAt
import Derived.Lib.LaidU8
import Derived.WalkKit
import Derived.WalkSpells
import Derived.Lib.SliceRun
import Derived.Test.YtpaakpbbahbhcaaChecked
import Derived.BigQuiet
import Derived.Deep.QuietTactic
import Derived.Outline
/- Words in which a Go function is written as a plain function that either has an answer or has none (a panic, or a loop that does not end in time); and how such a sentence is taken apart. No condition. -/
namespace Go.Proofs.Ytpaakpbbahbhcaa.GoP
set_option linter.unusedVariables false
open Go.RowKit

def idx {α : Type} (l : List α) (i : Int) : Option α := if 0 ≤ i then l[i.toNat]? else none
def letK {α ρ : Type} (x : α) (f : α → Option ρ) : Option ρ := f x
def iteK {ρ : Type} (c : Bool) (a b : Option ρ) : Option ρ := match c with | true => a | false => b
def joinK {γ : Type} {ρ : Type} (rest : γ) (f : γ → Option ρ) : Option ρ := f rest
def appK {α ρ : Type} (j : α → Option ρ) (x : α) : Option ρ := j x
def guardK {ρ : Type} (p : Prop) [Decidable p] (a : Option ρ) : Option ρ := if p then a else none
def bind2 {α β ρ : Type} (x : Option (α × β)) (f : α → β → Option ρ) : Option ρ := match x with | none => none | some (a, b) => f a b
def bind3 {α β γ ρ : Type} (x : Option (α × β × γ)) (f : α → β → γ → Option ρ) : Option ρ := match x with | none => none | some (a, b, c) => f a b c
def bind4 {α β γ δ ρ : Type} (x : Option (α × β × γ × δ)) (f : α → β → γ → δ → Option ρ) : Option ρ := match x with | none => none | some (a, b, c, d) => f a b c d
def unp2 {α β ρ : Type} (s : α × β) (f : α → β → Option ρ) : Option ρ := f s.1 s.2
def unp3 {α β γ ρ : Type} (s : α × β × γ) (f : α → β → γ → Option ρ) : Option ρ := f s.1 s.2.1 s.2.2
def unp4 {α β γ δ ρ : Type} (s : α × β × γ × δ) (f : α → β → γ → δ → Option ρ) : Option ρ := f s.1 s.2.1 s.2.2.1 s.2.2.2
/-- m rounds, counted from k on -/
def cntK {σ ρ : Type} (f : Nat → σ → (σ → Option ρ) → (σ → Option ρ) → Option ρ) : Nat → Nat → σ → (σ → Option ρ) → Option ρ
  | 0, _, s, fin => fin s
  | m + 1, k, s, fin => f k s (fun s' => cntK f m (k + 1) s' fin) fin
/-- rounds until one ends the loop, n at most -/
def loopK {σ ρ : Type} (f : σ → (σ → Option ρ) → (σ → Option ρ) → Option ρ) : Nat → σ → (σ → Option ρ) → Option ρ
  | 0, _, _ => none
  | n + 1, s, fin => f s (fun s' => loopK f n s' fin) fin

theorem let_hid {α ρ : Type} {x : α} {f : α → Option ρ} {r : ρ} (H : Hid (letK x f = some r)) : ∃ y, x = y ∧ Hid (f y = some r) := ⟨x, rfl, H⟩
theorem bind_hid {α ρ : Type} {x : Option α} {f : α → Option ρ} {r : ρ} (H : Hid (x.bind f = some r)) : ∃ y, Hid (x = some y) ∧ Hid (f y = some r) := by
  have h : x.bind f = some r := H
  cases x with
  | none => simp at h
  | some y => exact ⟨y, rfl, h⟩
theorem bind2_hid {α β ρ : Type} {x : Option (α × β)} {f : α → β → Option ρ} {r : ρ} (H : Hid (bind2 x f = some r)) : ∃ a b, Hid (x = some (a, b)) ∧ Hid (f a b = some r) := by
  have h : bind2 x f = some r := H
  cases x with
  | none => simp [bind2] at h
  | some y => exact ⟨y.1, y.2, rfl, h⟩
theorem bind3_hid {α β γ ρ : Type} {x : Option (α × β × γ)} {f : α → β → γ → Option ρ} {r : ρ} (H : Hid (bind3 x f = some r)) : ∃ a b c, Hid (x = some (a, b, c)) ∧ Hid (f a b c = some r) := by
  have h : bind3 x f = some r := H
  cases x with
  | none => simp [bind3] at h
  | some y => exact ⟨y.1, y.2.1, y.2.2, rfl, h⟩
theorem ite_t {ρ : Type} {a b : Option ρ} {r : ρ} (H : Hid (iteK true a b = some r)) : Hid (a = some r) := H
theorem ite_f {ρ : Type} {a b : Option ρ} {r : ρ} (H : Hid (iteK false a b = some r)) : Hid (b = some r) := H
theorem join_hid {γ ρ : Type} {j : γ} {f : γ → Option ρ} {r : ρ} (H : Hid (joinK j f = some r)) : Hid (f j = some r) := H
theorem app_hid {α ρ : Type} {j : α → Option ρ} {x : α} {r : ρ} (H : Hid (appK j x = some r)) : Hid (j x = some r) := H
theorem guard_hid {ρ : Type} {p : Prop} [Decidable p] {a : Option ρ} {r : ρ} (H : Hid (guardK p a = some r)) : p ∧ Hid (a = some r) := by
  have h : guardK p a = some r := H
  unfold guardK at h
  by_cases hp : p
  · rw [if_pos hp] at h; exact ⟨hp, h⟩
  · rw [if_neg hp] at h; simp at h
theorem unp2_hid {α β ρ : Type} {a : α} {b : β} {f : α → β → Option ρ} {r : ρ} (H : Hid (unp2 (a, b) f = some r)) : Hid (f a b = some r) := H
theorem cnt_zero {σ ρ : Type} {f : Nat → σ → (σ → Option ρ) → (σ → Option ρ) → Option ρ} {k : Nat} {s : σ} {fin : σ → Option ρ} {r : ρ} (H : Hid (cntK f 0 k s fin = some r)) : Hid (fin s = some r) := H
theorem cnt_succ {σ ρ : Type} {f : Nat → σ → (σ → Option ρ) → (σ → Option ρ) → Option ρ} {m k : Nat} {s : σ} {fin : σ → Option ρ} {r : ρ} (H : Hid (cntK f (m + 1) k s fin = some r)) :
    Hid (f k s (fun s' => cntK f m (k + 1) s' fin) fin = some r) := H
theorem ret_hid {ρ : Type} {v r : ρ} (H : Hid (some v = some r)) : v = r := Option.some.inj H
theorem idx_hid {α ρ : Type} {l : List α} {i : Int} {f : α → Option ρ} {r : ρ} (H : Hid ((idx l i).bind f = some r)) :
    ∃ (k : Nat) (x : α), i = (k : Int) ∧ k < l.length ∧ Hid (l[k]? = some x) ∧ Hid (f x = some r) := by
  have h : (idx l i).bind f = some r := H
  unfold idx at h
  by_cases hi : 0 ≤ i
  · rw [if_pos hi] at h
    cases hx : l[i.toNat]? with
    | none => rw [hx] at h; simp at h
    | some x =>
      rw [hx] at h
      exact ⟨i.toNat, x, (Int.toNat_of_nonneg hi).symm, (List.getElem?_eq_some_iff.1 hx).1, hx, h⟩
  · rw [if_neg hi] at h; simp at h
theorem idx_nat {α : Type} (l : List α) (k : Nat) : idx l (k : Int) = l[k]? := by unfold idx; rw [if_pos (by omega)]; simp
end Go.Proofs.Ytpaakpbbahbhcaa.GoP

/- Words for a slice that reads as a list of values, nil and empty let in; for slices of strings; and what becomes of them in later worlds. No condition. -/
namespace Go.Proofs.Ytpaakpbbahbhcaa.Rowed
set_option linter.unusedVariables false
open Go.RowKit

theorem add_block (a : Addr) (n : Nat) : (a.add n).block = a.block := by unfold Addr.add; split <;> rfl
theorem cell_lt {w : World} {a : Addr} {v : Value} (h : w.cell? a = some v) : a.block < w.heap.size := World.block_lt_of_cell? w a h
theorem cell_below {w w' : World} (hb : Below w.heap.size w w') {a : Addr} {v : Value} (hc : w.cell? a = some v) : w'.cell? a = some v := (hb.cell (cell_lt hc)).trans hc
theorem below_drewN (w : World) (m : Nat) : Below w.heap.size w (w.drewN m) := ⟨rfl, rfl, rfl, Nat.le_refl _, fun _ _ => rfl⟩
theorem Below.step {a b c : World} (h : Below a.heap.size a b) (k : Below b.heap.size b c) : Below a.heap.size a c := h.trans (k.mono h.size)

/-- the world has drawn, and nothing else has turned -/
def DrawnTo (w w' : World) : Prop := ∃ m, w' = w.drewN m
theorem DrawnTo.refl (w : World) : DrawnTo w w := ⟨0, rfl⟩
theorem DrawnTo.more {w w' : World} (h : DrawnTo w w') (n : Nat) : DrawnTo w (w'.drewN n) := let ⟨m, e⟩ := h; ⟨m + n, by rw [e, World.drewN_drewN]⟩
theorem DrawnTo.trans {a b c : World} (h : DrawnTo a b) (k : DrawnTo b c) : DrawnTo a c := by
  obtain ⟨m, rfl⟩ := h
  obtain ⟨n, rfl⟩ := k
  exact ⟨m + n, World.drewN_drewN ..⟩
theorem DrawnTo.cell {w w' : World} (h : DrawnTo w w') {a : Addr} {v : Value} (hc : w.cell? a = some v) : w'.cell? a = some v := by
  obtain ⟨m, rfl⟩ := h; exact hc
theorem DrawnTo.below {w w' : World} (h : DrawnTo w w') : Below w.heap.size w w' := by
  obtain ⟨m, rfl⟩ := h; exact below_drewN w m

/-- the slice 'A, n' reads as the cells xs (size cells each element) -/
def Cells (w : World) (size : Nat) (A : Option Addr) (n : Nat) (xs : List Value) : Prop :=
  xs.length = n * size ∧ (0 < xs.length → ∃ ad : Addr, A = some ad ∧ ∀ j u, xs[j]? = some u → w.cell? (ad.add j) = some u)

theorem Cells.below {w w' : World} {size n : Nat} {A : Option Addr} {xs : List Value} (h : Cells w size A n xs) (hb : Below w.heap.size w w') : Cells w' size A n xs :=
  ⟨h.1, fun hn => let ⟨ad, e, hc⟩ := h.2 hn; ⟨ad, e, fun j u hu => cell_below hb (hc j u hu)⟩⟩
theorem Cells.drewN {w : World} {size n : Nat} {A : Option Addr} {xs : List Value} (h : Cells w size A n xs) (m : Nat) : Cells (w.drewN m) size A n xs := h
theorem Cells.nil_ (w : World) (size : Nat) (A : Option Addr) : Cells w size A 0 [] := ⟨by simp, fun h => by simp at h⟩
theorem Cells.at_ {w : World} {n k : Nat} {A : Option Addr} {xs : List Value} (h : Cells w 1 A n xs) (hk : k < n) : ∃ ad u, A = some ad ∧ xs[k]? = some u ∧ w.cell? (ad.add k) = some u := by
  have hl : k < xs.length := by have := h.1; omega
  obtain ⟨ad, e, hc⟩ := h.2 (by omega)
  exact ⟨ad, xs[k], e, List.getElem?_eq_getElem hl, hc k _ (List.getElem?_eq_getElem hl)⟩
theorem Cells.of_own {w : World} {base size n c g : Nat} {e : TypeId} {xs : List Value} (h : w.ownsRow base e size (.slice (some ⟨g, 0, none⟩) n c) n xs) : Cells w size (some ⟨g, 0, none⟩) n xs :=
  ⟨h.1, fun _ => ⟨_, rfl, fun j u hu => h.cells (g := g) rfl j u hu⟩⟩

/-- a row that is filled from the left -/
def fill (a ys : List Value) (k : Nat) : List Value := a.take k ++ ys.drop k
theorem fill_set (a ys : List Value) (k : Nat) (u : Value) (hk : k < ys.length) (hu : a[k]? = some u) : (fill a ys k).set k u = fill a ys (k + 1) := by
  have ha := (List.getElem?_eq_some_iff.1 hu).1
  have hau := (List.getElem?_eq_some_iff.1 hu).2
  unfold fill
  have hl : (a.take k).length = k := by rw [List.length_take]; omega
  rw [List.set_append_right _ _ (by omega), hl, Nat.sub_self, List.take_succ_eq_append_getElem ha, hau, List.drop_eq_getElem_cons hk, List.set_cons_zero, List.append_assoc]
  rfl
theorem fill_len (a ys : List Value) (k : Nat) (h : ys.length = a.length) : (fill a ys k).length = ys.length := by
  unfold fill; rw [List.length_append, List.length_take, List.length_drop]; omega

/-- the slice 'A, n' reads as the strings l -/
def Strs (w : World) (A : Option Addr) (n : Nat) (l : List ByteArray) : Prop := Cells w 1 A n (l.map Value.string)
theorem Strs.len {w : World} {A : Option Addr} {n : Nat} {l : List ByteArray} (h : Strs w A n l) : l.length = n := by have := h.1; simpa using this
theorem Strs.below {w w' : World} {A : Option Addr} {n : Nat} {l : List ByteArray} (h : Strs w A n l) (hb : Below w.heap.size w w') : Strs w' A n l := Cells.below h hb
theorem Strs.at_ {w : World} {A : Option Addr} {n k : Nat} {l : List ByteArray} (h : Strs w A n l) (hk : k < n) : ∃ ad x, A = some ad ∧ l[k]? = some x ∧ w.cell? (ad.add k) = some (.string x) := by
  obtain ⟨ad, u, e, hx, hc⟩ := Cells.at_ h hk
  rw [List.getElem?_map] at hx
  cases hl : l[k]? with
  | none => rw [hl] at hx; simp at hx
  | some x => rw [hl] at hx; obtain rfl : Value.string x = u := by simpa using hx
              exact ⟨ad, x, e, rfl, hc⟩

end Go.Proofs.Ytpaakpbbahbhcaa.Rowed

/- Words on what may turn between two worlds: only the blocks of one span; and on rows that lie in a span of blocks, read or owned. No condition. -/
namespace Go.Proofs.Ytpaakpbbahbhcaa.Turn
set_option linter.unusedVariables false
open Go.RowKit
open Go.Proofs.Ytpaakpbbahbhcaa.Rowed

/-- of what was there, only blocks from lo on and below hi may have turned -/
structure Turned (lo hi : Nat) (w w' : World) : Prop where
  os : w'.os = w.os
  tape : w'.tape = w.tape
  output : w'.output = w.output
  size : w.heap.size ≤ w'.heap.size
  block : ∀ k, k < w.heap.size → ¬ (lo ≤ k ∧ k < hi) → w'.heap[k]? = w.heap[k]?
/-- the slice 'A, n' reads as the cells xs, and they lie in blocks from lo on and below hi -/
structure Rd (w : World) (size lo hi : Nat) (A : Option Addr) (n : Nat) (xs : List Value) : Prop where
  cells : Cells w size A n xs
  span : ∀ ad, A = some ad → 0 < xs.length → lo ≤ ad.block ∧ ad.block < hi
  top : hi ≤ w.heap.size
theorem Rd.below {w w' : World} {size lo hi n : Nat} {A : Option Addr} {xs : List Value} (h : Rd w size lo hi A n xs) (hb : Below w.heap.size w w') : Rd w' size lo hi A n xs :=
  ⟨h.cells.below hb, h.span, Nat.le_trans h.top hb.size⟩
theorem Rd.turned {w w' : World} {size lo hi a b n : Nat} {A : Option Addr} {xs : List Value} (h : Rd w size lo hi A n xs) (t : Turned a b w w') (hd : hi ≤ a ∨ b ≤ lo) : Rd w' size lo hi A n xs :=
  ⟨⟨h.cells.1, fun hn => by
    obtain ⟨ad, e, hc⟩ := h.cells.2 hn
    have hs := h.span ad e hn
    have ht := h.top
    exact ⟨ad, e, fun j u hu => (World.cell?_of_block (by rw [add_block]; exact t.block _ (by omega) (by omega))).trans (hc j u hu)⟩⟩, h.span, Nat.le_trans h.top t.size⟩
/-- cells that came in -/
theorem Rd.came {w : World} {size n : Nat} {A : Option Addr} {xs : List Value} (h : Cells w size A n xs) : Rd w size 0 w.heap.size A n xs :=
  ⟨h, fun ad e hn => by
    obtain ⟨ad', e', hc⟩ := h.2 hn
    obtain rfl : ad = ad' := by rw [e] at e'; exact Option.some.inj e'
    have h0 := cell_lt (hc 0 _ (List.getElem?_eq_getElem hn))
    rw [add_block] at h0
    exact ⟨Nat.zero_le _, h0⟩, Nat.le_refl _⟩

/-- the slice 'A, n, c' is a row of the call's own with the cells xs, in a block from lo on and below hi -/
structure Ow (w : World) (T : TypeId) (size lo hi : Nat) (A : Option Addr) (n c : Nat) (xs : List Value) : Prop where
  own : w.ownsRow lo T size (.slice A n c) n xs
  span : ∀ q, (Value.slice A n c).ownBlock = some q → q < hi
  top : hi ≤ w.heap.size
theorem Ow.of {w : World} {T : TypeId} {size lo n c : Nat} {A : Option Addr} {xs : List Value} (h : w.ownsRow lo T size (.slice A n c) n xs) : Ow w T size lo w.heap.size A n c xs :=
  ⟨h, fun q hq => (h.lt q hq).2, Nat.le_refl _⟩
theorem Ow.kept {w w' : World} {T : TypeId} {size lo hi a b n c : Nat} {A : Option Addr} {xs : List Value} (h : Ow w T size lo hi A n c xs) (t : Turned a b w w') (hd : hi ≤ a ∨ b ≤ lo) : w'.ownsRow lo T size (.slice A n c) n xs := by
  refine ⟨h.own.1, ?_⟩
  rcases h.own.2 with h0 | ⟨g, cap, cur, hv, hb, hh, rest⟩
  · exact .inl h0
  · have hg : g < hi := h.span g (by rw [hv]; rfl)
    have ht := h.top
    exact .inr ⟨g, cap, cur, hv, hb, (t.block g (by omega) (by omega)).trans hh, rest⟩
theorem Ow.turned {w w' : World} {T : TypeId} {size lo hi a b n c : Nat} {A : Option Addr} {xs : List Value} (h : Ow w T size lo hi A n c xs) (t : Turned a b w w') (hd : hi ≤ a ∨ b ≤ lo) : Ow w' T size lo hi A n c xs :=
  ⟨h.kept t hd, h.span, Nat.le_trans h.top t.size⟩
theorem Turned.of_below {w w' : World} (h : Below w.heap.size w w') : Turned 0 0 w w' := ⟨h.os, h.tape, h.output, h.size, fun k hk _ => h.block k hk⟩
theorem Ow.below {w w' : World} {T : TypeId} {size lo hi n c : Nat} {A : Option Addr} {xs : List Value} (h : Ow w T size lo hi A n c xs) (hb : Below w.heap.size w w') : Ow w' T size lo hi A n c xs :=
  h.turned (Turned.of_below hb) (.inr (Nat.zero_le _))
theorem own_cells {w : World} {base n c size : Nat} {A : Option Addr} {e : TypeId} {xs : List Value} (h : w.ownsRow base e size (.slice A n c) n xs) : Cells w size A n xs := by
  rcases h.2 with ⟨hv, h0⟩ | ⟨g, cap, cur, hv, _⟩
  · subst h0
    have := h.1
    exact ⟨this, fun hn => by rw [Nat.zero_mul] at this; omega⟩
  · injection hv with e1 e2 e3
    subst e1
    exact Cells.of_own h
theorem Ow.cells {w : World} {T : TypeId} {size lo hi n c : Nat} {A : Option Addr} {xs : List Value} (h : Ow w T size lo hi A n c xs) : Cells w size A n xs := own_cells h.own
theorem Ow.written {w w' : World} {T : TypeId} {size lo hi n c : Nat} {A : Option Addr} {xs ys : List Value} (h : Ow w T size lo hi A n c xs) (hs : w.heap.size ≤ w'.heap.size) (ho : w'.ownsRow lo T size (.slice A n c) n ys) : Ow w' T size lo hi A n c ys :=
  ⟨ho, h.span, Nat.le_trans h.top hs⟩

/-- the answer has no memory, and nothing has turned -/
def Gives (v : Value) (w : World) (e : Ending) (w' : World) : Prop := e = .returned v ∧ Below w.heap.size w w'
end Go.Proofs.Ytpaakpbbahbhcaa.Turn

/- Small words on types' facts, on classes of worlds, and on rows that are written. No condition. -/
namespace Go.Proofs.Ytpaakpbbahbhcaa.Aid
set_option linter.unusedVariables false
open Go.RowKit
open Go.Proofs.Ytpaakpbbahbhcaa.Rowed Go.Proofs.Ytpaakpbbahbhcaa.Turn

theorem info_parts {P : Program} {T : TypeId} {z : Value} {s b : Nat} (h : (P.info? T).map (fun i => (i.zero, i.size, i.bytes)) = some (some z, s, b)) : ∃ i, P.info? T = some i ∧ i.zero = some z ∧ i.size = s ∧ i.bytes = b := by
  cases hi : P.info? T with
  | none => rw [hi] at h; simp at h
  | some i => rw [hi] at h; simp at h; exact ⟨i, rfl, h.1, h.2.1, h.2.2⟩
theorem below_class {X Y : World} (h : ∃ p : Regrown, Y = Go.Sort.grow (redrawn X p.d) p.os) : Below X.heap.size X Y := by
  obtain ⟨⟨d, os⟩, rfl⟩ := h; exact below_regrown _ _ _
theorem grown_of {W W' : World} (h : Below W.heap.size W W') : W.grownBy W' none := ⟨h.os, h.tape, h.output, h.size, fun k hk _ => h.block k hk⟩
theorem grown_weak {W W' : World} (h : W.grownBy W' none) (g : Nat) : W.grownBy W' (some g) := ⟨h.os, h.tape, h.output, h.size, fun k hk _ => h.block k hk (by simp)⟩
theorem grown_tr {a b c : World} {r : Option Nat} (h : a.grownBy b r) (k : b.grownBy c r) : a.grownBy c r :=
  ⟨k.os.trans h.os, k.tape.trans h.tape, k.output.trans h.output, Nat.le_trans h.size k.size, fun i hi hr => (k.block i (Nat.lt_of_lt_of_le hi h.size) hr).trans (h.block i hi hr)⟩
theorem grown_refl (w : World) (r : Option Nat) : w.grownBy w r := ⟨rfl, rfl, rfl, Nat.le_refl _, fun _ _ _ => rfl⟩
end Go.Proofs.Ytpaakpbbahbhcaa.Aid

/- Words on memory for the contracts of plain functions. No condition. -/
namespace Go.Proofs.Ytpaakpbbahbhcaa.GoM
set_option linter.unusedVariables false
open Go.RowKit
open Go.Proofs.Ytpaakpbbahbhcaa.Rowed Go.Proofs.Ytpaakpbbahbhcaa.Turn

theorem box_new (w : World) (cs : List Value) (T : TypeId) (j : Nat) (u : Value) (h : cs[j]? = some u) : (w.alloc (.cells ⟨cs⟩ T)).cell? ⟨w.heap.size, j, none⟩ = some u := by
  have hb : (w.alloc (.cells ⟨cs⟩ T)).heap[w.heap.size]? = some (.cells ⟨cs⟩ T) := heap_alloc_new w _
  unfold World.cell?
  rw [hb]
  simpa using h
theorem size_list (s : ByteArray) : s.toList.length = s.size := by rw [Lib.toList_data]; rfl
theorem byte_rule {s : ByteArray} {n : Nat} {y : UInt8} (l : n < s.toList.length) (g : s.toList[n]? = some y) : ∀ h : n < s.size, s[n]'h = y := by
  intro h
  have e := List.getElem?_eq_getElem l
  rw [g] at e
  have := Option.some.inj e
  rw [this]
  simp [Lib.toList_data]
  rfl
theorem own_empty {w wc : World} {T K : Nat} (h : w.heap.size ≤ wc.heap.size) : (wc.alloc (.cells #[] T)).ownsRow w.heap.size T K (.slice (some ⟨wc.heap.size, 0, none⟩) 0 0) 0 [] :=
  ⟨by simp, .inr ⟨wc.heap.size, 0, #[], rfl, h, heap_alloc_new wc _, Nat.le_refl _, by unfold maxLen; omega, by simp, by simp⟩⟩
theorem own_laid {w wc : World} {T K n : Nat} {cs : List Value} {xs : List Value} (h : w.heap.size ≤ wc.heap.size) (hx : cs = xs) (hl : cs.length = n * K) (hn : n ≤ maxLen) : (wc.alloc (.cells ⟨cs⟩ T)).ownsRow w.heap.size T K (.slice (some ⟨wc.heap.size, 0, none⟩) n n) n xs := by
  subst hx
  exact ⟨hl, .inr ⟨wc.heap.size, n, ⟨cs⟩, rfl, h, heap_alloc_new wc _, Nat.le_refl _, hn, by simpa using hl, by rw [← hl]; simp⟩⟩
theorem add_flat (b o n : Nat) : (⟨b, o, none⟩ : Addr).add n = ⟨b, o + n, none⟩ := by
  unfold Addr.add; split
  · rename_i h; subst h; rfl
  · rfl
theorem own_nil {w : World} {b T K : Nat} : w.ownsRow b T K (.slice none 0 0) 0 [] := ⟨by simp, .inl ⟨rfl, rfl⟩⟩
theorem own_lower {w : World} {b base n size : Nat} {v : Value} {e : TypeId} {xs : List Value} (h : w.ownsRow base e size v n xs) (hb : b ≤ base) : w.ownsRow b e size v n xs :=
  ⟨h.1, by
    rcases h.2 with h0 | ⟨g, cap, cur, hv, hb', rest⟩
    · exact .inl h0
    · exact .inr ⟨g, cap, cur, hv, Nat.le_trans hb hb', rest⟩⟩
theorem own_below {w w' : World} {base n size : Nat} {v : Value} {e : TypeId} {xs : List Value} (h : w.ownsRow base e size v n xs) (hb : Below w.heap.size w w') : w'.ownsRow base e size v n xs :=
  h.kept (Aid.grown_of hb) (by cases v.ownBlock <;> simp)
theorem news_new {w w2 : World} {cs : List Value} {T : TypeId} (h : w.alloc (.cells ⟨cs⟩ T) = w2) : ∀ j u, cs[j]? = some u → w2.cell? ((⟨w.heap.size, 0, none⟩ : Addr).add j) = some u := by
  intro j u hu
  subst h
  have : (⟨w.heap.size, 0, none⟩ : Addr).add j = ⟨w.heap.size, j, none⟩ := by
    unfold Addr.add; split
    · rename_i hj; subst hj; rfl
    · simp
  rw [this]
  exact box_new w cs T j u hu
theorem one_cells {l : List Value} (h : l.all (fun u => u.oneCell') = true) : ∀ u ∈ l, u.oneCell' = true := fun u hu => List.all_eq_true.1 h u hu
/-- the walk stands here -/
def Stop (p : Prop) : Prop := p
theorem stop_in {p : Prop} (h : Stop p) : p := h
theorem stop_out {p : Prop} (h : p) : Stop p := h
/-- two rows lie in different blocks -/
def Apart (A B : Option Addr) : Prop := ∀ a b, A = some a → B = some b → a.block ≠ b.block
theorem Apart.symm {A B : Option Addr} (h : Apart A B) : Apart B A := fun a b ha hb e => h b a hb ha e.symm
theorem own_lt {w : World} {b T K n m c : Nat} {A : Option Addr} {xs : List Value} (h : w.ownsRow b T K (.slice A m c) n xs) (a : Addr) (ha : A = some a) : b ≤ a.block ∧ a.block < w.heap.size := by
  subst ha
  exact h.lt a.block rfl
theorem apart_fresh {w : World} {b T K n m c : Nat} {A : Option Addr} {xs : List Value} (h : w.ownsRow b T K (.slice A m c) n xs) : Apart (some ⟨w.heap.size, 0, none⟩) A := by
  intro a a' ha ha' e
  have := (own_lt h a' ha').2
  injection ha with ha
  subst ha
  simp at e
  omega
theorem apart_call {w w1 : World} {b T K n m c T' K' n' m' c' : Nat} {A B : Option Addr} {xs ys : List Value} (h1 : w1.ownsRow w.heap.size T K (.slice A m c) n xs) (h : w.ownsRow b T' K' (.slice B m' c') n' ys) : Apart A B := by
  intro a a' ha ha' e
  have := (own_lt h a' ha').2
  have := (own_lt h1 a ha).1
  omega
theorem apart_box {w : World} {g j : Nat} {v : Value} (h : w.cell? ⟨g, j, none⟩ = some v) : Apart (some ⟨w.heap.size, 0, none⟩) (some ⟨g, 0, none⟩) := by
  intro a a' ha ha' e
  have hl : g < w.heap.size := cell_lt h
  injection ha with ha
  injection ha' with ha'
  subst ha
  subst ha'
  simp at e
  omega
theorem apart_callbox {w w1 : World} {T K n m c g j : Nat} {A : Option Addr} {xs : List Value} {v : Value} (h1 : w1.ownsRow w.heap.size T K (.slice A m c) n xs) (h : w.cell? ⟨g, j, none⟩ = some v) : Apart A (some ⟨g, 0, none⟩) := by
  intro a a' ha ha' e
  have hl : g < w.heap.size := cell_lt h
  have := (own_lt h1 a ha).1
  injection ha' with ha'
  subst ha'
  simp at e
  omega
theorem own_other {w w' : World} {b T K n m c n' c' : Nat} {A B : Option Addr} {ys : List Value} (h : w.ownsRow b T K (.slice B m c) n ys) (hg : w.grownBy w' (Value.slice A n' c').ownBlock) (hD : Apart A B) : w'.ownsRow b T K (.slice B m c) n ys := by
  refine h.kept hg ?_
  cases B with
  | none => exact .inl rfl
  | some y =>
    refine .inr ?_
    cases A with
    | none => simp [Value.ownBlock]
    | some x => simp only [Value.ownBlock, ne_eq, Option.some.injEq]; exact fun e => hD x y rfl rfl e.symm
theorem cell_other {w w' : World} {n' c' : Nat} {A : Option Addr} {a : Addr} {v : Value} (h : w.cell? a = some v) (hg : w.grownBy w' (Value.slice A n' c').ownBlock) (hD : Apart A (some ⟨a.block, 0, none⟩)) : w'.cell? a = some v := by
  rw [World.cell?_of_block (hg.block a.block (cell_lt h) ?_)]
  · exact h
  · cases A with
    | none => simp [Value.ownBlock]
    | some x => simp only [Value.ownBlock, ne_eq, Option.some.injEq]; exact fun e => hD x _ rfl rfl e.symm
theorem apart_old {wr : World} {b T K n m c g : Nat} {A : Option Addr} {xs : List Value} (h : wr.ownsRow b T K (.slice A m c) n xs) (hg : g < b) : Apart A (some ⟨g, 0, none⟩) := by
  intro a a' ha ha' e
  have := (own_lt h a ha).1
  injection ha' with ha'
  subst ha'
  simp at e
  omega
theorem own_len {w : World} {b T K n m c : Nat} {A : Option Addr} {xs : List Value} (h : m = n) (hO : w.ownsRow b T K (.slice A n c) n xs) : w.ownsRow b T K (.slice A m c) m xs := by subst h; exact hO
theorem own_max {w : World} {b T K n c : Nat} {A : Option Addr} {xs : List Value} (h : w.ownsRow b T K (.slice A n c) n xs) : n ≤ 9223372036854775807 := by
  rcases h.2 with ⟨_, h0⟩ | ⟨g, cap, cur, hv, _, _, h1, h2, _⟩
  · omega
  · unfold maxLen at h2; omega
theorem own_some {w : World} {b T K n c : Nat} {A : Option Addr} {xs : List Value} (h : w.ownsRow b T K (.slice A n c) n xs) (hn : 0 < n) : ∃ g, A = some ⟨g, 0, none⟩ := by
  rcases h.2 with ⟨_, h0⟩ | ⟨g, cap, cur, hv, _⟩
  · omega
  · injection hv with e1; exact ⟨g, e1⟩
theorem own_stores {b T K n c g : Nat} (ps : List (Nat × Value)) : ∀ {w : World} {xs : List Value}, w.ownsRow b T K (.slice (some ⟨g, 0, none⟩) n c) n xs →
    (ps.foldl (fun w p => w.setCell ⟨g, p.1, none⟩ p.2) w).ownsRow b T K (.slice (some ⟨g, 0, none⟩) n c) n (ps.foldl (fun xs p => xs.set p.1 p.2) xs) ∧ w.grownBy (ps.foldl (fun w p => w.setCell ⟨g, p.1, none⟩ p.2) w) (some g) := by
  induction ps with
  | nil => intro w xs h; exact ⟨h, Aid.grown_refl _ _⟩
  | cons p ps ih =>
    intro w xs h
    have h1 := h.stored p.1 p.2
    have h2 := ih h1.1
    exact ⟨h2.1, Aid.grown_tr h1.2 h2.2⟩
theorem flat_set {α : Type} (f : α → List Value) (K : Nat) (hK : ∀ x, (f x).length = K) : ∀ (l : List α) (k j : Nat) (s1 s2 : α) (v : Value), k < l.length → j < K → (f s1).set j v = f s2 → ((l.set k s1).flatMap f).set (k * K + j) v = (l.set k s2).flatMap f := by
  intro l
  induction l with
  | nil => intro k j s1 s2 v hk; simp at hk
  | cons x l ih =>
    intro k j s1 s2 v hk hj hc
    cases k with
    | zero =>
      simp only [List.set_cons_zero, List.flatMap_cons, Nat.zero_mul, Nat.zero_add]
      rw [List.set_append_left _ _ (by rw [hK]; exact hj), hc]
    | succ k =>
      simp only [List.set_cons_succ, List.flatMap_cons]
      rw [List.set_append_right _ _ (by rw [hK, Nat.add_mul]; omega), hK, show (k + 1) * K + j - K = k * K + j by rw [Nat.add_mul]; omega, ih k j s1 s2 v (by simpa using hk) hj hc]
theorem set_self {α : Type} {l : List α} {k : Nat} {x : α} (h : l[k]? = some x) : l.set k x = l := by
  obtain ⟨hk, e⟩ := List.getElem?_eq_some_iff.1 h
  rw [← e]; simp
theorem map_flat {α : Type} (g : α → Value) (l : List α) : l.map g = l.flatMap (fun x => [g x]) := by
  induction l with
  | nil => rfl
  | cons x l ih => simp [List.flatMap_cons, ih]
theorem made_flat {α : Type} (f : α → List Value) (x0 : α) (z : Value) (K n : Nat) (hz : z.cells.toList = f x0) (hK : z.cells.size = K) (hp : 0 < K) : (madeCells z.cells (n * K)).toList = (List.replicate n x0).flatMap f := by
  have hl : (f x0).length = K := by rw [← hz, ← hK]; simp
  have hr : ∀ n, (List.range (n * K)).map (fun i => z.cells[i % z.cells.size]!) = (List.replicate n x0).flatMap f := by
    intro n
    induction n with
    | zero => simp
    | succ n ih =>
      rw [List.replicate_succ', List.flatMap_append, ← ih, Nat.add_mul, Nat.one_mul, List.range_add, List.map_append]
      congr 1
      simp only [List.map_map, List.flatMap_cons, List.flatMap_nil, List.append_nil]
      apply List.ext_getElem
      · simp [hl]
      · intro i h1 h2
        have hi : i < K := by simpa using h1
        simp only [List.getElem_map, List.getElem_range, Function.comp]
        rw [hK, Nat.add_comm, Nat.add_mul_mod_self_right, Nat.mod_eq_of_lt hi]
        have h3 : i < z.cells.size := by omega
        rw [getElem!_pos z.cells i h3]
        have : z.cells.toList[i]'(by simpa using h3) = z.cells[i] := by simp
        rw [← this]
        congr 1
  unfold madeCells
  rw [← hr n]
  simp
/-- a row is no longer than its room; nil has none -/
def Room (A : Option Addr) (n c : Nat) : Prop := n ≤ c ∧ (A = none → c = 0)
theorem own_room {w : World} {b T K n c : Nat} {A : Option Addr} {xs : List Value} (h : w.ownsRow b T K (.slice A n c) n xs) : Room A n c := by
  rcases h.2 with ⟨h1, h2⟩ | ⟨g, cap, cur, h1, _, _, hr, _⟩
  · simp only [Value.slice.injEq] at h1
    exact ⟨by omega, fun _ => by omega⟩
  · simp only [Value.slice.injEq] at h1
    exact ⟨by omega, fun e => by rw [h1.1] at e; simp at e⟩
theorem flat_drop {α : Type} (f : α → List Value) (K : Nat) (hK : ∀ x, (f x).length = K) : ∀ (l : List α) (j : Nat), (l.flatMap f).drop (j * K) = (l.drop j).flatMap f := by
  intro l
  induction l with
  | nil => intro j; simp
  | cons x l ih =>
    intro j
    cases j with
    | zero => simp
    | succ j =>
      have e : (j + 1) * K = (f x).length + j * K := by rw [hK x, Nat.add_mul]; omega
      rw [List.flatMap_cons, e, List.drop_append, List.drop_of_length_le (by omega), List.drop_succ_cons, ← ih j]
      simp
theorem flat_take {α : Type} (f : α → List Value) (K : Nat) (hK : ∀ x, (f x).length = K) : ∀ (l : List α) (j : Nat), (l.flatMap f).take (j * K) = (l.take j).flatMap f := by
  intro l
  induction l with
  | nil => intro j; simp
  | cons x l ih =>
    intro j
    cases j with
    | zero => simp
    | succ j =>
      have e : (j + 1) * K = (f x).length + j * K := by rw [hK x, Nat.add_mul]; omega
      rw [List.flatMap_cons, e, List.take_append, List.take_of_length_le (by omega), List.take_succ_cons, List.flatMap_cons, ← ih j]
      simp
/-- append(a, b...) onto a row of its own -/
theorem append_spread {P : Program} {w : World} {ops : Array Oper} {rest : List Oper} {o : Oper} {a : Act} {Q : Exit → Act → World → Prop} (hgd : o.guard = none) (s x : Operand) (t : TypeId)
    (ho : o.op = .call { callee := .builtin .append, args := #[s, x], argTypes := #[t, t] })
    (base : Nat) (e : TypeId) (i : TypeInfo) (z : Value) (size bytes : Nat) (ht : P.underlying t = some (.slice e)) (hi : P.info? e = some i) (hz : i.zero = some z)
    (hsize : i.size = size) (hby : i.bytes = bytes) (hzs : z.cells.size = size) (hsz : 0 < size)
    (A1 : Option Addr) (c1 n : Nat) (xs : List Value) (hs : a.eval s = .slice A1 n c1) (hown : w.ownsRow base e size (.slice A1 n c1) n xs)
    (A : Option Addr) (m c : Nat) (news : List Value) (hx : a.eval x = .slice A m c) (hN : Room A m c) (hc : Cells w size A m news) (h1 : ∀ u ∈ news, u.oneCell' = true)
    (h63 : n + m ≤ maxLen) (hbytes : (n + m) * bytes ≤ 140737488355328) (hbase : base ≤ w.heap.size)
    (h : ∀ v' w', w'.ownsRow base e size v' (n + m) (xs ++ news) → w.grownBy w' (Value.slice A1 n c1).ownBlock → (v'.ownBlock = (Value.slice A1 n c1).ownBlock ∨ v'.ownBlock = some w.heap.size) → wpList P ops Q rest (a.put o.dst v') w') :
    wpList P ops Q (o :: rest) a w := by
  cases A with
  | some ad =>
    refine wpList_append_own_at w hgd s x t ho base e i z size bytes ht hi hz hsize hby hzs hsz _ n xs hs hown ad m c news hx hc.1 (fun j u hu => ?_) h1 h63 hbytes hbase (fun v' w' o1 g1 _ y1 => h v' w' o1 g1 y1)
    obtain ⟨ad', e', hcell⟩ := hc.2 (by have := (List.getElem?_eq_some_iff.1 hu).1; omega)
    obtain rfl : ad = ad' := Option.some.inj e'
    exact hcell j u hu
  | none =>
    have hm : m = 0 := by
      cases news with
      | nil =>
        have h0 : ([] : List Value).length = m * size := hc.1
        rw [List.length_nil] at h0
        rcases Nat.mul_eq_zero.1 h0.symm with h1 | h1 <;> omega
      | cons y l => obtain ⟨ad, e', _⟩ := hc.2 (by simp); simp at e'
    obtain rfl : c = 0 := hN.2 rfl
    subst hm
    have hn : news = [] := List.eq_nil_of_length_eq_zero (by have := hc.1; simpa using this)
    subst hn
    refine Go.wpList_append_own_none hgd s x t ho base e i size ht hi _ n xs hs hown hx ?_
    exact h _ w (by simpa using hown) (World.grownBy.refl w _) (.inl rfl)
theorem own_pushS {α : Type} {f : List α → List Value} {l b t : List α} {w' : World} {bs T K : Nat} {v' : Value} {n : Nat} (ht : l ++ b = t) (hf : f (l ++ b) = f l ++ f b) (hn : l.length = n) (h : w'.ownsRow bs T K v' (n + b.length) (f l ++ f b)) :
    ∃ A cap, v' = .slice A t.length cap ∧ w'.ownsRow bs T K (.slice A t.length cap) t.length (f t) := by
  subst ht
  subst hn
  rw [← List.length_append, ← hf] at h
  rcases h.2 with ⟨h1, h2⟩ | ⟨g3, cap3, _, h2, _⟩
  · have hv : v' = .slice none (l ++ b).length 0 := by rw [h1, h2]
    exact ⟨none, 0, hv, hv ▸ h⟩
  · exact ⟨_, _, h2, h2 ▸ h⟩
/-- w' is w but for two rows and for new blocks -/
structure Grown2 (w w' : World) (A1 A2 : Option Addr) : Prop where
  os : w'.os = w.os
  tape : w'.tape = w.tape
  output : w'.output = w.output
  size : w.heap.size ≤ w'.heap.size
  block : ∀ k, k < w.heap.size → (∀ a, A1 = some a → a.block ≠ k) → (∀ a, A2 = some a → a.block ≠ k) → w'.heap[k]? = w.heap[k]?
end Go.Proofs.Ytpaakpbbahbhcaa.GoM

/- A record Sighting, whose fields are lists too. No condition. -/
namespace Go.Proofs.Ytpaakpbbahbhcaa.PSighting
structure Sighting where
  id : Int
  year : Int
  town : ByteArray
  traits : (List Int)
end Go.Proofs.Ytpaakpbbahbhcaa.PSighting

/- A record Sighting opened into its fields. No condition. -/
namespace Go.Proofs.Ytpaakpbbahbhcaa.GoP
set_option linter.unusedVariables false
open Go.RowKit
def unSighting {ρ : Type} (s : Go.Proofs.Ytpaakpbbahbhcaa.PSighting.Sighting) (f : Int → Int → ByteArray → (List Int) → Option ρ) : Option ρ := f s.id s.year s.town s.traits
theorem unSighting_hid {ρ : Type} {x0 : Int} {x1 : Int} {x2 : ByteArray} {x3 : (List Int)} {f : Int → Int → ByteArray → (List Int) → Option ρ} {r : ρ} (H : Hid (unSighting ⟨x0, x1, x2, x3⟩ f = some r)) : Hid (f x0 x1 x2 x3 = some r) := H
end Go.Proofs.Ytpaakpbbahbhcaa.GoP

/- More words for the contracts of plain functions: a test against nil, a row that is handed over, a row whose end is cleared. No condition. -/
namespace Go.Proofs.Ytpaakpbbahbhcaa.GoK
set_option linter.unusedVariables false
open Go.RowKit
open Go.Proofs.Ytpaakpbbahbhcaa.Rowed Go.Proofs.Ytpaakpbbahbhcaa.Turn Go.Proofs.Ytpaakpbbahbhcaa.GoM

/-- a test of a row against nil: only an empty row can be nil, and then both ways have one answer -/
def nilK {α ρ : Type} (l : List α) (f : Bool → Option ρ) : Option ρ := f false
theorem nilK_hid {α ρ : Type} {l : List α} {f : Bool → Option ρ} {r : ρ} (H : Hid (nilK l f = some r)) (b : Bool) (hb : b = true → l = []) (he : l = [] → f true = f false) : Hid (f b = some r) := by
  have h : f false = some r := H
  cases b with
  | false => exact h
  | true => exact (he (hb rfl)).trans h
theorem nil_cells {w : World} {K n : Nat} {A : Option Addr} {α : Type} {l : List α} {cs : List Value} (h : Cells w K A n cs) (hl : cs = [] → l = []) : A.isNone = true → l = [] := by
  intro hA
  refine hl ?_
  cases hc : cs with
  | nil => rfl
  | cons y ys => obtain ⟨a, e, _⟩ := h.2 (by rw [hc]; simp); rw [e] at hA; simp at hA
/-- where a row lies that a function hands on: where another one lay, or behind all that was there -/
def From (w : World) (A A' : Option Addr) : Prop := ∀ a', A' = some a' → (∃ a, A = some a ∧ a.block = a'.block) ∨ w.heap.size ≤ a'.block
theorem apart_from {w : World} {A A' B : Option Addr} (hD : Apart A B) (hB : ∀ a, B = some a → a.block < w.heap.size) (h : From w A A') : Apart A' B := by
  intro a a' ha ha' e
  have hl := hB a' ha'
  rcases h a ha with ⟨a2, h2, e2⟩ | h2
  · exact hD a2 a' h2 ha' (e2.trans e)
  · omega
end Go.Proofs.Ytpaakpbbahbhcaa.GoK

/- Rows of rows: a row of slices, each of which is a row of its own, all apart from each other. No condition. -/
namespace Go.Proofs.Ytpaakpbbahbhcaa.GoN
set_option linter.unusedVariables false
open Go.RowKit
open Go.Proofs.Ytpaakpbbahbhcaa.Rowed Go.Proofs.Ytpaakpbbahbhcaa.Turn Go.Proofs.Ytpaakpbbahbhcaa.GoM Go.Proofs.Ytpaakpbbahbhcaa.GoK

/-- the cells of a row of slices whose headers are hs -/
def heads {F : Type} (l : List (List F)) (hs : List (Option Addr × Nat)) : List Value := (l.zip hs).map fun p => Value.slice p.2.1 p.1.length p.2.2
/-- l, laid as rows of its own; B: where they lie -/
def OwnNest {F : Type} (w : World) (b T rT rK : Nat) (f : List F → List Value) (A : Option Addr) (c : Nat) (l : List (List F)) (B : List (Option Addr)) : Prop :=
  ∃ hs : List (Option Addr × Nat), hs.length = l.length ∧ w.ownsRow b T 1 (.slice A l.length c) l.length (heads l hs) ∧
    (∀ (i : Nat) x h, l[i]? = some x → hs[i]? = some h → w.ownsRow b rT rK (.slice h.1 x.length h.2) x.length (f x)) ∧ B = A :: hs.map (·.1) ∧ B.Pairwise Apart
/-- l reads as rows -/
def ReadNest {F : Type} (w : World) (rK : Nat) (f : List F → List Value) (A : Option Addr) (l : List (List F)) : Prop :=
  ∃ hs : List (Option Addr × Nat), hs.length = l.length ∧ Cells w 1 A l.length (heads l hs) ∧
    ∀ (i : Nat) x h, l[i]? = some x → hs[i]? = some h → Cells w rK h.1 x.length (f x) ∧ Room h.1 x.length h.2 ∧ x.length ≤ 9223372036854775807

section
variable {F : Type} {w w' : World} {b T rT rK c : Nat} {f : List F → List Value} {A : Option Addr} {l : List (List F)} {B : List (Option Addr)}

theorem nest_below (h : OwnNest w b T rT rK f A c l B) (hb : Below w.heap.size w w') : OwnNest w' b T rT rK f A c l B := by
  obtain ⟨hs, h1, h2, h3, h4, h5⟩ := h
  exact ⟨hs, h1, own_below h2 hb, fun i x h hx hh => own_below (h3 i x h hx hh) hb, h4, h5⟩
/-- another row is written -/
theorem nest_other {n' c' : Nat} {A' : Option Addr} (h : OwnNest w b T rT rK f A c l B) (hg : w.grownBy w' (Value.slice A' n' c').ownBlock) (hD : ∀ x ∈ B, Apart A' x) : OwnNest w' b T rT rK f A c l B := by
  obtain ⟨hs, h1, h2, h3, h4, h5⟩ := h
  subst h4
  refine ⟨hs, h1, own_other h2 hg (hD _ (by simp)), fun i x h hx hh => own_other (h3 i x h hx hh) hg (hD _ ?_), rfl, h5⟩
  exact List.mem_cons_of_mem _ (List.mem_map.2 ⟨h, List.mem_of_getElem? hh, rfl⟩)
theorem nest_lt (h : OwnNest w b T rT rK f A c l B) : ∀ x ∈ B, ∀ a, x = some a → b ≤ a.block ∧ a.block < w.heap.size := by
  obtain ⟨hs, h1, h2, h3, rfl, h5⟩ := h
  intro x hx a ha
  rcases List.mem_cons.1 hx with rfl | hx
  · exact own_lt h2 a ha
  · obtain ⟨h, hh, rfl⟩ := List.mem_map.1 hx
    obtain ⟨i, hi⟩ := List.getElem?_of_mem hh
    have hil := (List.getElem?_eq_some_iff.1 hi).1
    exact own_lt (h3 i l[i] h (List.getElem?_eq_getElem (by omega)) hi) a ha
/-- what is laid now is apart from all of it -/
theorem nest_fresh (h : OwnNest w b T rT rK f A c l B) : ∀ x ∈ B, Apart (some ⟨w.heap.size, 0, none⟩) x := by
  intro x hx a a' ha ha' e
  have := (nest_lt h x hx a' ha').2
  injection ha with ha
  subst ha
  simp at e
  omega
theorem nest_call {w1 : World} {T' K' n m c' : Nat} {A' : Option Addr} {xs : List Value} (h1 : w1.ownsRow w.heap.size T' K' (.slice A' m c') n xs) (h : OwnNest w b T rT rK f A c l B) : ∀ x ∈ B, Apart A' x := by
  intro x hx a a' ha ha' e
  have := (nest_lt h x hx a' ha').2
  have := (own_lt h1 a ha).1
  omega
theorem nest_empty {wc : World} (h : b ≤ wc.heap.size) : OwnNest (wc.alloc (.cells #[] T)) b T rT rK f (some ⟨wc.heap.size, 0, none⟩) 0 ([] : List (List F)) [some ⟨wc.heap.size, 0, none⟩] :=
  ⟨[], rfl, ⟨by simp [heads], .inr ⟨wc.heap.size, 0, #[], rfl, h, heap_alloc_new wc _, Nat.le_refl _, by unfold maxLen; omega, by simp, by simp [heads]⟩⟩, fun i x h hx _ => by simp at hx, rfl, by simp⟩
theorem heads_at {hs : List (Option Addr × Nat)} {i : Nat} {x : List F} {h : Option Addr × Nat} (hx : l[i]? = some x) (hh : hs[i]? = some h) : (heads l hs)[i]? = some (.slice h.1 x.length h.2) := by
  unfold heads
  rw [List.getElem?_map, (List.getElem?_zip_eq_some (z := (x, h))).2 ⟨hx, hh⟩]; rfl
theorem heads_len {hs : List (Option Addr × Nat)} (h : hs.length = l.length) : (heads l hs).length = l.length := by unfold heads; rw [List.length_map, List.length_zip]; omega
theorem nest_read (h : OwnNest w b T rT rK f A c l B) : ReadNest w rK f A l := by
  obtain ⟨hs, h1, h2, h3, h4, h5⟩ := h
  exact ⟨hs, h1, own_cells h2, fun i x h hx hh => ⟨own_cells (h3 i x h hx hh), own_room (h3 i x h hx hh), own_max (h3 i x h hx hh)⟩⟩
theorem read_below (h : ReadNest w rK f A l) (hb : Below w.heap.size w w') : ReadNest w' rK f A l := by
  obtain ⟨hs, h1, h2, h3⟩ := h
  exact ⟨hs, h1, Cells.below h2 hb, fun i x h hx hh => ⟨Cells.below (h3 i x h hx hh).1 hb, (h3 i x h hx hh).2⟩⟩
/-- the slice at k -/
theorem nest_at {k : Nat} (h : ReadNest w rK f A l) (hk : k < l.length) : ∃ (bb o : Nat) (x : List F) (A1 : Option Addr) (c1 : Nat), A = some ⟨bb, o, none⟩ ∧ l[k]? = some x ∧ w.cell? ⟨bb, o + k, none⟩ = some (.slice A1 x.length c1) ∧
    Cells w rK A1 x.length (f x) ∧ Room A1 x.length c1 ∧ x.length ≤ 9223372036854775807 := by
  obtain ⟨hs, h1, h2, h3⟩ := h
  have hx := List.getElem?_eq_getElem hk
  have hh := List.getElem?_eq_getElem (show k < hs.length by omega)
  obtain ⟨⟨bb, o, sp⟩, e, hc⟩ := h2.2 (by rw [heads_len h1]; omega)
  have h0 := hc 0 _ (heads_at (List.getElem?_eq_getElem (show 0 < l.length by omega)) (List.getElem?_eq_getElem (show 0 < hs.length by omega)))
  obtain rfl : sp = none := cell_spot (b := bb) (o := o) h0
  have h4 := hc k _ (heads_at hx hh)
  rw [add_flat] at h4
  obtain ⟨r1, r2, r3⟩ := h3 k _ _ hx hh
  exact ⟨bb, o, l[k], hs[k].1, hs[k].2, e, hx, h4, r1, r2, r3⟩
/-- one row more, behind an append of its header -/
theorem nest_push {n' c' cx : Nat} {v' : Value} {Ax : Option Addr} {x : List F} {hs : List (Option Addr × Nat)} (h1 : hs.length = l.length)
    (h3 : ∀ (i : Nat) y h, l[i]? = some y → hs[i]? = some h → w'.ownsRow b rT rK (.slice h.1 y.length h.2) y.length (f y)) (hx : w'.ownsRow b rT rK (.slice Ax x.length cx) x.length (f x))
    (ho : w'.ownsRow b T 1 v' (l.length + 1) (heads l hs ++ [.slice Ax x.length cx])) (hp : (hs.map (·.1) ++ [Ax]).Pairwise Apart) (hv : ∀ a, v'.ownBlock = some a → ∀ y ∈ hs.map (·.1) ++ [Ax], ∀ a', y = some a' → a'.block ≠ a) :
    ∃ g cap, v' = .slice (some ⟨g, 0, none⟩) (l ++ [x]).length cap ∧ OwnNest w' b T rT rK f (some ⟨g, 0, none⟩) cap (l ++ [x]) (some ⟨g, 0, none⟩ :: (hs.map (·.1) ++ [Ax])) := by
  obtain ⟨g, cap, rfl⟩ : ∃ g cap, v' = .slice (some ⟨g, 0, none⟩) (l.length + 1) cap := by
    rcases ho.2 with ⟨_, h⟩ | ⟨g3, cap3, _, h, _⟩
    · omega
    · exact ⟨g3, cap3, h⟩
  have el : (l ++ [x]).length = l.length + 1 := by simp
  refine ⟨g, cap, by rw [el], hs ++ [(Ax, cx)], by simp [h1], ?_, ?_, by simp, ?_⟩
  · rw [el]
    have e : heads (l ++ [x]) (hs ++ [(Ax, cx)]) = heads l hs ++ [.slice Ax x.length cx] := by unfold heads; rw [List.zip_append h1.symm]; simp
    rw [e]; exact ho
  · intro i y h hy hh
    by_cases hi : i < l.length
    · rw [List.getElem?_append_left hi] at hy
      rw [List.getElem?_append_left (by omega)] at hh
      exact h3 i y h hy hh
    · have hi2 := (List.getElem?_eq_some_iff.1 hy).1
      rw [el] at hi2
      obtain rfl : i = l.length := by omega
      rw [List.getElem?_append_right (Nat.le_refl _)] at hy
      rw [List.getElem?_append_right (by omega)] at hh
      simp [h1] at hy hh
      subst hy
      subst hh
      exact hx
  · rw [List.pairwise_cons]
    refine ⟨fun y hy a a' ha ha' e => ?_, hp⟩
    injection ha with ha
    subst ha
    exact hv g rfl y hy a' ha' e.symm
theorem nest_head (h : OwnNest w b T rT rK f A c l B) : A ∈ B := by
  obtain ⟨hs, h1, h2, h3, rfl, h5⟩ := h
  simp
theorem nest_lower {b' : Nat} (h : OwnNest w b T rT rK f A c l B) (hb : b' ≤ b) : OwnNest w b' T rT rK f A c l B := by
  obtain ⟨hs, h1, h2, h3, h4, h5⟩ := h
  exact ⟨hs, h1, own_lower h2 hb, fun i x h hx hh => own_lower (h3 i x h hx hh) hb, h4, h5⟩
/-- what a call has laid lies apart from a row that was there -/
theorem nest_callrow {w1 : World} {b' T' K' n m c' : Nat} {A' : Option Addr} {xs : List Value} (h1 : OwnNest w1 w.heap.size T rT rK f A c l B) (h : w.ownsRow b' T' K' (.slice A' m c') n xs) : ∀ x ∈ B, Apart A' x := by
  intro x hx a a' ha ha' e
  have := (nest_lt h1 x hx a' ha').1
  have := (own_lt h a ha).2
  omega
theorem nest_callbox {w1 : World} {g j : Nat} {v : Value} (h1 : OwnNest w1 w.heap.size T rT rK f A c l B) (h : w.cell? ⟨g, j, none⟩ = some v) : ∀ x ∈ B, Apart (some ⟨g, 0, none⟩) x := by
  intro x hx a a' ha ha' e
  have := (nest_lt h1 x hx a' ha').1
  have hl : g < w.heap.size := cell_lt h
  injection ha with ha
  subst ha
  simp at e
  omega
theorem nest_flip {B B' : List (Option Addr)} (h : ∀ x ∈ B, ∀ y ∈ B', Apart x y) : ∀ y ∈ B', ∀ x ∈ B, Apart y x := fun y hy x hx => (h x hx y hy).symm
/-- the row at k -/
theorem nest_own {k : Nat} (h : OwnNest w b T rT rK f A c l B) (hk : k < l.length) : ∃ (g : Nat) (x : List F) (A1 : Option Addr) (c1 : Nat), A = some ⟨g, 0, none⟩ ∧ l[k]? = some x ∧ w.cell? ⟨g, k, none⟩ = some (.slice A1 x.length c1) ∧
    w.ownsRow b rT rK (.slice A1 x.length c1) x.length (f x) ∧ A1 ∈ B ∧ Apart A A1 := by
  obtain ⟨hs, h1, h2, h3, rfl, h5⟩ := h
  have hx := List.getElem?_eq_getElem hk
  have hh := List.getElem?_eq_getElem (show k < hs.length by omega)
  obtain ⟨g, rfl⟩ := own_some h2 (by omega)
  obtain ⟨ad, e, hc⟩ := (own_cells h2).2 (by rw [heads_len h1]; omega)
  obtain rfl := Option.some.inj e
  have h4 := hc k _ (heads_at hx hh)
  rw [add_flat, Nat.zero_add] at h4
  have hm : hs[k].1 ∈ hs.map (·.1) := List.mem_map.2 ⟨hs[k], List.getElem_mem _, rfl⟩
  exact ⟨g, l[k], hs[k].1, hs[k].2, rfl, hx, h4, h3 k _ _ hx hh, List.mem_cons_of_mem _ hm, (List.pairwise_cons.1 h5).1 _ hm⟩
/-- a row in it has been written -/
theorem nest_store {k g n' c' : Nat} {x x' : List F} {A1 : Option Addr} {c1 : Nat} (h : OwnNest w b T rT rK f (some ⟨g, 0, none⟩) c l B) (hk : l[k]? = some x) (hcell : w.cell? ⟨g, k, none⟩ = some (.slice A1 x.length c1))
    (hx : w'.ownsRow b rT rK (.slice A1 n' c1) n' (f x')) (hn : x'.length = n') (hn2 : x.length = n') (hg : w.grownBy w' (Value.slice A1 n' c').ownBlock) : OwnNest w' b T rT rK f (some ⟨g, 0, none⟩) c (l.set k x') B := by
  subst hn
  obtain ⟨hs, h1, h2, h3, rfl, h5⟩ := h
  have hkl := (List.getElem?_eq_some_iff.1 hk).1
  have hh := List.getElem?_eq_getElem (show k < hs.length by omega)
  obtain ⟨ad, e, hc⟩ := (own_cells h2).2 (by rw [heads_len h1]; omega)
  obtain rfl := Option.some.inj e
  have h4 := hc k _ (heads_at hk hh)
  rw [add_flat, Nat.zero_add, hcell] at h4
  have h4' := Option.some.inj h4
  simp only [Value.slice.injEq] at h4'
  obtain ⟨e1, _, e2⟩ := h4'
  subst e1
  have hap := List.pairwise_cons.1 h5
  have hmk : hs[k].1 ∈ hs.map (·.1) := List.mem_map.2 ⟨hs[k], List.getElem_mem _, rfl⟩
  refine ⟨hs, by rw [List.length_set]; exact h1, ?_, ?_, rfl, h5⟩
  · have e3 : heads (l.set k x') hs = heads l hs := by
      apply List.ext_getElem?
      intro i
      unfold heads
      rw [List.getElem?_map, List.getElem?_map]
      by_cases hi : i < l.length
      · have hi2 : i < hs.length := by omega
        by_cases hik : k = i
        · subst hik
          rw [(List.getElem?_zip_eq_some (z := (x', hs[k]))).2 ⟨by rw [List.getElem?_set_self hkl], hh⟩, (List.getElem?_zip_eq_some (z := (x, hs[k]))).2 ⟨hk, hh⟩]
          simp [hn2]
        · rw [(List.getElem?_zip_eq_some (z := (l[i], hs[i]))).2 ⟨by rw [List.getElem?_set_ne hik]; exact List.getElem?_eq_getElem hi, List.getElem?_eq_getElem hi2⟩,
            (List.getElem?_zip_eq_some (z := (l[i], hs[i]))).2 ⟨List.getElem?_eq_getElem hi, List.getElem?_eq_getElem hi2⟩]
      · rw [List.getElem?_eq_none (by rw [List.length_zip, List.length_set]; omega), List.getElem?_eq_none (by rw [List.length_zip]; omega)]
    rw [e3, List.length_set]
    refine own_other h2 hg ?_
    exact (hap.1 _ hmk).symm
  · intro i y h hy hhi
    by_cases hik : k = i
    · subst hik
      rw [List.getElem?_set_self hkl] at hy
      obtain rfl := Option.some.inj hy
      obtain rfl := Option.some.inj (hh.symm.trans hhi)
      rw [← e2]
      exact hx
    · rw [List.getElem?_set_ne hik] at hy
      refine own_other (h3 i y h hy hhi) hg ?_
      have hi2 := (List.getElem?_eq_some_iff.1 hhi).1
      have hp := List.pairwise_iff_getElem.1 hap.2
      have ei : h = hs[i] := by rw [List.getElem?_eq_getElem hi2] at hhi; exact (Option.some.inj hhi).symm
      rw [ei]
      rcases Nat.lt_or_gt_of_ne hik with h6 | h6
      · have := hp k i (by rw [List.length_map]; omega) (by rw [List.length_map]; omega) h6
        simpa using this
      · have := hp i k (by rw [List.length_map]; omega) (by rw [List.length_map]; omega) h6
        simpa using this.symm
/-- what lies in B' : what lay in B, the row at Ax, and the headers, where they were or behind all -/
def Pushed (w : World) (A Ax : Option Addr) (B B' : List (Option Addr)) : Prop := A ∈ B ∧ Ax ∈ B' ∧ ∀ y ∈ B', y ∈ B ∨ y = Ax ∨ From w A y
theorem apart_push {R Ax : Option Addr} {B' : List (Option Addr)} (hD : ∀ y ∈ B, Apart R y) (hx : Apart R Ax) (hR : ∀ a, R = some a → a.block < w.heap.size) (h : Pushed w A Ax B B') : ∀ y ∈ B', Apart R y := by
  intro y hy
  rcases h.2.2 y hy with h1 | rfl | h1
  · exact hD y h1
  · exact hx
  · exact (apart_from (hD A h.1).symm hR h1).symm
/-- append(rows, row): the row is in the nest from here on, and reads as before -/
theorem nest_app {n' c' : Nat} {v' : Value} {Ax : Option Addr} {cx : Nat} {x : List F} {hs : List (Option Addr × Nat)} {l' : List (List F)} (hl' : l ++ [x] = l') (h1 : hs.length = l.length) (h4 : B = A :: hs.map (·.1))
    (h3 : ∀ (i : Nat) y h, l[i]? = some y → hs[i]? = some h → w.ownsRow b rT rK (.slice h.1 y.length h.2) y.length (f y)) (h5 : B.Pairwise Apart) (hx : w.ownsRow b rT rK (.slice Ax x.length cx) x.length (f x))
    (hD : ∀ y ∈ B, Apart Ax y) (hg : w.grownBy w' (Value.slice A n' c').ownBlock) (ho : w'.ownsRow b T 1 v' (l.length + 1) (heads l hs ++ [.slice Ax x.length cx]))
    (hy : v'.ownBlock = (Value.slice A n' c').ownBlock ∨ v'.ownBlock = some w.heap.size) :
    ∃ g cap B', v' = .slice (some ⟨g, 0, none⟩) l'.length cap ∧ OwnNest w' b T rT rK f (some ⟨g, 0, none⟩) cap l' B' ∧ Pushed w A Ax B B' ∧ w'.ownsRow b rT rK (.slice Ax x.length cx) x.length (f x) := by
  subst hl'
  subst h4
  have hp := List.pairwise_cons.1 h5
  have hx' := own_other hx hg (hD A (by simp)).symm
  have hlt : ∀ y ∈ hs.map (·.1) ++ [Ax], ∀ a, y = some a → a.block < w.heap.size := by
    intro y hy a ha
    rcases List.mem_append.1 hy with hy | hy
    · obtain ⟨h, hh, rfl⟩ := List.mem_map.1 hy
      obtain ⟨i, hi⟩ := List.getElem?_of_mem hh
      have hil := (List.getElem?_eq_some_iff.1 hi).1
      exact (own_lt (h3 i l[i] h (List.getElem?_eq_getElem (by omega)) hi) a ha).2
    · simp at hy; subst hy; exact (own_lt hx a ha).2
  obtain ⟨g, cap, e, hN⟩ := nest_push (c' := c') (n' := n') h1 (fun i y h hy hh => own_other (h3 i y h hy hh) hg (hp.1 _ (List.mem_map.2 ⟨h, List.mem_of_getElem? hh, rfl⟩))) hx' ho
    (List.pairwise_append.2 ⟨hp.2, by simp, fun a ha b hb => by simp at hb; subst hb; exact (hD a (List.mem_cons_of_mem _ ha)).symm⟩)
    (by
      intro a ha y hy a' ha' e
      rcases hy with hy
      rcases ‹v'.ownBlock = _ ∨ _› with h6 | h6
      · rw [ha] at h6
        cases hA : A with
        | none => rw [hA] at h6; simp [Value.ownBlock] at h6
        | some z =>
          rw [hA] at h6
          simp only [Value.ownBlock, Option.some.injEq] at h6
          rcases List.mem_append.1 hy with hy | hy
          · exact hp.1 y hy z a' hA ha' (by omega)
          · simp at hy; subst hy; exact hD A (by simp) a' z ha' hA (by omega)
      · rw [ha] at h6
        have := hlt y hy a' ha'
        simp only [Option.some.injEq] at h6; omega)
  refine ⟨g, cap, _, e, hN, ⟨by simp, by simp, ?_⟩, hx'⟩
  intro y hy
  rcases List.mem_cons.1 hy with rfl | hy
  · right; right
    rw [e] at ‹v'.ownBlock = _ ∨ _›
    intro a' ha'
    injection ha' with ha'
    subst ha'
    rcases ‹_ ∨ _› with h6 | h6
    · left
      cases hA : A with
      | none => rw [hA] at h6; simp [Value.ownBlock] at h6
      | some z => rw [hA] at h6; simp only [Value.ownBlock, Option.some.injEq] at h6; exact ⟨z, rfl, h6.symm⟩
    · right; simp only [Value.ownBlock, Option.some.injEq] at h6; exact Nat.le_of_eq h6.symm
  · rcases List.mem_append.1 hy with hy | hy
    · exact .inl (List.mem_cons_of_mem _ hy)
    · simp at hy; exact .inr (.inl hy)
theorem nest_one {X R : Option Addr} (h : Apart X R) : ∀ y ∈ [X], Apart R y := by
  intro y hy
  simp at hy
  subst hy
  exact h.symm
theorem nest_max (h : OwnNest w b T rT rK f A c l B) : l.length ≤ 9223372036854775807 := by
  obtain ⟨hs, h1, h2, h3, h4, h5⟩ := h
  exact own_max h2
theorem nest_room (h : OwnNest w b T rT rK f A c l B) : Room A l.length c := by
  obtain ⟨hs, h1, h2, h3, h4, h5⟩ := h
  exact own_room h2
/-- w' is w but for what lies in B, and for new blocks -/
structure GrownN (w w' : World) (B : List (Option Addr)) : Prop where
  os : w'.os = w.os
  tape : w'.tape = w.tape
  output : w'.output = w.output
  size : w.heap.size ≤ w'.heap.size
  block : ∀ k, k < w.heap.size → (∀ y ∈ B, ∀ a, y = some a → a.block ≠ k) → w'.heap[k]? = w.heap[k]?
theorem grownN_refl (w : World) (B : List (Option Addr)) : GrownN w w B := ⟨rfl, rfl, rfl, Nat.le_refl _, fun _ _ _ => rfl⟩
theorem grownN_below {wr w2 : World} {B : List (Option Addr)} (h : GrownN w wr B) (hb : Below wr.heap.size wr w2) : GrownN w w2 B :=
  ⟨hb.os.trans h.os, hb.tape.trans h.tape, hb.output.trans h.output, Nat.le_trans h.size hb.size, fun k hk h1 => (hb.block k (Nat.lt_of_lt_of_le hk h.size)).trans (h.block k hk h1)⟩
theorem grownN_row {wr w2 : World} {B : List (Option Addr)} {n c' : Nat} {A1 : Option Addr} (h : GrownN w wr B) (hg : wr.grownBy w2 (Value.slice A1 n c').ownBlock) (hm : A1 ∈ B) : GrownN w w2 B :=
  ⟨hg.os.trans h.os, hg.tape.trans h.tape, hg.output.trans h.output, Nat.le_trans h.size hg.size, fun k hk h1 => (hg.block k (Nat.lt_of_lt_of_le hk h.size) (by
    cases hA : A1 with
    | none => simp [Value.ownBlock]
    | some a => simp only [Value.ownBlock, ne_eq, Option.some.injEq]; exact fun e => h1 _ hm a hA e.symm)).trans (h.block k hk h1)⟩
theorem below_nest {wr w2 : World} {B0 : Nat} {B : List (Option Addr)} (h : Below B0 w wr) (hg : GrownN wr w2 B) (hB : B0 ≤ wr.heap.size) (h1 : ∀ y ∈ B, ∀ a, y = some a → B0 ≤ a.block ∧ a.block < wr.heap.size) : Below B0 w w2 :=
  ⟨hg.os.trans h.os, hg.tape.trans h.tape, hg.output.trans h.output, Nat.le_trans h.size hg.size, fun k hk => (hg.block k (Nat.lt_of_lt_of_le hk hB) (fun y hy a e e2 => by have := (h1 y hy a e).1; omega)).trans (h.block k hk)⟩
theorem own_otherN {b' T' K' n m c' : Nat} {R : Option Addr} {ys : List Value} (h : w.ownsRow b' T' K' (.slice R m c') n ys) (hg : GrownN w w' B) (hD : ∀ y ∈ B, Apart R y) : w'.ownsRow b' T' K' (.slice R m c') n ys := by
  refine ⟨h.1, ?_⟩
  rcases h.2 with hn | ⟨g, cap, cur, hv, hb, hgg, rest⟩
  · exact .inl hn
  · have hlt := (h.lt g (by rw [hv]; rfl)).2
    have hR : R = some ⟨g, 0, none⟩ := by simp only [Value.slice.injEq] at hv; exact hv.1
    refine .inr ⟨g, cap, cur, hv, hb, ?_, rest⟩
    rw [hg.block g hlt (fun y hy a e e2 => hD y hy _ a hR e e2.symm)]
    exact hgg
theorem apart_oldN {wr : World} {b' g : Nat} (h : OwnNest wr b' T rT rK f A c l B) (hg : g < b') : ∀ y ∈ B, Apart (some ⟨g, 0, none⟩) y := by
  intro y hy a a' ha ha' e
  have := (nest_lt h y hy a' ha').1
  injection ha with ha
  subst ha
  simp at e
  omega
theorem nest_otherN {F' : Type} {b' T' rT' rK' c' : Nat} {f' : List F' → List Value} {A' : Option Addr} {l' : List (List F')} {B' : List (Option Addr)} (h : OwnNest w b' T' rT' rK' f' A' c' l' B') (hg : GrownN w w' B) (hD : ∀ x ∈ B', ∀ y ∈ B, Apart x y) : OwnNest w' b' T' rT' rK' f' A' c' l' B' := by
  obtain ⟨hs, h1, h2, h3, rfl, h5⟩ := h
  refine ⟨hs, h1, own_otherN h2 hg (hD _ (by simp)), fun i x h hx hh => own_otherN (h3 i x h hx hh) hg (hD _ ?_), rfl, h5⟩
  exact List.mem_cons_of_mem _ (List.mem_map.2 ⟨h, List.mem_of_getElem? hh, rfl⟩)
end
end Go.Proofs.Ytpaakpbbahbhcaa.GoN

/- Rows of records, each of which holds a row; the held rows are one's own, or they are only to be read. No condition. -/
namespace Go.Proofs.Ytpaakpbbahbhcaa.GoV
set_option linter.unusedVariables false
open Go.RowKit
open Go.Proofs.Ytpaakpbbahbhcaa.Rowed Go.Proofs.Ytpaakpbbahbhcaa.Turn Go.Proofs.Ytpaakpbbahbhcaa.GoM Go.Proofs.Ytpaakpbbahbhcaa.GoK Go.Proofs.Ytpaakpbbahbhcaa.GoN

/-- how a record lies that holds a row -/
structure Lay (E F : Type) where
  K : Nat
  rK : Nat
  hdr : Nat
  row : E → List F
  f : List F → List Value
  enc : E → Option Addr × Nat → List Value
  len : ∀ x h, (enc x h).length = K
  pos : 0 < K
  hat : ∀ x h, (enc x h)[hdr]? = some (.slice h.1 (row x).length h.2)

section
variable {E F : Type} {L : Lay E F}

/-- the cells of records whose rows' headers are hs -/
def cellsOf (L : Lay E F) (l : List E) (hs : List (Option Addr × Nat)) : List Value := (l.zip hs).flatMap fun p => L.enc p.1 p.2
/-- the row of x reads -/
def Held (v : World) (L : Lay E F) (h : Option Addr × Nat) (x : E) : Prop := Cells v L.rK h.1 (L.row x).length (L.f (L.row x)) ∧ Room h.1 (L.row x).length h.2 ∧ (L.row x).length ≤ 9223372036854775807

/-- l reads as records -/
def ReadNest (w : World) (L : Lay E F) (A : Option Addr) (l : List E) : Prop :=
  ∃ hs : List (Option Addr × Nat), hs.length = l.length ∧ Cells w L.K A l.length (cellsOf L l hs) ∧ ∀ (i : Nat) x h, l[i]? = some x → hs[i]? = some h → Held w L h x

/-- l, laid as a row of one's own; the rows of those in p are one's own too, the others read in v; B: where it lies -/
structure Rec (w v : World) (b T rT : Nat) (L : Lay E F) (p : Nat → Bool) (A : Option Addr) (c : Nat) (l : List E) (B : List (Option Addr)) (hs : List (Option Addr × Nat)) : Prop where
  hl : hs.length = l.length
  row : w.ownsRow b T L.K (.slice A l.length c) l.length (cellsOf L l hs)
  own : ∀ (i : Nat) x h, l[i]? = some x → hs[i]? = some h → p i = true → w.ownsRow b rT L.rK (.slice h.1 (L.row x).length h.2) (L.row x).length (L.f (L.row x))
  held : ∀ (i : Nat) x h, l[i]? = some x → hs[i]? = some h → p i = false → Held v L h x
  lt : ∀ y ∈ B, ∀ a, y = some a → b ≤ a.block ∧ a.block < w.heap.size
  head : A ∈ B
  mem : ∀ (i : Nat) h, hs[i]? = some h → p i = true → h.1 ∈ B ∧ Apart A h.1
  sep : ∀ (i j : Nat) h h', i < j → hs[i]? = some h → hs[j]? = some h' → p i = true → p j = true → Apart h.1 h'.1
/-- the same, wherever the headers are -/
def PartNest (w v : World) (b T rT : Nat) (L : Lay E F) (p : Nat → Bool) (A : Option Addr) (c : Nat) (l : List E) (B : List (Option Addr)) : Prop := ∃ hs, Rec w v b T rT L p A c l B hs
/-- all of it one's own -/
def OwnNest (w : World) (b T rT : Nat) (L : Lay E F) (A : Option Addr) (c : Nat) (l : List E) (B : List (Option Addr)) : Prop := ∃ hs, Rec w w b T rT L (fun _ => true) A c l B hs

theorem flat_at {α : Type} {f : α → List Value} {K : Nat} (hK : ∀ x, (f x).length = K) : ∀ (l : List α) (i j : Nat) (x : α) (u : Value), l[i]? = some x → (f x)[j]? = some u → (l.flatMap f)[i * K + j]? = some u := by
  intro l
  induction l with
  | nil => intro i j x u h; simp at h
  | cons y l ih =>
    intro i j x u h hu
    have hj : j < K := by rw [← hK x]; exact (List.getElem?_eq_some_iff.1 hu).1
    cases i with
    | zero =>
      obtain rfl : y = x := by simpa using h
      rw [List.flatMap_cons, Nat.zero_mul, Nat.zero_add, List.getElem?_append_left (by rw [hK]; exact hj)]
      exact hu
    | succ i =>
      rw [List.flatMap_cons, List.getElem?_append_right (by rw [hK, Nat.add_mul]; omega), hK, show (i + 1) * K + j - K = i * K + j by rw [Nat.add_mul]; omega]
      exact ih i j x u (by simpa using h) hu
theorem zip_at {l : List E} {hs : List (Option Addr × Nat)} {i : Nat} {x : E} {h : Option Addr × Nat} (hx : l[i]? = some x) (hh : hs[i]? = some h) : (l.zip hs)[i]? = some (x, h) := List.getElem?_zip_eq_some.2 ⟨hx, hh⟩
theorem cellsOf_at {l : List E} {hs : List (Option Addr × Nat)} {i j : Nat} {x : E} {h : Option Addr × Nat} {u : Value} (hx : l[i]? = some x) (hh : hs[i]? = some h) (hu : (L.enc x h)[j]? = some u) : (cellsOf L l hs)[i * L.K + j]? = some u :=
  flat_at (f := fun p : E × (Option Addr × Nat) => L.enc p.1 p.2) (fun p => L.len p.1 p.2) _ i j (x, h) u (zip_at hx hh) hu
theorem flat_len {α : Type} {f : α → List Value} {K : Nat} (hK : ∀ x, (f x).length = K) (l : List α) : (l.flatMap f).length = l.length * K := by
  induction l with
  | nil => simp
  | cons y l ih => rw [List.flatMap_cons, List.length_append, hK, ih, List.length_cons, Nat.add_mul]; omega
theorem cellsOf_len {l : List E} {hs : List (Option Addr × Nat)} (h : hs.length = l.length) : (cellsOf L l hs).length = l.length * L.K := by
  unfold cellsOf
  rw [flat_len (f := fun p : E × (Option Addr × Nat) => L.enc p.1 p.2) (K := L.K) (fun p => L.len p.1 p.2), List.length_zip]
  rw [h, Nat.min_self]
theorem cellsOf_snoc {l : List E} {hs : List (Option Addr × Nat)} {x : E} {h : Option Addr × Nat} (e : hs.length = l.length) : cellsOf L (l ++ [x]) (hs ++ [h]) = cellsOf L l hs ++ L.enc x h := by
  unfold cellsOf
  rw [List.zip_append e.symm]
  simp
theorem zip_set {l : List E} {hs : List (Option Addr × Nat)} (k : Nat) (x : E) (h : Option Addr × Nat) : (l.set k x).zip (hs.set k h) = (l.zip hs).set k (x, h) := by
  induction l generalizing hs k with
  | nil => simp
  | cons y l ih =>
    cases hs with
    | nil => cases k <;> simp
    | cons z hs =>
      cases k with
      | zero => simp
      | succ k => simp [ih]
theorem set_flat1 {α : Type} (f : α → List Value) (K : Nat) (hK : ∀ x, (f x).length = K) {l : List α} {k j : Nat} {x y : α} {v : Value} (hx : l[k]? = some x) (hj : j < K) (hc : (f x).set j v = f y) : (l.flatMap f).set (k * K + j) v = (l.set k y).flatMap f := by
  have h := flat_set f K hK l k j x y v (List.getElem?_eq_some_iff.1 hx).1 hj hc
  rw [set_self hx] at h
  exact h
/-- one cell of a record is stored, its header stays -/
theorem cellsOf_set {l : List E} {hs : List (Option Addr × Nat)} {k j : Nat} {x x' : E} {h : Option Addr × Nat} {v : Value} (hx : l[k]? = some x) (hh : hs[k]? = some h) (hj : j < L.K) (hc : (L.enc x h).set j v = L.enc x' h) : (cellsOf L l hs).set (k * L.K + j) v = cellsOf L (l.set k x') hs := by
  unfold cellsOf
  rw [set_flat1 (fun p : E × (Option Addr × Nat) => L.enc p.1 p.2) L.K (fun p => L.len p.1 p.2) (zip_at hx hh) hj (y := (x', h)) hc, ← zip_set]
  rw [set_self hh]
/-- values laid one behind the other -/
def laysAt (q : Nat) : List Value → List Value → List Value
  | xs, [] => xs
  | xs, v :: vs => laysAt (q + 1) (xs.set q v) vs
theorem laysAt_eq : ∀ (vs : List Value) (q : Nat) (xs : List Value), q + vs.length ≤ xs.length → laysAt q xs vs = xs.take q ++ vs ++ xs.drop (q + vs.length) := by
  intro vs
  induction vs with
  | nil => intro q xs h; simp [laysAt]
  | cons v vs ih =>
    intro q xs h
    simp only [List.length_cons] at h
    unfold laysAt
    rw [ih (q + 1) (xs.set q v) (by rw [List.length_set]; omega)]
    have hq : q < xs.length := by omega
    rw [List.take_set, List.take_succ_eq_append_getElem hq, List.set_append_right _ _ (by rw [List.length_take]; omega), List.length_take, Nat.min_eq_left (by omega), Nat.sub_self, List.set_cons_zero, List.drop_set_of_lt (by omega)]
    simp only [List.append_assoc, List.cons_append, List.nil_append, List.length_cons]
    rw [show q + 1 + vs.length = q + (vs.length + 1) by omega]
theorem flat_put {α : Type} (f : α → List Value) (K : Nat) (hK : ∀ x, (f x).length = K) {l : List α} {k : Nat} {y : α} (hk : k < l.length) : laysAt (k * K) (l.flatMap f) (f y) = (l.set k y).flatMap f := by
  have hl := flat_len hK l
  have h1 : k * K + K ≤ l.length * K := by
    have : (k + 1) * K ≤ l.length * K := Nat.mul_le_mul_right K hk
    rw [Nat.add_mul] at this; omega
  rw [laysAt_eq _ _ _ (by rw [hK, hl]; exact h1), hK]
  have e : k * K + K = (k + 1) * K := by rw [Nat.add_mul]; omega
  rw [flat_take f K hK, e, flat_drop f K hK, List.set_eq_take_append_cons_drop, if_pos hk, List.flatMap_append, List.flatMap_cons, List.append_assoc]
theorem cellsOf_put {l : List E} {hs : List (Option Addr × Nat)} {k : Nat} {x : E} {h : Option Addr × Nat} (hk : k < l.length) (hl : hs.length = l.length) : laysAt (k * L.K) (cellsOf L l hs) (L.enc x h) = cellsOf L (l.set k x) (hs.set k h) := by
  unfold cellsOf
  rw [zip_set]
  exact flat_put (fun p : E × (Option Addr × Nat) => L.enc p.1 p.2) L.K (fun p => L.len p.1 p.2) (y := (x, h)) (by rw [List.length_zip, hl, Nat.min_self]; exact hk)

variable {w w' v : World} {b T rT c : Nat} {p : Nat → Bool} {A : Option Addr} {l : List E} {B : List (Option Addr)} {hs : List (Option Addr × Nat)}

theorem Rec.anyv {v' : World} (h : Rec w v b T rT L (fun _ => true) A c l B hs) : Rec w v' b T rT L (fun _ => true) A c l B hs := { h with held := fun i x h _ _ e => by simp at e }
theorem Rec.below (h : Rec w v b T rT L p A c l B hs) (hb : Below w.heap.size w w') : Rec w' v b T rT L p A c l B hs :=
  { h with row := own_below h.row hb, own := fun i x z hx hz hp => own_below (h.own i x z hx hz hp) hb, lt := fun y hy a e => ⟨(h.lt y hy a e).1, Nat.lt_of_lt_of_le (h.lt y hy a e).2 hb.size⟩ }
theorem Rec.other {n' c' : Nat} {A' : Option Addr} (h : Rec w v b T rT L p A c l B hs) (hg : w.grownBy w' (Value.slice A' n' c').ownBlock) (hD : ∀ x ∈ B, Apart A' x) : Rec w' v b T rT L p A c l B hs :=
  { h with row := own_other h.row hg (hD _ h.head), own := fun i x z hx hz hp => own_other (h.own i x z hx hz hp) hg (hD _ (h.mem i z hz hp).1), lt := fun y hy a e => ⟨(h.lt y hy a e).1, Nat.lt_of_lt_of_le (h.lt y hy a e).2 hg.size⟩ }
theorem Rec.otherN {B' : List (Option Addr)} (h : Rec w v b T rT L p A c l B hs) (hg : GrownN w w' B') (hD : ∀ x ∈ B, ∀ y ∈ B', Apart x y) : Rec w' v b T rT L p A c l B hs :=
  { h with row := own_otherN h.row hg (hD _ h.head), own := fun i x z hx hz hp => own_otherN (h.own i x z hx hz hp) hg (hD _ (h.mem i z hz hp).1), lt := fun y hy a e => ⟨(h.lt y hy a e).1, Nat.lt_of_lt_of_le (h.lt y hy a e).2 hg.size⟩ }
theorem Rec.lower {b' : Nat} (h : Rec w v b T rT L p A c l B hs) (hb : b' ≤ b) : Rec w v b' T rT L p A c l B hs :=
  { h with row := own_lower h.row hb, own := fun i x z hx hz hp => own_lower (h.own i x z hx hz hp) hb, lt := fun y hy a e => ⟨Nat.le_trans hb (h.lt y hy a e).1, (h.lt y hy a e).2⟩ }
theorem Rec.inP {p' : Nat → Bool} (h : Rec w v b T rT L p A c l B hs) (hp : ∀ i, i < l.length → p i = p' i) : Rec w v b T rT L p' A c l B hs := by
  have hlt : ∀ (i : Nat) z, hs[i]? = some z → i < l.length := fun i z hz => by have := (List.getElem?_eq_some_iff.1 hz).1; have := h.hl; omega
  exact { h with own := fun i x z hx hz e => h.own i x z hx hz ((hp i (hlt i z hz)).trans e), held := fun i x z hx hz e => h.held i x z hx hz ((hp i (hlt i z hz)).trans e), mem := fun i z hz e => h.mem i z hz ((hp i (hlt i z hz)).trans e), sep := fun i j z z' hij hz hz' e e' => h.sep i j z z' hij hz hz' ((hp i (hlt i z hz)).trans e) ((hp j (hlt j z' hz')).trans e') }

theorem nest_below (h : OwnNest w b T rT L A c l B) (hb : Below w.heap.size w w') : OwnNest w' b T rT L A c l B := let ⟨hs, h⟩ := h; ⟨hs, (h.below hb).anyv⟩
theorem nest_other {n' c' : Nat} {A' : Option Addr} (h : OwnNest w b T rT L A c l B) (hg : w.grownBy w' (Value.slice A' n' c').ownBlock) (hD : ∀ x ∈ B, Apart A' x) : OwnNest w' b T rT L A c l B := let ⟨hs, h⟩ := h; ⟨hs, (h.other hg hD).anyv⟩
theorem nest_otherN {B' : List (Option Addr)} (h : OwnNest w b T rT L A c l B) (hg : GrownN w w' B') (hD : ∀ x ∈ B, ∀ y ∈ B', Apart x y) : OwnNest w' b T rT L A c l B := let ⟨hs, h⟩ := h; ⟨hs, (h.otherN hg hD).anyv⟩
theorem nest_lt (h : OwnNest w b T rT L A c l B) : ∀ x ∈ B, ∀ a, x = some a → b ≤ a.block ∧ a.block < w.heap.size := let ⟨_, h⟩ := h; h.lt
theorem nest_head (h : OwnNest w b T rT L A c l B) : A ∈ B := let ⟨_, h⟩ := h; h.head
theorem nest_lower {b' : Nat} (h : OwnNest w b T rT L A c l B) (hb : b' ≤ b) : OwnNest w b' T rT L A c l B := let ⟨hs, h⟩ := h; ⟨hs, h.lower hb⟩
theorem nest_max (h : OwnNest w b T rT L A c l B) : l.length ≤ 9223372036854775807 := let ⟨_, h⟩ := h; own_max h.row
theorem nest_room (h : OwnNest w b T rT L A c l B) : Room A l.length c := let ⟨_, h⟩ := h; own_room h.row
theorem part_below (h : PartNest w v b T rT L p A c l B) (hb : Below w.heap.size w w') : PartNest w' v b T rT L p A c l B := let ⟨hs, h⟩ := h; ⟨hs, h.below hb⟩
theorem part_lt (h : PartNest w v b T rT L p A c l B) : ∀ x ∈ B, ∀ a, x = some a → b ≤ a.block ∧ a.block < w.heap.size := let ⟨_, h⟩ := h; h.lt
theorem part_head (h : PartNest w v b T rT L p A c l B) : A ∈ B := let ⟨_, h⟩ := h; h.head
theorem part_lower {b' : Nat} (h : PartNest w v b T rT L p A c l B) (hb : b' ≤ b) : PartNest w v b' T rT L p A c l B := let ⟨hs, h⟩ := h; ⟨hs, h.lower hb⟩
theorem part_max (h : PartNest w v b T rT L p A c l B) : l.length ≤ 9223372036854775807 := let ⟨_, h⟩ := h; own_max h.row
theorem part_inP {p' : Nat → Bool} (h : PartNest w v b T rT L p A c l B) (hp : ∀ i, i < l.length → p i = p' i) : PartNest w v b T rT L p' A c l B := let ⟨hs, h⟩ := h; ⟨hs, h.inP hp⟩
theorem part_all (h : PartNest w v b T rT L p A c l B) (hp : ∀ i, i < l.length → p i = true) : OwnNest w b T rT L A c l B := let ⟨hs, h⟩ := h; ⟨hs, (h.inP hp).anyv⟩
/-- what is laid now is apart from all of it -/
theorem lt_fresh (h : ∀ y ∈ B, ∀ a, y = some a → b ≤ a.block ∧ a.block < w.heap.size) : ∀ x ∈ B, Apart (some ⟨w.heap.size, 0, none⟩) x := by
  intro x hx a a' ha ha' e
  have := (h x hx a' ha').2
  injection ha with ha
  subst ha
  simp at e
  omega
theorem nest_fresh (h : OwnNest w b T rT L A c l B) : ∀ x ∈ B, Apart (some ⟨w.heap.size, 0, none⟩) x := lt_fresh (nest_lt h)
theorem part_fresh (h : PartNest w v b T rT L p A c l B) : ∀ x ∈ B, Apart (some ⟨w.heap.size, 0, none⟩) x := lt_fresh (part_lt h)
theorem lt_call {w1 : World} {T' K' n m c' : Nat} {A' : Option Addr} {xs : List Value} (h1 : w1.ownsRow w.heap.size T' K' (.slice A' m c') n xs) (h : ∀ y ∈ B, ∀ a, y = some a → b ≤ a.block ∧ a.block < w.heap.size) : ∀ x ∈ B, Apart A' x := by
  intro x hx a a' ha ha' e
  have := (h x hx a' ha').2
  have := (own_lt h1 a ha).1
  omega
theorem nest_call {w1 : World} {T' K' n m c' : Nat} {A' : Option Addr} {xs : List Value} (h1 : w1.ownsRow w.heap.size T' K' (.slice A' m c') n xs) (h : OwnNest w b T rT L A c l B) : ∀ x ∈ B, Apart A' x := lt_call h1 (nest_lt h)
theorem part_call {w1 : World} {T' K' n m c' : Nat} {A' : Option Addr} {xs : List Value} (h1 : w1.ownsRow w.heap.size T' K' (.slice A' m c') n xs) (h : PartNest w v b T rT L p A c l B) : ∀ x ∈ B, Apart A' x := lt_call h1 (part_lt h)
/-- what a call has laid lies apart from a row that was there -/
theorem lt_callrow {w1 : World} {b' T' K' n m c' : Nat} {A' : Option Addr} {xs : List Value} (h1 : ∀ y ∈ B, ∀ a, y = some a → w.heap.size ≤ a.block ∧ a.block < w1.heap.size) (h : w.ownsRow b' T' K' (.slice A' m c') n xs) : ∀ x ∈ B, Apart A' x := by
  intro x hx a a' ha ha' e
  have := (h1 x hx a' ha').1
  have := (own_lt h a ha).2
  omega
theorem nest_callrow {w1 : World} {b' T' K' n m c' : Nat} {A' : Option Addr} {xs : List Value} (h1 : OwnNest w1 w.heap.size T rT L A c l B) (h : w.ownsRow b' T' K' (.slice A' m c') n xs) : ∀ x ∈ B, Apart A' x := lt_callrow (nest_lt h1) h
theorem lt_callbox {w1 : World} {g j : Nat} {u : Value} (h1 : ∀ y ∈ B, ∀ a, y = some a → w.heap.size ≤ a.block ∧ a.block < w1.heap.size) (h : w.cell? ⟨g, j, none⟩ = some u) : ∀ x ∈ B, Apart (some ⟨g, 0, none⟩) x := by
  intro x hx a a' ha ha' e
  have := (h1 x hx a' ha').1
  have hl : g < w.heap.size := cell_lt h
  injection ha with ha
  subst ha
  simp at e
  omega
theorem nest_callbox {w1 : World} {g j : Nat} {u : Value} (h1 : OwnNest w1 w.heap.size T rT L A c l B) (h : w.cell? ⟨g, j, none⟩ = some u) : ∀ x ∈ B, Apart (some ⟨g, 0, none⟩) x := lt_callbox (nest_lt h1) h
theorem lts_apart {n m : Nat} {B' : List (Option Addr)} (h1 : ∀ y ∈ B, ∀ a, y = some a → n ≤ a.block ∧ a.block < m) {n' : Nat} (h : ∀ y ∈ B', ∀ a, y = some a → n' ≤ a.block ∧ a.block < n) : ∀ x ∈ B, ∀ y ∈ B', Apart x y := by
  intro x hx y hy a a' ha ha' e
  have := (h1 x hx a ha).1
  have := (h y hy a' ha').2
  omega
theorem apart_oldN {wr : World} {b' g : Nat} (h : OwnNest wr b' T rT L A c l B) (hg : g < b') : ∀ y ∈ B, Apart (some ⟨g, 0, none⟩) y := by
  intro y hy a a' ha ha' e
  have := (nest_lt h y hy a' ha').1
  injection ha with ha
  subst ha
  simp at e
  omega
theorem lt_old {n m g : Nat} (h : ∀ y ∈ B, ∀ a, y = some a → n ≤ a.block ∧ a.block < m) (hA : A ∈ B) (hg : g < n) : Apart A (some ⟨g, 0, none⟩) := by
  intro a a' ha ha' e
  have := (h A hA a ha).1
  injection ha' with ha'
  subst ha'
  simp at e
  omega
theorem nest_old {g : Nat} (h : OwnNest w b T rT L A c l B) (hg : g < b) : Apart A (some ⟨g, 0, none⟩) := lt_old (nest_lt h) (nest_head h) hg
theorem part_old {g : Nat} (h : PartNest w v b T rT L p A c l B) (hg : g < b) : Apart A (some ⟨g, 0, none⟩) := lt_old (part_lt h) (part_head h) hg
theorem Rec.empty {wc : World} (h : b ≤ wc.heap.size) : Rec (wc.alloc (.cells #[] T)) v b T rT L p (some ⟨wc.heap.size, 0, none⟩) 0 ([] : List E) [some ⟨wc.heap.size, 0, none⟩] [] where
  hl := rfl
  row := ⟨by simp [cellsOf], .inr ⟨wc.heap.size, 0, #[], rfl, h, heap_alloc_new wc _, Nat.le_refl _, by unfold maxLen; omega, by simp, by simp [cellsOf]⟩⟩
  own := fun i x z hx => by simp at hx
  held := fun i x z hx => by simp at hx
  lt := fun y hy a e => by
    simp only [List.mem_singleton] at hy
    subst hy
    injection e with e
    subst e
    exact ⟨h, (show wc.heap.size < (wc.alloc _).heap.size from by
      have := heap_alloc_new wc (.cells #[] T)
      exact (Array.getElem?_eq_some_iff.1 this).1)⟩
  head := by simp
  mem := fun i z hz => by simp at hz
  sep := fun i j z z' _ hz => by simp at hz
theorem nest_empty {wc : World} (h : b ≤ wc.heap.size) : OwnNest (wc.alloc (.cells #[] T)) b T rT L (some ⟨wc.heap.size, 0, none⟩) 0 ([] : List E) [some ⟨wc.heap.size, 0, none⟩] := ⟨[], Rec.empty h⟩
theorem part_empty {wc : World} (h : b ≤ wc.heap.size) : PartNest (wc.alloc (.cells #[] T)) v b T rT L p (some ⟨wc.heap.size, 0, none⟩) 0 ([] : List E) [some ⟨wc.heap.size, 0, none⟩] := ⟨[], Rec.empty h⟩

theorem Rec.read (h : Rec w v b T rT L p A c l B hs) (hb : Below v.heap.size v w) : ReadNest w L A l :=
  ⟨hs, h.hl, own_cells h.row, fun i x z hx hz => by
    cases hp : p i with
    | true => have := h.own i x z hx hz hp; exact ⟨own_cells this, own_room this, own_max this⟩
    | false => have := h.held i x z hx hz hp; exact ⟨Cells.below this.1 hb, this.2⟩⟩
theorem nest_read (h : OwnNest w b T rT L A c l B) : ReadNest w L A l := let ⟨_, h⟩ := h; h.read (Below.refl _ _)
theorem part_read (h : PartNest w v b T rT L p A c l B) (hb : Below v.heap.size v w) : ReadNest w L A l := let ⟨_, h⟩ := h; h.read hb
theorem read_below (h : ReadNest w L A l) (hb : Below w.heap.size w w') : ReadNest w' L A l := by
  obtain ⟨hs, h1, h2, h3⟩ := h
  exact ⟨hs, h1, Cells.below h2 hb, fun i x h hx hh => ⟨Cells.below (h3 i x h hx hh).1 hb, (h3 i x h hx hh).2⟩⟩
/-- the record at k -/
theorem nest_at {k : Nat} (h : ReadNest w L A l) (hk : k < l.length) : ∃ (bb o : Nat) (x : E) (A1 : Option Addr) (c1 : Nat), A = some ⟨bb, o, none⟩ ∧ l[k]? = some x ∧ (∀ j u, (L.enc x (A1, c1))[j]? = some u → w.cell? ⟨bb, o + k * L.K + j, none⟩ = some u) ∧
    Cells w L.rK A1 (L.row x).length (L.f (L.row x)) ∧ Room A1 (L.row x).length c1 ∧ (L.row x).length ≤ 9223372036854775807 := by
  obtain ⟨hs, h1, h2, h3⟩ := h
  have hx := List.getElem?_eq_getElem hk
  have hh := List.getElem?_eq_getElem (show k < hs.length by omega)
  have hp := L.pos
  have hlen : 0 < (cellsOf L l hs).length := by rw [cellsOf_len h1]; exact Nat.mul_pos (by omega) hp
  obtain ⟨⟨bb, o, sp⟩, e, hc⟩ := h2.2 hlen
  have h0 := hc 0 _ (List.getElem?_eq_getElem hlen)
  obtain rfl : sp = none := cell_spot (b := bb) (o := o) h0
  obtain ⟨r1, r2, r3⟩ := h3 k _ _ hx hh
  refine ⟨bb, o, l[k], hs[k].1, hs[k].2, e, hx, ?_, r1, r2, r3⟩
  intro j u hu
  have := hc (k * L.K + j) u (cellsOf_at hx hh hu)
  rw [add_flat, ← Nat.add_assoc] at this
  exact this
theorem Rec.at {k : Nat} (h : Rec w v b T rT L p A c l B hs) (hk : k < l.length) : ∃ (g : Nat) (x : E) (A1 : Option Addr) (c1 : Nat), A = some ⟨g, 0, none⟩ ∧ l[k]? = some x ∧ hs[k]? = some (A1, c1) ∧ (∀ j u, (L.enc x (A1, c1))[j]? = some u → w.cell? ⟨g, k * L.K + j, none⟩ = some u) := by
  have hx := List.getElem?_eq_getElem hk
  have hh := List.getElem?_eq_getElem (show k < hs.length by rw [h.hl]; omega)
  have hp := L.pos
  have hlen : 0 < (cellsOf L l hs).length := by rw [cellsOf_len h.hl]; exact Nat.mul_pos (by omega) hp
  obtain ⟨g, rfl⟩ := own_some h.row (by omega)
  obtain ⟨ad, e, hc⟩ := (own_cells h.row).2 hlen
  obtain rfl := Option.some.inj e
  have hkh : k < hs.length := by rw [h.hl]; exact hk
  refine ⟨g, l[k], hs[k].1, hs[k].2, rfl, hx, hh, ?_⟩
  intro j u hu
  have := hc (k * L.K + j) u (cellsOf_at hx hh hu)
  rw [add_flat, Nat.zero_add] at this
  exact this
/-- the record at k, and its row -/
theorem nest_own {k : Nat} (h : OwnNest w b T rT L A c l B) (hk : k < l.length) : ∃ (g : Nat) (x : E) (A1 : Option Addr) (c1 : Nat), A = some ⟨g, 0, none⟩ ∧ l[k]? = some x ∧ (∀ j u, (L.enc x (A1, c1))[j]? = some u → w.cell? ⟨g, k * L.K + j, none⟩ = some u) ∧
    w.ownsRow b rT L.rK (.slice A1 (L.row x).length c1) (L.row x).length (L.f (L.row x)) ∧ A1 ∈ B ∧ Apart A A1 := by
  obtain ⟨hs, h⟩ := h
  obtain ⟨g, x, A1, c1, e, hx, hh, hc⟩ := h.at hk
  have hm := h.mem k _ hh rfl
  exact ⟨g, x, A1, c1, e, hx, hc, h.own k x _ hx hh rfl, hm.1, hm.2⟩
theorem part_heldp {k : Nat} (h : PartNest w v b T rT L p A c l B) (hp : p k = false) (hk : k < l.length) : ∃ (g : Nat) (x : E) (A1 : Option Addr) (c1 : Nat), A = some ⟨g, 0, none⟩ ∧ l[k]? = some x ∧ (∀ j u, (L.enc x (A1, c1))[j]? = some u → w.cell? ⟨g, k * L.K + j, none⟩ = some u) ∧
    Cells v L.rK A1 (L.row x).length (L.f (L.row x)) ∧ Room A1 (L.row x).length c1 ∧ (L.row x).length ≤ 9223372036854775807 := by
  obtain ⟨hs, h⟩ := h
  obtain ⟨g, x, A1, c1, e, hx, hh, hc⟩ := h.at hk
  exact ⟨g, x, A1, c1, e, hx, hc, h.held k x _ hx hh hp⟩
theorem Rec.nil : Rec w v b T rT L p none 0 ([] : List E) [none] [] where
  hl := rfl
  row := own_nil
  own := fun i x z hx => by simp at hx
  held := fun i x z hx => by simp at hx
  lt := fun y hy a e => by
    simp only [List.mem_singleton] at hy
    subst hy; simp at e
  head := by simp
  mem := fun i z hz => by simp at hz
  sep := fun i j z z' _ hz => by simp at hz
theorem part_nil : PartNest w v b T rT L p none 0 ([] : List E) [none] := ⟨[], Rec.nil⟩
theorem nil_read (h : ReadNest w L A l) : A.isNone = true → l = [] := by
  intro e
  rw [Option.isNone_iff_eq_none] at e
  obtain ⟨hs, h1, h2, _⟩ := h
  cases l with
  | nil => rfl
  | cons x l =>
    have := L.pos
    obtain ⟨ad, ea, _⟩ := h2.2 (by rw [cellsOf_len h1]; exact Nat.mul_pos (by simp) this)
    rw [e] at ea; simp at ea
/-- a copy of the cells alone -/
theorem part_of {v' : Value} {w' : World} (hl : hs.length = l.length) (hh : ∀ (i : Nat) x z, l[i]? = some x → hs[i]? = some z → Held v L z x) (ho : w'.ownsRow b T L.K v' (0 + l.length) (cellsOf L ([] : List E) [] ++ cellsOf L l hs)) :
    ∃ A c, v' = .slice A l.length c ∧ PartNest w' v b T rT L (fun _ => false) A c l [A] := by
  rw [Nat.zero_add, show cellsOf L ([] : List E) [] = [] from rfl, List.nil_append] at ho
  obtain ⟨A, c, rfl⟩ : ∃ A c, v' = .slice A l.length c := by
    rcases ho.2 with ⟨h1, h2⟩ | ⟨g, cap, cur, h1, _⟩
    · exact ⟨none, 0, by rw [h1, h2]⟩
    · exact ⟨_, _, h1⟩
  refine ⟨A, c, rfl, hs, { hl := hl, row := ho, own := fun i x z _ _ e => by simp at e, held := fun i x z hx hz _ => hh i x z hx hz, lt := fun y hy a e => ?_, head := by simp, mem := fun i z _ e => by simp at e, sep := fun i j z z' _ _ _ e => by simp at e }⟩
  simp only [List.mem_singleton] at hy
  subst hy
  exact own_lt ho a e
theorem Rec.frozen {g q : Nat} (h : Rec w v b T rT L p (some ⟨g, 0, none⟩) c l B hs) : w.frozen? ⟨g, q, none⟩ = false := h.row.frozenAt q
theorem nest_frozen {g : Nat} (h : OwnNest w b T rT L (some ⟨g, 0, none⟩) c l B) (q : Nat) : w.frozen? ⟨g, q, none⟩ = false := let ⟨_, h⟩ := h; h.frozen
theorem part_frozen {g : Nat} (h : PartNest w v b T rT L p (some ⟨g, 0, none⟩) c l B) (q : Nat) : w.frozen? ⟨g, q, none⟩ = false := let ⟨_, h⟩ := h; h.frozen
/-- a cell of a record is stored that is not its row's header -/
theorem Rec.set {k j g : Nat} {x x' : E} {u : Value} (h : Rec w v b T rT L p (some ⟨g, 0, none⟩) c l B hs) (hk : l[k]? = some x) (hr : L.row x' = L.row x) (hj : j < L.K) (he : ∀ z, (L.enc x z).set j u = L.enc x' z) :
    Rec (w.setCell ⟨g, k * L.K + j, none⟩ u) v b T rT L p (some ⟨g, 0, none⟩) c (l.set k x') B hs ∧ w.grownBy (w.setCell ⟨g, k * L.K + j, none⟩ u) (some g) := by
  have hS := own_stores [(k * L.K + j, u)] h.row
  have hkl := (List.getElem?_eq_some_iff.1 hk).1
  have hh := List.getElem?_eq_getElem (show k < hs.length by rw [h.hl]; exact hkl)
  have e := cellsOf_set (L := L) (v := u) hk hh hj (he _)
  have hg : w.grownBy (w.setCell ⟨g, k * L.K + j, none⟩ u) (some g) := hS.2
  refine ⟨?_, hg⟩
  have hrow : ∀ (i : Nat) y, (l.set k x')[i]? = some y → ∃ y', l[i]? = some y' ∧ L.row y = L.row y' := by
    intro i y hy
    by_cases hik : k = i
    · subst hik
      rw [List.getElem?_set_self hkl] at hy
      obtain rfl := Option.some.inj hy
      exact ⟨x, hk, hr⟩
    · rw [List.getElem?_set_ne hik] at hy; exact ⟨y, hy, rfl⟩
  have hlo : (l.set k x').length = l.length := List.length_set
  refine { hl := by rw [hlo]; exact h.hl, row := ?_, own := ?_, held := ?_, lt := fun y hy a ea => ⟨(h.lt y hy a ea).1, Nat.lt_of_lt_of_le (h.lt y hy a ea).2 hg.size⟩, head := h.head, mem := h.mem, sep := h.sep }
  · rw [hlo, ← e]; exact hS.1
  · intro i y z hy hz hp
    obtain ⟨y', h1, h2⟩ := hrow i y hy
    rw [h2]
    exact own_other (n' := 0) (c' := 0) (A := some ⟨g, 0, none⟩) (h.own i y' z h1 hz hp) hg (h.mem i z hz hp).2
  · intro i y z hy hz hp
    obtain ⟨y', h1, h2⟩ := hrow i y hy
    have := h.held i y' z h1 hz hp
    unfold Held at this ⊢
    rw [h2]; exact this
theorem nest_set {k j g : Nat} {x x' : E} {u : Value} (h : OwnNest w b T rT L (some ⟨g, 0, none⟩) c l B) (hk : l[k]? = some x) (hr : L.row x' = L.row x) (hj : j < L.K) (he : ∀ z, (L.enc x z).set j u = L.enc x' z) :
    OwnNest (w.setCell ⟨g, k * L.K + j, none⟩ u) b T rT L (some ⟨g, 0, none⟩) c (l.set k x') B ∧ w.grownBy (w.setCell ⟨g, k * L.K + j, none⟩ u) (some g) := by
  obtain ⟨hs, h⟩ := h
  have := h.set hk hr hj he
  exact ⟨⟨hs, this.1.anyv⟩, this.2⟩
/-- a row in it has been written -/
theorem nest_store {k n' c' : Nat} {x x' : E} {A1 : Option Addr} {c1 g : Nat} (h : OwnNest w b T rT L (some ⟨g, 0, none⟩) c l B) (hk : l[k]? = some x) (hcell : w.cell? ⟨g, k * L.K + L.hdr, none⟩ = some (.slice A1 (L.row x).length c1))
    (hx : w'.ownsRow b rT L.rK (.slice A1 n' c1) n' (L.f (L.row x'))) (hn : (L.row x').length = n') (hn2 : (L.row x).length = n') (he : ∀ z, L.enc x' z = L.enc x z) (hg : w.grownBy w' (Value.slice A1 n' c').ownBlock) :
    OwnNest w' b T rT L (some ⟨g, 0, none⟩) c (l.set k x') B := by
  subst hn
  obtain ⟨hs, h⟩ := h
  have hkl := (List.getElem?_eq_some_iff.1 hk).1
  obtain ⟨g2, x2, A2, c2, e2, hx2, hh2, hc2⟩ := h.at hkl
  obtain rfl := Option.some.inj (hk.symm.trans hx2)
  simp only [Option.some.injEq, Addr.mk.injEq, and_true] at e2
  subst e2
  have hz := hc2 L.hdr _ (L.hat _ _)
  rw [hcell] at hz
  have hz' := Option.some.inj hz
  simp only [Value.slice.injEq] at hz'
  obtain ⟨rfl, _, rfl⟩ := hz'
  have hm := h.mem k _ hh2 rfl
  have hlo : (l.set k x').length = l.length := List.length_set
  refine ⟨hs, { hl := by rw [hlo]; exact h.hl, row := ?_, own := ?_, held := fun i x h _ _ e => by simp at e, lt := fun y hy a ea => ⟨(h.lt y hy a ea).1, Nat.lt_of_lt_of_le (h.lt y hy a ea).2 hg.size⟩, head := h.head, mem := h.mem, sep := h.sep }⟩
  · have e3 : cellsOf L (l.set k x') hs = cellsOf L l hs := by
      have e4 := zip_set (l := l) (hs := hs) k x' (A1, c1)
      rw [set_self hh2] at e4
      unfold cellsOf
      rw [e4]
      apply List.ext_getElem?
      intro q
      have hq := set_flat1 (fun p : E × (Option Addr × Nat) => L.enc p.1 p.2) L.K (fun p => L.len p.1 p.2) (zip_at hk hh2) (j := 0) L.pos (y := (x', (A1, c1))) (v := (L.enc x (A1, c1))[0]'(by rw [L.len]; exact L.pos)) (by
        show (L.enc x (A1, c1)).set 0 _ = L.enc x' (A1, c1)
        rw [he, List.set_getElem_self])
      rw [← hq]
      rw [show (l.zip hs).flatMap (fun p => L.enc p.1 p.2) = cellsOf L l hs from rfl]
      rw [set_self (cellsOf_at hk hh2 (j := 0) (List.getElem?_eq_getElem (by rw [L.len]; exact L.pos)))]
    rw [e3, hlo]
    exact own_other h.row hg hm.2.symm
  · intro i y z hy hz hp
    by_cases hik : k = i
    · subst hik
      rw [List.getElem?_set_self hkl] at hy
      obtain rfl := Option.some.inj hy
      obtain rfl := Option.some.inj (hh2.symm.trans hz)
      exact hx
    · rw [List.getElem?_set_ne hik] at hy
      refine own_other (h.own i y z hy hz rfl) hg ?_
      rcases Nat.lt_or_gt_of_ne hik with h6 | h6
      · exact h.sep k i _ _ h6 hh2 hz rfl rfl
      · exact (h.sep i k _ _ h6 hz hh2 rfl rfl).symm
/-- a record is laid at k, with a row of one's own -/
theorem Rec.put {k g cx n' : Nat} {x : E} {Ax : Option Addr} (h : Rec w v b T rT L p (some ⟨g, 0, none⟩) c l B hs) (hk : k < l.length) (hn : n' = (L.row x).length) (hx : w.ownsRow b rT L.rK (.slice Ax n' cx) n' (L.f (L.row x))) (hD : ∀ y ∈ B, Apart Ax y)
    (hw : w'.ownsRow b T L.K (.slice (some ⟨g, 0, none⟩) l.length c) l.length (laysAt (k * L.K) (cellsOf L l hs) (L.enc x (Ax, cx)))) (hg : w.grownBy w' (some g)) :
    Rec w' v b T rT L (fun i => i == k || p i) (some ⟨g, 0, none⟩) c (l.set k x) (Ax :: B) (hs.set k (Ax, cx)) ∧ w'.ownsRow b rT L.rK (.slice Ax n' cx) n' (L.f (L.row x)) := by
  subst hn
  have hkh : k < hs.length := by rw [h.hl]; exact hk
  have hlo : (l.set k x).length = l.length := List.length_set
  have hx' : w'.ownsRow b rT L.rK (.slice Ax (L.row x).length cx) (L.row x).length (L.f (L.row x)) := own_other (n' := 0) (c' := 0) (A := some ⟨g, 0, none⟩) hx hg (hD _ h.head).symm
  refine ⟨{ hl := by rw [hlo, List.length_set]; exact h.hl, row := ?_, own := ?_, held := ?_, lt := ?_, head := List.mem_cons_of_mem _ h.head, mem := ?_, sep := ?_ }, hx'⟩
  · rw [hlo, ← cellsOf_put hk h.hl]; exact hw
  · intro i y z hy hz hp
    by_cases hik : k = i
    · subst hik
      rw [List.getElem?_set_self hk] at hy
      rw [List.getElem?_set_self hkh] at hz
      obtain rfl := Option.some.inj hy
      obtain rfl := Option.some.inj hz
      exact hx'
    · rw [List.getElem?_set_ne hik] at hy hz
      have hp' : p i = true := by simpa [show ¬ i = k from fun e => hik e.symm] using hp
      exact own_other (n' := 0) (c' := 0) (A := some ⟨g, 0, none⟩) (h.own i y z hy hz hp') hg (h.mem i z hz hp').2
  · intro i y z hy hz hp
    by_cases hik : k = i
    · subst hik; simp at hp
    · rw [List.getElem?_set_ne hik] at hy hz
      have hp' : p i = false := by simpa [show ¬ i = k from fun e => hik e.symm] using hp
      exact h.held i y z hy hz hp'
  · intro y hy a ea
    rcases List.mem_cons.1 hy with rfl | hy
    · have := own_lt hx a ea; exact ⟨this.1, Nat.lt_of_lt_of_le this.2 hg.size⟩
    · exact ⟨(h.lt y hy a ea).1, Nat.lt_of_lt_of_le (h.lt y hy a ea).2 hg.size⟩
  · intro i z hz hp
    by_cases hik : k = i
    · subst hik
      rw [List.getElem?_set_self hkh] at hz
      obtain rfl := Option.some.inj hz
      exact ⟨by simp, (hD _ h.head).symm⟩
    · rw [List.getElem?_set_ne hik] at hz
      have hp' : p i = true := by simpa [show ¬ i = k from fun e => hik e.symm] using hp
      exact ⟨List.mem_cons_of_mem _ (h.mem i z hz hp').1, (h.mem i z hz hp').2⟩
  · intro i j z z' hij hz hz' hp hp'
    by_cases hik : k = i
    · subst hik
      rw [List.getElem?_set_self hkh] at hz
      obtain rfl := Option.some.inj hz
      rw [List.getElem?_set_ne (by omega)] at hz'
      have hp2 : p j = true := by simpa [show ¬ j = k by omega] using hp'
      exact hD _ (h.mem j z' hz' hp2).1
    · rw [List.getElem?_set_ne hik] at hz
      have hp1 : p i = true := by simpa [show ¬ i = k from fun e => hik e.symm] using hp
      by_cases hjk : k = j
      · subst hjk
        rw [List.getElem?_set_self hkh] at hz'
        obtain rfl := Option.some.inj hz'
        exact (hD _ (h.mem i z hz hp1).1).symm
      · rw [List.getElem?_set_ne hjk] at hz'
        have hp2 : p j = true := by simpa [show ¬ j = k from fun e => hjk e.symm] using hp'
        exact h.sep i j z z' hij hz hz' hp1 hp2
/-- a record's row is replaced by one of one's own: its header alone is stored -/
theorem part_put1 {k g cx n' : Nat} {x x' : E} {Ax : Option Addr} (h : PartNest w v b T rT L p (some ⟨g, 0, none⟩) c l B) (hk : l[k]? = some x) (he : ∀ z, (L.enc x z).set L.hdr (.slice Ax n' cx) = L.enc x' (Ax, cx)) (hn : n' = (L.row x').length) (hx : w.ownsRow b rT L.rK (.slice Ax n' cx) n' (L.f (L.row x'))) (hD : ∀ y ∈ B, Apart Ax y) (hh : L.hdr < L.K) :
    PartNest (w.setCell ⟨g, k * L.K + L.hdr, none⟩ (.slice Ax n' cx)) v b T rT L (fun i => i == k || p i) (some ⟨g, 0, none⟩) c (l.set k x') (Ax :: B) ∧ w.grownBy (w.setCell ⟨g, k * L.K + L.hdr, none⟩ (.slice Ax n' cx)) (some g) := by
  obtain ⟨hs, h⟩ := h
  have hkl := (List.getElem?_eq_some_iff.1 hk).1
  have hkh := List.getElem?_eq_getElem (show k < hs.length by rw [h.hl]; exact hkl)
  have hS := own_stores [(k * L.K + L.hdr, .slice Ax n' cx)] h.row
  have hg : w.grownBy (w.setCell ⟨g, k * L.K + L.hdr, none⟩ (.slice Ax n' cx)) (some g) := hS.2
  have e1 : (cellsOf L l hs).set (k * L.K + L.hdr) (.slice Ax n' cx) = cellsOf L (l.set k x') (hs.set k (Ax, cx)) := by
    unfold cellsOf
    rw [set_flat1 (fun p : E × (Option Addr × Nat) => L.enc p.1 p.2) L.K (fun p => L.len p.1 p.2) (zip_at hk hkh) hh (y := (x', (Ax, cx))) (he _), ← zip_set]
  refine ⟨⟨_, (h.put (x := x') hkl hn hx hD (by rw [cellsOf_put hkl h.hl, ← e1]; exact hS.1) hg).1⟩, hg⟩
theorem pushed_put {g : Nat} {Ax : Option Addr} (h : some ⟨g, 0, none⟩ ∈ B) : Pushed w (some ⟨g, 0, none⟩) Ax B (Ax :: B) :=
  ⟨h, by simp, fun y hy => by
    rcases List.mem_cons.1 hy with rfl | hy
    · exact .inr (.inl rfl)
    · exact .inl hy⟩
/-- one record more, behind an append of its cells -/
theorem Rec.app {n' c' cx nx : Nat} {v' : Value} {x : E} {Ax : Option Addr} {l' : List E} (h : Rec w v b T rT L p A c l B hs) (hl' : l ++ [x] = l') (q : Bool) (hq : p l.length = q) (hnx : nx = (L.row x).length)
    (hx : q = true → w.ownsRow b rT L.rK (.slice Ax nx cx) nx (L.f (L.row x)) ∧ ∀ y ∈ B, Apart Ax y) (hx2 : q = false → Held v L (Ax, cx) x)
    (hg : w.grownBy w' (Value.slice A n' c').ownBlock) (ho : w'.ownsRow b T L.K v' (l.length + 1) (cellsOf L l hs ++ L.enc x (Ax, cx))) (hy : v'.ownBlock = (Value.slice A n' c').ownBlock ∨ v'.ownBlock = some w.heap.size) :
    ∃ g cap B', v' = .slice (some ⟨g, 0, none⟩) l'.length cap ∧ Rec w' v b T rT L p (some ⟨g, 0, none⟩) cap l' B' (hs ++ [(Ax, cx)]) ∧ (A ∈ B ∧ (q = true → Ax ∈ B') ∧ (∀ y ∈ B', y ∈ B ∨ (q = true ∧ y = Ax) ∨ From w A y)) ∧ (q = true → w'.ownsRow b rT L.rK (.slice Ax nx cx) nx (L.f (L.row x))) := by
  subst hl'
  subst hnx
  obtain ⟨g, cap, rfl⟩ : ∃ g cap, v' = .slice (some ⟨g, 0, none⟩) (l.length + 1) cap := by
    rcases ho.2 with ⟨_, h⟩ | ⟨g3, cap3, _, h, _⟩
    · omega
    · exact ⟨g3, cap3, h⟩
  have el : (l ++ [x]).length = l.length + 1 := by simp
  have hfrom : From w A (some ⟨g, 0, none⟩) := by
    intro a' ha'
    injection ha' with ha'
    subst ha'
    rcases hy with h6 | h6
    · left
      cases hA : A with
      | none => rw [hA] at h6; simp [Value.ownBlock] at h6
      | some z => rw [hA] at h6; simp only [Value.ownBlock, Option.some.injEq] at h6; exact ⟨z, rfl, h6.symm⟩
    · right; simp only [Value.ownBlock, Option.some.injEq] at h6; exact Nat.le_of_eq h6.symm
  have hapg : ∀ y, (∀ a, y = some a → a.block < w.heap.size) → Apart A y → Apart (some ⟨g, 0, none⟩) y := fun y hlt hA => (apart_from hA hlt hfrom)
  have hxo : q = true → w'.ownsRow b rT L.rK (.slice Ax (L.row x).length cx) (L.row x).length (L.f (L.row x)) := fun e => own_other (hx e).1 hg ((hx e).2 _ h.head).symm
  refine ⟨g, cap, (some ⟨g, 0, none⟩) :: (if q then [Ax] else []) ++ B, by rw [el], ?_, ?_, hxo⟩
  · have hgg := own_lt ho
    have hi : ∀ (i : Nat) z, (hs ++ [(Ax, cx)])[i]? = some z → (i < l.length ∧ hs[i]? = some z) ∨ (i = l.length ∧ z = (Ax, cx)) := by
      intro i z hz
      by_cases hil : i < l.length
      · rw [List.getElem?_append_left (by rw [h.hl]; exact hil)] at hz; exact .inl ⟨hil, hz⟩
      · have h2 := (List.getElem?_eq_some_iff.1 hz).1
        rw [List.length_append, h.hl] at h2
        simp at h2
        have : i = l.length := by omega
        subst this
        rw [List.getElem?_append_right (by rw [h.hl]; exact Nat.le_refl _), h.hl] at hz
        simp at hz
        exact .inr ⟨rfl, hz.symm⟩
    have hli : ∀ (i : Nat) y, i < l.length → (l ++ [x])[i]? = some y → l[i]? = some y := fun i y hil hy => by rw [List.getElem?_append_left hil] at hy; exact hy
    have hll : ∀ y, (l ++ [x])[l.length]? = some y → y = x := fun y hy => by rw [List.getElem?_append_right (Nat.le_refl _)] at hy; simp at hy; exact hy.symm
    refine { hl := by simp [h.hl], row := ?_, own := ?_, held := ?_, lt := ?_, head := by simp, mem := ?_, sep := ?_ }
    · rw [el, cellsOf_snoc h.hl]; exact ho
    · intro i y z hy hz hp
      rcases hi i z hz with ⟨h1, h2⟩ | ⟨rfl, rfl⟩
      · exact own_other (h.own i y z (hli i y h1 hy) h2 hp) hg (h.mem i z h2 hp).2
      · obtain rfl := hll y hy; exact hxo (hq ▸ hp)
    · intro i y z hy hz hp
      rcases hi i z hz with ⟨h1, h2⟩ | ⟨rfl, rfl⟩
      · exact h.held i y z (hli i y h1 hy) h2 hp
      · obtain rfl := hll y hy; exact hx2 (hq ▸ hp)
    · intro y hy a ea
      simp only [List.cons_append, List.mem_cons, List.mem_append] at hy
      rcases hy with rfl | hy | hy
      · exact hgg a ea
      · cases q with
        | false => simp at hy
        | true =>
          simp at hy; subst hy
          have := own_lt (hx rfl).1 a ea; exact ⟨this.1, Nat.lt_of_lt_of_le this.2 hg.size⟩
      · exact ⟨(h.lt y hy a ea).1, Nat.lt_of_lt_of_le (h.lt y hy a ea).2 hg.size⟩
    · intro i z hz hp
      rcases hi i z hz with ⟨h1, h2⟩ | ⟨rfl, rfl⟩
      · have h3 := h.mem i z h2 hp
        exact ⟨by simp [h3.1], hapg _ (fun a ea => (h.lt _ h3.1 a ea).2) h3.2⟩
      · have e : q = true := hq ▸ hp
        exact ⟨by simp [e], hapg _ (fun a ea => (own_lt (hx e).1 a ea).2) ((hx e).2 _ h.head).symm⟩
    · intro i j z z' hij hz hz' hp hp'
      rcases hi i z hz with ⟨h1, h2⟩ | ⟨rfl, rfl⟩
      · rcases hi j z' hz' with ⟨h3, h4⟩ | ⟨rfl, rfl⟩
        · exact h.sep i j z z' hij h2 h4 hp hp'
        · exact ((hx (hq ▸ hp')).2 _ (h.mem i z h2 hp).1).symm
      · rcases hi j z' hz' with ⟨h3, h4⟩ | ⟨h3, _⟩ <;> omega
  · refine ⟨h.head, fun e => by simp [e], ?_⟩
    intro y hy
    simp only [List.cons_append, List.mem_cons, List.mem_append] at hy
    rcases hy with rfl | hy | hy
    · exact .inr (.inr hfrom)
    · cases q with
      | false => simp at hy
      | true => simp at hy; exact .inr (.inl ⟨rfl, hy⟩)
    · exact .inl hy
/-- append(records, record), with a row of one's own: that row is in it from here on -/
theorem nest_app {n' c' cx nx : Nat} {v' : Value} {x : E} {Ax : Option Addr} {l' : List E} (h : Rec w w b T rT L (fun _ => true) A c l B hs) (hl' : l ++ [x] = l') (hnx : nx = (L.row x).length)
    (hx : w.ownsRow b rT L.rK (.slice Ax nx cx) nx (L.f (L.row x))) (hD : ∀ y ∈ B, Apart Ax y)
    (hg : w.grownBy w' (Value.slice A n' c').ownBlock) (ho : w'.ownsRow b T L.K v' (l.length + 1) (cellsOf L l hs ++ L.enc x (Ax, cx))) (hy : v'.ownBlock = (Value.slice A n' c').ownBlock ∨ v'.ownBlock = some w.heap.size) :
    ∃ g cap B', v' = .slice (some ⟨g, 0, none⟩) l'.length cap ∧ OwnNest w' b T rT L (some ⟨g, 0, none⟩) cap l' B' ∧ Pushed w A Ax B B' ∧ w'.ownsRow b rT L.rK (.slice Ax nx cx) nx (L.f (L.row x)) := by
  obtain ⟨g, cap, B', e, h1, h2, h3⟩ := h.app (w' := w') hl' true rfl hnx (fun _ => ⟨hx, hD⟩) (fun e => by simp at e) hg ho hy
  exact ⟨g, cap, B', e, ⟨_, h1.anyv⟩, ⟨h2.1, h2.2.1 rfl, fun y hy => (h2.2.2 y hy).elim .inl (fun z => z.elim (fun q => .inr (.inl q.2)) (fun q => .inr (.inr q)))⟩, h3 rfl⟩
/-- append(records, record), with a row that is to be read -/
theorem part_app {n' c' cx : Nat} {v' : Value} {x : E} {Ax : Option Addr} {l' : List E} (h : Rec w v b T rT L (fun _ => false) A c l B hs) (hl' : l ++ [x] = l') (hx : Held v L (Ax, cx) x)
    (hg : w.grownBy w' (Value.slice A n' c').ownBlock) (ho : w'.ownsRow b T L.K v' (l.length + 1) (cellsOf L l hs ++ L.enc x (Ax, cx))) (hy : v'.ownBlock = (Value.slice A n' c').ownBlock ∨ v'.ownBlock = some w.heap.size) :
    ∃ g cap B', v' = .slice (some ⟨g, 0, none⟩) l'.length cap ∧ PartNest w' v b T rT L (fun _ => false) (some ⟨g, 0, none⟩) cap l' B' ∧ (∀ y ∈ B', y ∈ B ∨ From w A y) := by
  obtain ⟨g, cap, B', e, h1, h2, h3⟩ := h.app (w' := w') (nx := (L.row x).length) hl' false rfl rfl (fun e => by simp at e) (fun _ => hx) hg ho hy
  exact ⟨g, cap, B', e, ⟨_, h1⟩, fun y hy => (h2.2.2 y hy).elim .inl (fun z => z.elim (fun q => absurd q.1 (by simp)) .inr)⟩
/-- records of zeros -/
theorem nest_zero {n : Nat} {g : Nat} {x0 : E} (hr : L.row x0 = []) (hf : L.f [] = []) (hrK : (0 : Nat) * L.rK = 0) (ho : w.ownsRow b T L.K (.slice (some ⟨g, 0, none⟩) n c) n ((List.replicate n (x0, ((none : Option Addr), 0))).flatMap fun p => L.enc p.1 p.2)) :
    OwnNest w b T rT L (some ⟨g, 0, none⟩) c (List.replicate n x0) [some ⟨g, 0, none⟩, none] := by
  refine ⟨List.replicate n (none, 0), { hl := by simp, row := ?_, own := ?_, held := fun i x h _ _ e => by simp at e, lt := ?_, head := by simp, mem := ?_, sep := ?_ }⟩
  · have e : cellsOf L (List.replicate n x0) (List.replicate n ((none : Option Addr), 0)) = (List.replicate n (x0, ((none : Option Addr), 0))).flatMap fun p => L.enc p.1 p.2 := by unfold cellsOf; rw [List.zip_replicate']
    rw [e, List.length_replicate]; exact ho
  · intro i x z hx hz _
    have h1 : x = x0 := by rw [List.getElem?_replicate] at hx; split at hx <;> simp at hx; exact hx.symm
    have h2 : z = (none, 0) := by rw [List.getElem?_replicate] at hz; split at hz <;> simp at hz; exact hz.symm
    subst h1; subst h2
    rw [hr, hf]; exact own_nil
  · intro y hy a ea
    simp only [List.mem_cons, List.not_mem_nil, or_false] at hy
    rcases hy with rfl | rfl
    · exact own_lt ho a ea
    · simp at ea
  · intro i z hz _
    have h2 : z = (none, 0) := by rw [List.getElem?_replicate] at hz; split at hz <;> simp at hz; exact hz.symm
    subst h2
    exact ⟨by simp, fun a a' _ h => by simp at h⟩
  · intro i j z z' _ hz _ _ _ a a' ha
    have h2 : z = (none, 0) := by rw [List.getElem?_replicate] at hz; split at hz <;> simp at hz; exact hz.symm
    subst h2
    simp at ha
end
end Go.Proofs.Ytpaakpbbahbhcaa.GoV

/- The contracts of the laws' helpers on slices of ints: toIntS, eqIntS, markIntS, heldIntS. Condition: the slice reads as a list of ints. -/
namespace Go.Proofs.Ytpaakpbbahbhcaa.HelpInt
set_option linter.unusedVariables false
open Go.RowKit
open Go.Proofs.Ytpaakpbbahbhcaa.Rowed

/-- ints as values -/
def iv (l : List Int) : List Value := l.map (Value.int .i64)
theorem iv_len (l : List Int) : (iv l).length = l.length := by simp [iv]
theorem iv_at (l : List Int) (k : Nat) : (iv l)[k]? = (l[k]?).map (Value.int .i64) := by simp [iv]
/-- the slice 'A, n' reads as the ints l -/
abbrev Ints (w : World) (A : Option Addr) (n : Nat) (l : List Int) : Prop := Cells w 1 A n (iv l)
theorem add_none (b o n : Nat) : (⟨b, o, none⟩ : Addr).add n = ⟨b, o + n, none⟩ := by
  unfold Addr.add; split
  · rename_i h; subst h; rfl
  · rfl
theorem Ints.at_ {w : World} {A : Option Addr} {n k : Nat} {l : List Int} (h : Ints w A n l) (hk : k < n) : ∃ (b o : Nat) (x : Int), A = some ⟨b, o, none⟩ ∧ l[k]? = some x ∧ w.cell? ⟨b, o + k, none⟩ = some (.int .i64 x) := by
  have hl : k < l.length := by have := h.1; rw [iv_len] at this; omega
  obtain ⟨⟨b, o, sp⟩, e, hc⟩ := h.2 (by rw [iv_len]; omega)
  have h0 := hc 0 _ (by rw [iv_at, List.getElem?_eq_getElem (show 0 < l.length by omega)]; rfl)
  obtain rfl : sp = none := cell_spot (b := b) (o := o) h0
  have hs := List.getElem?_eq_getElem hl
  have := hc k (.int .i64 l[k]) (by rw [iv_at, hs]; rfl)
  rw [add_none] at this
  exact ⟨b, o, l[k], e, hs, this⟩

/-- the marks k, k + 1, .. -/
def imarks (k n : Nat) : List Value := (List.range n).map fun i => Value.int .i64 ((k + i : Nat) : Int)
theorem imarks_len (k n : Nat) : (imarks k n).length = n := by simp [imarks]
theorem imarks_at (k n i : Nat) (h : i < n) : (imarks k n)[i]? = some (.int .i64 ((k + i : Nat) : Int)) := by
  unfold imarks; rw [List.getElem?_map, List.getElem?_range h]; rfl
theorem grown_of {W W' : World} (h : Below W.heap.size W W') : W.grownBy W' none := ⟨h.os, h.tape, h.output, h.size, fun k hk _ => h.block k hk⟩
theorem grown_tr {a b c : World} {r : Option Nat} (h : a.grownBy b r) (k : b.grownBy c r) : a.grownBy c r :=
  ⟨k.os.trans h.os, k.tape.trans h.tape, k.output.trans h.output, Nat.le_trans h.size k.size, fun i hi hr => (k.block i (Nat.lt_of_lt_of_le hi h.size) hr).trans (h.block i hi hr)⟩
theorem grown_refl (w : World) (r : Option Nat) : w.grownBy w r := ⟨rfl, rfl, rfl, Nat.le_refl _, fun _ _ _ => rfl⟩

def MarkRel (w : World) (base n c k : Nat) (A : Option Addr) (xs : List Value) (i : Nat) (wr : World) : Prop :=
  wr.ownsRow base 3 1 (.slice A n c) n (fill (imarks k n) xs i) ∧ w.grownBy wr (Value.slice A n c).ownBlock

theorem mark_next {w wr : World} {base n c k i : Nat} {A : Option Addr} {xs : List Value} (h : MarkRel w base n c k A xs i wr) (hxs : xs.length = n) (hi : i < n) :
    ∃ g y, A = some ⟨g, 0, none⟩ ∧ wr.cell? ⟨g, i, none⟩ = some y ∧ wr.frozen? ⟨g, i, none⟩ = false ∧ MarkRel w base n c k A xs (i + 1) (wr.setCell ⟨g, i, none⟩ (.int .i64 ((k + i : Nat) : Int))) := by
  obtain ⟨g, rfl⟩ : ∃ g, A = some ⟨g, 0, none⟩ := by
    rcases h.1.2 with ⟨_, h0⟩ | ⟨g, cap, cur, hv, _⟩
    · omega
    · injection hv with h1 h2 h3; exact ⟨g, h1⟩
  have h1 := h.1
  have hlen : (fill (imarks k n) xs i).length = n := by rw [fill_len _ _ _ (by rw [imarks_len, hxs])]; exact hxs
  have hc := h1.cellAt i (by omega)
  rw [List.getElem?_eq_getElem (by omega)] at hc
  refine ⟨g, _, rfl, hc, h1.frozenAt i, ?_, ?_⟩
  · have := (h1.stored i (.int .i64 ((k + i : Nat) : Int))).1
    rw [fill_set _ _ _ _ (by omega) (imarks_at k n i hi)] at this
    exact this
  · exact grown_tr h.2 (h1.stored i (.int .i64 ((k + i : Nat) : Int))).2

def MarkPost (w : World) (base n c k : Nat) (A : Option Addr) (e : Ending) (w' : World) : Prop :=
  e = .returned (.int .i64 ((k + n : Nat) : Int)) ∧ w'.ownsRow base 3 1 (.slice A n c) n (imarks k n) ∧ w.grownBy w' (Value.slice A n c).ownBlock

/-- a slice that is owned, as a slice that reads -/
theorem own_cells {w : World} {base n c size : Nat} {A : Option Addr} {e : TypeId} {xs : List Value} (h : w.ownsRow base e size (.slice A n c) n xs) : Cells w size A n xs := by
  rcases h.2 with ⟨hv, h0⟩ | ⟨g, cap, cur, hv, _⟩
  · subst h0
    have := h.1
    exact ⟨h.1, fun hn => by omega⟩
  · injection hv with h1 h2 h3
    subst h1
    exact Cells.of_own h
theorem own_below {w w' : World} {base n c size : Nat} {A : Option Addr} {e : TypeId} {xs : List Value} (h : w.ownsRow base e size (.slice A n c) n xs) (hb : Below w.heap.size w w') : w'.ownsRow base e size (.slice A n c) n xs :=
  h.kept (grown_of hb) (by cases (Value.slice A n c).ownBlock <;> simp)
end Go.Proofs.Ytpaakpbbahbhcaa.HelpInt

/- How a record Sighting lies. No condition. -/
namespace Go.Proofs.Ytpaakpbbahbhcaa.GoVSighting
set_option linter.unusedVariables false
open Go.RowKit
def lay : Go.Proofs.Ytpaakpbbahbhcaa.GoV.Lay Go.Proofs.Ytpaakpbbahbhcaa.PSighting.Sighting Int where
  K := 4
  rK := 1
  hdr := 3
  row := fun x => x.traits
  f := Go.Proofs.Ytpaakpbbahbhcaa.HelpInt.iv
  enc := fun x h => [.int .i64 x.id, .int .i64 x.year, .string x.town, .slice h.1 x.traits.length h.2]
  len := fun _ _ => rfl
  pos := by decide
  hat := fun _ _ => rfl
theorem enc_one (l : List Go.Proofs.Ytpaakpbbahbhcaa.PSighting.Sighting) (hs : List (Option Addr × Nat)) : ∀ u ∈ Go.Proofs.Ytpaakpbbahbhcaa.GoV.cellsOf lay l hs, u.oneCell' = true := by
  intro u hu
  obtain ⟨y_, _, hy_⟩ := List.mem_flatMap.1 hu
  simp only [lay, List.mem_cons, List.not_mem_nil, or_false] at hy_
  rcases hy_ with rfl | rfl | rfl | rfl <;> rfl
theorem enc_row {yid : Int} {yyear : Int} {ytown : ByteArray} {t t' : List Int} (h : t'.length = t.length) (z : Option Addr × Nat) : lay.enc ⟨yid, yyear, ytown, t'⟩ z = lay.enc ⟨yid, yyear, ytown, t⟩ z := by simp only [lay, h]
end Go.Proofs.Ytpaakpbbahbhcaa.GoVSighting

