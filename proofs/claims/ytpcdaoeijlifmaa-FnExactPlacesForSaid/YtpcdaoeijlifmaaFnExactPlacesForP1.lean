/- The texts on which the proof of FnExactPlacesFor stands, one behind the other (1 of 2). No condition of their own. -/
import Derived.Lib.Hide
import Derived.Below
import Derived.Laws.OwnMore
import Derived.Laws.World
import Derived.Deep.Draws
import Derived.Lib.QuietBelow
import Derived.Lib.Strings
import Derived.OwnWalk
import Derived.Laws.Strings3
import Derived.Laws.AppendOwnNone
import Derived.Laws.DeepStrings4
import Derived.Laws.Slices
import Derived.Deep.Slices
import Derived.Laws.MakeOwn
import Derived.Maps.AppendAt
import Derived.Lib.LaidU8
import Derived.WalkKit
import Derived.WalkSpells
import Derived.Test.YtpcdaoeijlifmaaChecked
import Derived.WalkLawsBesides
import Derived.BigQuiet
import Derived.Deep.LoopGhost
import Derived.Deep.QuietTactic
import Derived.IntWalk
import Derived.Lib.SmallJoins
import Derived.Deep.Fields
import Derived.ChangeSame
/- Words in which a Go function is written as a plain function that either has an answer or has none (a panic, or a loop that does not end in time); and how such a sentence is taken apart. No condition. -/
namespace Go.Proofs.Ytpcdaoeijlifmaa.GoP
set_option linter.unusedVariables false
open Go.RowKit

def idx {α : Type} (l : List α) (i : Int) : Option α := if 0 ≤ i then l[i.toNat]? else none
def letK {α ρ : Type} (x : α) (f : α → Option ρ) : Option ρ := f x
def iteK {ρ : Type} (c : Bool) (a b : Option ρ) : Option ρ := match c with | true => a | false => b
def joinK {γ : Type} {ρ : Type} (rest : γ) (f : γ → Option ρ) : Option ρ := f rest
def appK {α ρ : Type} (j : α → Option ρ) (x : α) : Option ρ := j x
def guardK {ρ : Type} (p : Prop) [Decidable p] (a : Option ρ) : Option ρ := if p then a else none
def bind2 {α β ρ : Type} (x : Option (α × β)) (f : α → β → Option ρ) : Option ρ := match x with | none => none | some (a, b) => f a b
def bind3 {α β γ ρ : Type} (x : Option (α × β × γ)) (f : α → β → γ → Option ρ) : Option ρ := match x with | none => none | some (a, b, c) => f a b c
def bind4 {α β γ δ ρ : Type} (x : Option (α × β × γ × δ)) (f : α → β → γ → δ → Option ρ) : Option ρ := match x with | none => none | some (a, b, c, d) => f a b c d
def unp2 {α β ρ : Type} (s : α × β) (f : α → β → Option ρ) : Option ρ := f s.1 s.2
def unp3 {α β γ ρ : Type} (s : α × β × γ) (f : α → β → γ → Option ρ) : Option ρ := f s.1 s.2.1 s.2.2
def unp4 {α β γ δ ρ : Type} (s : α × β × γ × δ) (f : α → β → γ → δ → Option ρ) : Option ρ := f s.1 s.2.1 s.2.2.1 s.2.2.2
/-- m rounds, counted from k on -/
def cntK {σ ρ : Type} (f : Nat → σ → (σ → Option ρ) → (σ → Option ρ) → Option ρ) : Nat → Nat → σ → (σ → Option ρ) → Option ρ
  | 0, _, s, fin => fin s
  | m + 1, k, s, fin => f k s (fun s' => cntK f m (k + 1) s' fin) fin
/-- rounds until one ends the loop, n at most -/
def loopK {σ ρ : Type} (f : σ → (σ → Option ρ) → (σ → Option ρ) → Option ρ) : Nat → σ → (σ → Option ρ) → Option ρ
  | 0, _, _ => none
  | n + 1, s, fin => f s (fun s' => loopK f n s' fin) fin

theorem let_hid {α ρ : Type} {x : α} {f : α → Option ρ} {r : ρ} (H : Hid (letK x f = some r)) : ∃ y, x = y ∧ Hid (f y = some r) := ⟨x, rfl, H⟩
theorem bind_hid {α ρ : Type} {x : Option α} {f : α → Option ρ} {r : ρ} (H : Hid (x.bind f = some r)) : ∃ y, Hid (x = some y) ∧ Hid (f y = some r) := by
  have h : x.bind f = some r := H
  cases x with
  | none => simp at h
  | some y => exact ⟨y, rfl, h⟩
theorem bind2_hid {α β ρ : Type} {x : Option (α × β)} {f : α → β → Option ρ} {r : ρ} (H : Hid (bind2 x f = some r)) : ∃ a b, Hid (x = some (a, b)) ∧ Hid (f a b = some r) := by
  have h : bind2 x f = some r := H
  cases x with
  | none => simp [bind2] at h
  | some y => exact ⟨y.1, y.2, rfl, h⟩
theorem bind3_hid {α β γ ρ : Type} {x : Option (α × β × γ)} {f : α → β → γ → Option ρ} {r : ρ} (H : Hid (bind3 x f = some r)) : ∃ a b c, Hid (x = some (a, b, c)) ∧ Hid (f a b c = some r) := by
  have h : bind3 x f = some r := H
  cases x with
  | none => simp [bind3] at h
  | some y => exact ⟨y.1, y.2.1, y.2.2, rfl, h⟩
theorem bind4_hid {α β γ δ ρ : Type} {x : Option (α × β × γ × δ)} {f : α → β → γ → δ → Option ρ} {r : ρ} (H : Hid (bind4 x f = some r)) : ∃ a b c d, Hid (x = some (a, b, c, d)) ∧ Hid (f a b c d = some r) := by
  have h : bind4 x f = some r := H
  cases x with
  | none => simp [bind4] at h
  | some y => exact ⟨y.1, y.2.1, y.2.2.1, y.2.2.2, rfl, h⟩
theorem ite_t {ρ : Type} {a b : Option ρ} {r : ρ} (H : Hid (iteK true a b = some r)) : Hid (a = some r) := H
theorem ite_f {ρ : Type} {a b : Option ρ} {r : ρ} (H : Hid (iteK false a b = some r)) : Hid (b = some r) := H
theorem join_hid {γ ρ : Type} {j : γ} {f : γ → Option ρ} {r : ρ} (H : Hid (joinK j f = some r)) : Hid (f j = some r) := H
theorem app_hid {α ρ : Type} {j : α → Option ρ} {x : α} {r : ρ} (H : Hid (appK j x = some r)) : Hid (j x = some r) := H
theorem guard_hid {ρ : Type} {p : Prop} [Decidable p] {a : Option ρ} {r : ρ} (H : Hid (guardK p a = some r)) : p ∧ Hid (a = some r) := by
  have h : guardK p a = some r := H
  unfold guardK at h
  by_cases hp : p
  · rw [if_pos hp] at h; exact ⟨hp, h⟩
  · rw [if_neg hp] at h; simp at h
theorem unp2_hid {α β ρ : Type} {a : α} {b : β} {f : α → β → Option ρ} {r : ρ} (H : Hid (unp2 (a, b) f = some r)) : Hid (f a b = some r) := H
theorem unp3_hid {α β γ ρ : Type} {a : α} {b : β} {c : γ} {f : α → β → γ → Option ρ} {r : ρ} (H : Hid (unp3 (a, b, c) f = some r)) : Hid (f a b c = some r) := H
theorem unp4_hid {α β γ δ ρ : Type} {a : α} {b : β} {c : γ} {d : δ} {f : α → β → γ → δ → Option ρ} {r : ρ} (H : Hid (unp4 (a, b, c, d) f = some r)) : Hid (f a b c d = some r) := H
theorem cnt_zero {σ ρ : Type} {f : Nat → σ → (σ → Option ρ) → (σ → Option ρ) → Option ρ} {k : Nat} {s : σ} {fin : σ → Option ρ} {r : ρ} (H : Hid (cntK f 0 k s fin = some r)) : Hid (fin s = some r) := H
theorem cnt_succ {σ ρ : Type} {f : Nat → σ → (σ → Option ρ) → (σ → Option ρ) → Option ρ} {m k : Nat} {s : σ} {fin : σ → Option ρ} {r : ρ} (H : Hid (cntK f (m + 1) k s fin = some r)) :
    Hid (f k s (fun s' => cntK f m (k + 1) s' fin) fin = some r) := H
theorem loop_zero {σ ρ : Type} {f : σ → (σ → Option ρ) → (σ → Option ρ) → Option ρ} {s : σ} {fin : σ → Option ρ} {r : ρ} (H : Hid (loopK f 0 s fin = some r)) : False := by
  have h : loopK f 0 s fin = some r := H
  simp [loopK] at h
theorem loop_succ {σ ρ : Type} {f : σ → (σ → Option ρ) → (σ → Option ρ) → Option ρ} {n : Nat} {s : σ} {fin : σ → Option ρ} {r : ρ} (H : Hid (loopK f (n + 1) s fin = some r)) :
    Hid (f s (fun s' => loopK f n s' fin) fin = some r) := H
theorem ret_hid {ρ : Type} {v r : ρ} (H : Hid (some v = some r)) : v = r := Option.some.inj H
theorem none_hid {ρ : Type} {r : ρ} (H : Hid ((none : Option ρ) = some r)) : False := by
  have h : (none : Option ρ) = some r := H
  simp at h
theorem idx_hid {α ρ : Type} {l : List α} {i : Int} {f : α → Option ρ} {r : ρ} (H : Hid ((idx l i).bind f = some r)) :
    ∃ (k : Nat) (x : α), i = (k : Int) ∧ k < l.length ∧ Hid (l[k]? = some x) ∧ Hid (f x = some r) := by
  have h : (idx l i).bind f = some r := H
  unfold idx at h
  by_cases hi : 0 ≤ i
  · rw [if_pos hi] at h
    cases hx : l[i.toNat]? with
    | none => rw [hx] at h; simp at h
    | some x =>
      rw [hx] at h
      exact ⟨i.toNat, x, (Int.toNat_of_nonneg hi).symm, (List.getElem?_eq_some_iff.1 hx).1, hx, h⟩
  · rw [if_neg hi] at h; simp at h
theorem idx_nat {α : Type} (l : List α) (k : Nat) : idx l (k : Int) = l[k]? := by unfold idx; rw [if_pos (by omega)]; simp
end Go.Proofs.Ytpcdaoeijlifmaa.GoP

/- Words for a slice that reads as a list of values, nil and empty let in; for slices of strings; and what becomes of them in later worlds. No condition. -/
namespace Go.Proofs.Ytpcdaoeijlifmaa.Rowed
set_option linter.unusedVariables false
open Go.RowKit

theorem add_block (a : Addr) (n : Nat) : (a.add n).block = a.block := by unfold Addr.add; split <;> rfl
theorem cell_lt {w : World} {a : Addr} {v : Value} (h : w.cell? a = some v) : a.block < w.heap.size := World.block_lt_of_cell? w a h
theorem cell_below {w w' : World} (hb : Below w.heap.size w w') {a : Addr} {v : Value} (hc : w.cell? a = some v) : w'.cell? a = some v := (hb.cell (cell_lt hc)).trans hc
theorem below_drewN (w : World) (m : Nat) : Below w.heap.size w (w.drewN m) := ⟨rfl, rfl, rfl, Nat.le_refl _, fun _ _ => rfl⟩
theorem Below.step {a b c : World} (h : Below a.heap.size a b) (k : Below b.heap.size b c) : Below a.heap.size a c := h.trans (k.mono h.size)

/-- the world has drawn, and nothing else has turned -/
def DrawnTo (w w' : World) : Prop := ∃ m, w' = w.drewN m
theorem DrawnTo.refl (w : World) : DrawnTo w w := ⟨0, rfl⟩
theorem DrawnTo.more {w w' : World} (h : DrawnTo w w') (n : Nat) : DrawnTo w (w'.drewN n) := let ⟨m, e⟩ := h; ⟨m + n, by rw [e, World.drewN_drewN]⟩
theorem DrawnTo.trans {a b c : World} (h : DrawnTo a b) (k : DrawnTo b c) : DrawnTo a c := by
  obtain ⟨m, rfl⟩ := h
  obtain ⟨n, rfl⟩ := k
  exact ⟨m + n, World.drewN_drewN ..⟩
theorem DrawnTo.cell {w w' : World} (h : DrawnTo w w') {a : Addr} {v : Value} (hc : w.cell? a = some v) : w'.cell? a = some v := by
  obtain ⟨m, rfl⟩ := h; exact hc
theorem DrawnTo.below {w w' : World} (h : DrawnTo w w') : Below w.heap.size w w' := by
  obtain ⟨m, rfl⟩ := h; exact below_drewN w m

/-- the slice 'A, n' reads as the cells xs (size cells each element) -/
def Cells (w : World) (size : Nat) (A : Option Addr) (n : Nat) (xs : List Value) : Prop :=
  xs.length = n * size ∧ (0 < xs.length → ∃ ad : Addr, A = some ad ∧ ∀ j u, xs[j]? = some u → w.cell? (ad.add j) = some u)

theorem Cells.below {w w' : World} {size n : Nat} {A : Option Addr} {xs : List Value} (h : Cells w size A n xs) (hb : Below w.heap.size w w') : Cells w' size A n xs :=
  ⟨h.1, fun hn => let ⟨ad, e, hc⟩ := h.2 hn; ⟨ad, e, fun j u hu => cell_below hb (hc j u hu)⟩⟩
theorem Cells.drewN {w : World} {size n : Nat} {A : Option Addr} {xs : List Value} (h : Cells w size A n xs) (m : Nat) : Cells (w.drewN m) size A n xs := h
theorem Cells.nil_ (w : World) (size : Nat) (A : Option Addr) : Cells w size A 0 [] := ⟨by simp, fun h => by simp at h⟩
theorem Cells.at_ {w : World} {n k : Nat} {A : Option Addr} {xs : List Value} (h : Cells w 1 A n xs) (hk : k < n) : ∃ ad u, A = some ad ∧ xs[k]? = some u ∧ w.cell? (ad.add k) = some u := by
  have hl : k < xs.length := by have := h.1; omega
  obtain ⟨ad, e, hc⟩ := h.2 (by omega)
  exact ⟨ad, xs[k], e, List.getElem?_eq_getElem hl, hc k _ (List.getElem?_eq_getElem hl)⟩
theorem Cells.of_own {w : World} {base size n c g : Nat} {e : TypeId} {xs : List Value} (h : w.ownsRow base e size (.slice (some ⟨g, 0, none⟩) n c) n xs) : Cells w size (some ⟨g, 0, none⟩) n xs :=
  ⟨h.1, fun _ => ⟨_, rfl, fun j u hu => h.cells (g := g) rfl j u hu⟩⟩

/-- a row that is filled from the left -/
def fill (a ys : List Value) (k : Nat) : List Value := a.take k ++ ys.drop k
theorem fill_zero (a ys : List Value) : fill a ys 0 = ys := by simp [fill]
theorem fill_all (a ys : List Value) (h : ys.length = a.length) : fill a ys a.length = a := by
  unfold fill; rw [List.take_of_length_le (Nat.le_refl _), ← h, List.drop_of_length_le (Nat.le_refl _), List.append_nil]
theorem fill_set (a ys : List Value) (k : Nat) (u : Value) (hk : k < ys.length) (hu : a[k]? = some u) : (fill a ys k).set k u = fill a ys (k + 1) := by
  have ha := (List.getElem?_eq_some_iff.1 hu).1
  have hau := (List.getElem?_eq_some_iff.1 hu).2
  unfold fill
  have hl : (a.take k).length = k := by rw [List.length_take]; omega
  rw [List.set_append_right _ _ (by omega), hl, Nat.sub_self, List.take_succ_eq_append_getElem ha, hau, List.drop_eq_getElem_cons hk, List.set_cons_zero, List.append_assoc]
  rfl
theorem fill_len (a ys : List Value) (k : Nat) (h : ys.length = a.length) : (fill a ys k).length = ys.length := by
  unfold fill; rw [List.length_append, List.length_take, List.length_drop]; omega

/-- the slice 'A, n' reads as the strings l -/
def Strs (w : World) (A : Option Addr) (n : Nat) (l : List ByteArray) : Prop := Cells w 1 A n (l.map Value.string)
theorem Strs.len {w : World} {A : Option Addr} {n : Nat} {l : List ByteArray} (h : Strs w A n l) : l.length = n := by have := h.1; simpa using this
theorem Strs.below {w w' : World} {A : Option Addr} {n : Nat} {l : List ByteArray} (h : Strs w A n l) (hb : Below w.heap.size w w') : Strs w' A n l := Cells.below h hb
theorem Strs.at_ {w : World} {A : Option Addr} {n k : Nat} {l : List ByteArray} (h : Strs w A n l) (hk : k < n) : ∃ ad x, A = some ad ∧ l[k]? = some x ∧ w.cell? (ad.add k) = some (.string x) := by
  obtain ⟨ad, u, e, hx, hc⟩ := Cells.at_ h hk
  rw [List.getElem?_map] at hx
  cases hl : l[k]? with
  | none => rw [hl] at hx; simp at hx
  | some x => rw [hl] at hx; obtain rfl : Value.string x = u := by simpa using hx
              exact ⟨ad, x, e, rfl, hc⟩

end Go.Proofs.Ytpcdaoeijlifmaa.Rowed

/- Words on what may turn between two worlds: only the blocks of one span; and on rows that lie in a span of blocks, read or owned. No condition. -/
namespace Go.Proofs.Ytpcdaoeijlifmaa.Turn
set_option linter.unusedVariables false
open Go.RowKit
open Go.Proofs.Ytpcdaoeijlifmaa.Rowed

/-- of what was there, only blocks from lo on and below hi may have turned -/
structure Turned (lo hi : Nat) (w w' : World) : Prop where
  os : w'.os = w.os
  tape : w'.tape = w.tape
  output : w'.output = w.output
  size : w.heap.size ≤ w'.heap.size
  block : ∀ k, k < w.heap.size → ¬ (lo ≤ k ∧ k < hi) → w'.heap[k]? = w.heap[k]?
theorem Turned.of_grown {w w' : World} {lo hi : Nat} {r : Option Nat} (h : w.grownBy w' r) (hr : ∀ k, r = some k → lo ≤ k ∧ k < hi) : Turned lo hi w w' :=
  ⟨h.os, h.tape, h.output, h.size, fun k hk hn => h.block k hk (fun e => hn (hr k e.symm))⟩
theorem below_turned {w wr w' : World} {lo hi : Nat} (h : Below w.heap.size w wr) (t : Turned lo hi wr w') (hl : w.heap.size ≤ lo) : Below w.heap.size w w' :=
  ⟨t.os.trans h.os, t.tape.trans h.tape, t.output.trans h.output, Nat.le_trans h.size t.size, fun k hk => (t.block k (Nat.lt_of_lt_of_le hk h.size) (by omega)).trans (h.block k hk)⟩

/-- the slice 'A, n' reads as the cells xs, and they lie in blocks from lo on and below hi -/
structure Rd (w : World) (size lo hi : Nat) (A : Option Addr) (n : Nat) (xs : List Value) : Prop where
  cells : Cells w size A n xs
  span : ∀ ad, A = some ad → 0 < xs.length → lo ≤ ad.block ∧ ad.block < hi
  top : hi ≤ w.heap.size
theorem Rd.below {w w' : World} {size lo hi n : Nat} {A : Option Addr} {xs : List Value} (h : Rd w size lo hi A n xs) (hb : Below w.heap.size w w') : Rd w' size lo hi A n xs :=
  ⟨h.cells.below hb, h.span, Nat.le_trans h.top hb.size⟩
theorem Rd.turned {w w' : World} {size lo hi a b n : Nat} {A : Option Addr} {xs : List Value} (h : Rd w size lo hi A n xs) (t : Turned a b w w') (hd : hi ≤ a ∨ b ≤ lo) : Rd w' size lo hi A n xs :=
  ⟨⟨h.cells.1, fun hn => by
    obtain ⟨ad, e, hc⟩ := h.cells.2 hn
    have hs := h.span ad e hn
    have ht := h.top
    exact ⟨ad, e, fun j u hu => (World.cell?_of_block (by rw [add_block]; exact t.block _ (by omega) (by omega))).trans (hc j u hu)⟩⟩, h.span, Nat.le_trans h.top t.size⟩
/-- cells that came in -/
theorem Rd.came {w : World} {size n : Nat} {A : Option Addr} {xs : List Value} (h : Cells w size A n xs) : Rd w size 0 w.heap.size A n xs :=
  ⟨h, fun ad e hn => by
    obtain ⟨ad', e', hc⟩ := h.2 hn
    obtain rfl : ad = ad' := by rw [e] at e'; exact Option.some.inj e'
    have h0 := cell_lt (hc 0 _ (List.getElem?_eq_getElem hn))
    rw [add_block] at h0
    exact ⟨Nat.zero_le _, h0⟩, Nat.le_refl _⟩

/-- the slice 'A, n, c' is a row of the call's own with the cells xs, in a block from lo on and below hi -/
structure Ow (w : World) (T : TypeId) (size lo hi : Nat) (A : Option Addr) (n c : Nat) (xs : List Value) : Prop where
  own : w.ownsRow lo T size (.slice A n c) n xs
  span : ∀ q, (Value.slice A n c).ownBlock = some q → q < hi
  top : hi ≤ w.heap.size
theorem Ow.of {w : World} {T : TypeId} {size lo n c : Nat} {A : Option Addr} {xs : List Value} (h : w.ownsRow lo T size (.slice A n c) n xs) : Ow w T size lo w.heap.size A n c xs :=
  ⟨h, fun q hq => (h.lt q hq).2, Nat.le_refl _⟩
theorem Ow.kept {w w' : World} {T : TypeId} {size lo hi a b n c : Nat} {A : Option Addr} {xs : List Value} (h : Ow w T size lo hi A n c xs) (t : Turned a b w w') (hd : hi ≤ a ∨ b ≤ lo) : w'.ownsRow lo T size (.slice A n c) n xs := by
  refine ⟨h.own.1, ?_⟩
  rcases h.own.2 with h0 | ⟨g, cap, cur, hv, hb, hh, rest⟩
  · exact .inl h0
  · have hg : g < hi := h.span g (by rw [hv]; rfl)
    have ht := h.top
    exact .inr ⟨g, cap, cur, hv, hb, (t.block g (by omega) (by omega)).trans hh, rest⟩
theorem Ow.turned {w w' : World} {T : TypeId} {size lo hi a b n c : Nat} {A : Option Addr} {xs : List Value} (h : Ow w T size lo hi A n c xs) (t : Turned a b w w') (hd : hi ≤ a ∨ b ≤ lo) : Ow w' T size lo hi A n c xs :=
  ⟨h.kept t hd, h.span, Nat.le_trans h.top t.size⟩
theorem Turned.of_below {w w' : World} (h : Below w.heap.size w w') : Turned 0 0 w w' := ⟨h.os, h.tape, h.output, h.size, fun k hk _ => h.block k hk⟩
theorem Ow.below {w w' : World} {T : TypeId} {size lo hi n c : Nat} {A : Option Addr} {xs : List Value} (h : Ow w T size lo hi A n c xs) (hb : Below w.heap.size w w') : Ow w' T size lo hi A n c xs :=
  h.turned (Turned.of_below hb) (.inr (Nat.zero_le _))
theorem own_cells {w : World} {base n c size : Nat} {A : Option Addr} {e : TypeId} {xs : List Value} (h : w.ownsRow base e size (.slice A n c) n xs) : Cells w size A n xs := by
  rcases h.2 with ⟨hv, h0⟩ | ⟨g, cap, cur, hv, _⟩
  · subst h0
    have := h.1
    exact ⟨this, fun hn => by rw [Nat.zero_mul] at this; omega⟩
  · injection hv with e1 e2 e3
    subst e1
    exact Cells.of_own h
theorem Ow.cells {w : World} {T : TypeId} {size lo hi n c : Nat} {A : Option Addr} {xs : List Value} (h : Ow w T size lo hi A n c xs) : Cells w size A n xs := own_cells h.own
/-- what is read only -/
theorem Ow.rd {w : World} {T : TypeId} {size lo hi n c : Nat} {A : Option Addr} {xs : List Value} (h : Ow w T size lo hi A n c xs) : Rd w size lo hi A n xs :=
  ⟨h.cells, fun ad e hn => by
    rcases h.own.2 with ⟨hv, h0⟩ | ⟨g, cap, cur, hv, hb, _⟩
    · have := h.own.1
      rw [h0, Nat.zero_mul] at this
      omega
    · have hg : g < hi := h.span g (by rw [hv]; rfl)
      injection hv with e1 e2 e3
      subst e1
      obtain rfl := Option.some.inj e
      exact ⟨hb, hg⟩, h.top⟩
/-- a mark, or another writing of one row -/
theorem Ow.writes {w w' : World} {T : TypeId} {size lo hi n c : Nat} {A : Option Addr} {xs : List Value} (h : Ow w T size lo hi A n c xs) (hg : w.grownBy w' (Value.slice A n c).ownBlock) : Turned lo hi w w' :=
  Turned.of_grown hg (fun k hk => ⟨(h.own.lt k hk).1, h.span k hk⟩)
theorem Ow.written {w w' : World} {T : TypeId} {size lo hi n c : Nat} {A : Option Addr} {xs ys : List Value} (h : Ow w T size lo hi A n c xs) (hs : w.heap.size ≤ w'.heap.size) (ho : w'.ownsRow lo T size (.slice A n c) n ys) : Ow w' T size lo hi A n c ys :=
  ⟨ho, h.span, Nat.le_trans h.top hs⟩

/-- the answer has no memory, and nothing has turned -/
def Gives (v : Value) (w : World) (e : Ending) (w' : World) : Prop := e = .returned v ∧ Below w.heap.size w w'
end Go.Proofs.Ytpcdaoeijlifmaa.Turn

/- Small words on types' facts, on classes of worlds, and on rows that are written. No condition. -/
namespace Go.Proofs.Ytpcdaoeijlifmaa.Aid
set_option linter.unusedVariables false
open Go.RowKit
open Go.Proofs.Ytpcdaoeijlifmaa.Rowed Go.Proofs.Ytpcdaoeijlifmaa.Turn

theorem info_parts {P : Program} {T : TypeId} {z : Value} {s b : Nat} (h : (P.info? T).map (fun i => (i.zero, i.size, i.bytes)) = some (some z, s, b)) : ∃ i, P.info? T = some i ∧ i.zero = some z ∧ i.size = s ∧ i.bytes = b := by
  cases hi : P.info? T with
  | none => rw [hi] at h; simp at h
  | some i => rw [hi] at h; simp at h; exact ⟨i, rfl, h.1, h.2.1, h.2.2⟩
theorem below_class {X Y : World} (h : ∃ p : Regrown, Y = Go.Sort.grow (redrawn X p.d) p.os) : Below X.heap.size X Y := by
  obtain ⟨⟨d, os⟩, rfl⟩ := h; exact below_regrown _ _ _
theorem grown_of {W W' : World} (h : Below W.heap.size W W') : W.grownBy W' none := ⟨h.os, h.tape, h.output, h.size, fun k hk _ => h.block k hk⟩
theorem grown_weak {W W' : World} (h : W.grownBy W' none) (g : Nat) : W.grownBy W' (some g) := ⟨h.os, h.tape, h.output, h.size, fun k hk _ => h.block k hk (by simp)⟩
theorem grown_tr {a b c : World} {r : Option Nat} (h : a.grownBy b r) (k : b.grownBy c r) : a.grownBy c r :=
  ⟨k.os.trans h.os, k.tape.trans h.tape, k.output.trans h.output, Nat.le_trans h.size k.size, fun i hi hr => (k.block i (Nat.lt_of_lt_of_le hi h.size) hr).trans (h.block i hi hr)⟩
theorem grown_refl (w : World) (r : Option Nat) : w.grownBy w r := ⟨rfl, rfl, rfl, Nat.le_refl _, fun _ _ _ => rfl⟩
theorem ret_int {k : IntKind} {a b : Int} (h : a = b) : Ending.returned (.int k a) = .returned (.int k b) := by rw [h]
theorem ret_bool {a b : Bool} (h : a = b) : Ending.returned (.bool a) = .returned (.bool b) := by rw [h]
end Go.Proofs.Ytpcdaoeijlifmaa.Aid

/- Words on memory for the contracts of plain functions. No condition. -/
namespace Go.Proofs.Ytpcdaoeijlifmaa.GoM
set_option linter.unusedVariables false
open Go.RowKit
open Go.Proofs.Ytpcdaoeijlifmaa.Rowed Go.Proofs.Ytpcdaoeijlifmaa.Turn

theorem box_new (w : World) (cs : List Value) (T : TypeId) (j : Nat) (u : Value) (h : cs[j]? = some u) : (w.alloc (.cells ⟨cs⟩ T)).cell? ⟨w.heap.size, j, none⟩ = some u := by
  have hb : (w.alloc (.cells ⟨cs⟩ T)).heap[w.heap.size]? = some (.cells ⟨cs⟩ T) := heap_alloc_new w _
  unfold World.cell?
  rw [hb]
  simpa using h
theorem size_list (s : ByteArray) : s.toList.length = s.size := by rw [Lib.toList_data]; rfl
theorem byte_rule {s : ByteArray} {n : Nat} {y : UInt8} (l : n < s.toList.length) (g : s.toList[n]? = some y) : ∀ h : n < s.size, s[n]'h = y := by
  intro h
  have e := List.getElem?_eq_getElem l
  rw [g] at e
  have := Option.some.inj e
  rw [this]
  simp [Lib.toList_data]
  rfl
theorem own_empty {w wc : World} {T K : Nat} (h : w.heap.size ≤ wc.heap.size) : (wc.alloc (.cells #[] T)).ownsRow w.heap.size T K (.slice (some ⟨wc.heap.size, 0, none⟩) 0 0) 0 [] :=
  ⟨by simp, .inr ⟨wc.heap.size, 0, #[], rfl, h, heap_alloc_new wc _, Nat.le_refl _, by unfold maxLen; omega, by simp, by simp⟩⟩
theorem own_laid {w wc : World} {T K n : Nat} {cs : List Value} {xs : List Value} (h : w.heap.size ≤ wc.heap.size) (hx : cs = xs) (hl : cs.length = n * K) (hn : n ≤ maxLen) : (wc.alloc (.cells ⟨cs⟩ T)).ownsRow w.heap.size T K (.slice (some ⟨wc.heap.size, 0, none⟩) n n) n xs := by
  subst hx
  exact ⟨hl, .inr ⟨wc.heap.size, n, ⟨cs⟩, rfl, h, heap_alloc_new wc _, Nat.le_refl _, hn, by simpa using hl, by rw [← hl]; simp⟩⟩
theorem add_flat (b o n : Nat) : (⟨b, o, none⟩ : Addr).add n = ⟨b, o + n, none⟩ := by
  unfold Addr.add; split
  · rename_i h; subst h; rfl
  · rfl
theorem strs_at {w : World} {A : Option Addr} {n k : Nat} {l : List ByteArray} (h : Cells w 1 A n (l.map Value.string)) (hk : k < n) : ∃ (b o : Nat) (x : ByteArray), A = some ⟨b, o, none⟩ ∧ l[k]? = some x ∧ w.cell? ⟨b, o + k, none⟩ = some (.string x) := by
  have hl : k < l.length := by have := h.1; rw [List.length_map] at this; omega
  obtain ⟨⟨b, o, sp⟩, e, hc⟩ := h.2 (by rw [List.length_map]; omega)
  have h0 := hc 0 (.string l[0]) (by rw [List.getElem?_map, List.getElem?_eq_getElem (show 0 < l.length by omega)]; rfl)
  obtain rfl : sp = none := cell_spot (b := b) (o := o) h0
  have hs := List.getElem?_eq_getElem hl
  have := hc k (.string l[k]) (by rw [List.getElem?_map, hs]; rfl)
  rw [add_flat] at this
  exact ⟨b, o, l[k], e, hs, this⟩
theorem bools_at {w : World} {A : Option Addr} {n k : Nat} {l : List Bool} (h : Cells w 1 A n (l.map Value.bool)) (hk : k < n) : ∃ (b o : Nat) (x : Bool), A = some ⟨b, o, none⟩ ∧ l[k]? = some x ∧ w.cell? ⟨b, o + k, none⟩ = some (.bool x) := by
  have hl : k < l.length := by have := h.1; rw [List.length_map] at this; omega
  obtain ⟨⟨b, o, sp⟩, e, hc⟩ := h.2 (by rw [List.length_map]; omega)
  have h0 := hc 0 (.bool l[0]) (by rw [List.getElem?_map, List.getElem?_eq_getElem (show 0 < l.length by omega)]; rfl)
  obtain rfl : sp = none := cell_spot (b := b) (o := o) h0
  have hs := List.getElem?_eq_getElem hl
  have := hc k (.bool l[k]) (by rw [List.getElem?_map, hs]; rfl)
  rw [add_flat] at this
  exact ⟨b, o, l[k], e, hs, this⟩
theorem own_nil {w : World} {b T K : Nat} : w.ownsRow b T K (.slice none 0 0) 0 [] := ⟨by simp, .inl ⟨rfl, rfl⟩⟩
theorem own_lower {w : World} {b base n size : Nat} {v : Value} {e : TypeId} {xs : List Value} (h : w.ownsRow base e size v n xs) (hb : b ≤ base) : w.ownsRow b e size v n xs :=
  ⟨h.1, by
    rcases h.2 with h0 | ⟨g, cap, cur, hv, hb', rest⟩
    · exact .inl h0
    · exact .inr ⟨g, cap, cur, hv, Nat.le_trans hb hb', rest⟩⟩
theorem own_below {w w' : World} {base n size : Nat} {v : Value} {e : TypeId} {xs : List Value} (h : w.ownsRow base e size v n xs) (hb : Below w.heap.size w w') : w'.ownsRow base e size v n xs :=
  h.kept (Aid.grown_of hb) (by cases v.ownBlock <;> simp)
theorem own_push {α : Type} {f : List α → List Value} {cx : List Value} {l t : List α} {x : α} {w' : World} {b T K : Nat} {v' : Value} {n : Nat} (ht : l ++ [x] = t) (hf : f (l ++ [x]) = f l ++ cx) (hn : l.length = n) (h : w'.ownsRow b T K v' (n + 1) (f l ++ cx)) :
    ∃ g cap, v' = .slice (some ⟨g, 0, none⟩) t.length cap ∧ w'.ownsRow b T K (.slice (some ⟨g, 0, none⟩) t.length cap) t.length (f t) := by
  subst ht
  subst hn
  have el : (l ++ [x]).length = l.length + 1 := by simp
  obtain ⟨g, cap, rfl⟩ : ∃ g cap, v' = .slice (some ⟨g, 0, none⟩) (l.length + 1) cap := by
    rcases h.2 with ⟨_, h⟩ | ⟨g3, cap3, _, h, _⟩
    · omega
    · exact ⟨g3, cap3, h⟩
  exact ⟨g, cap, by rw [el], by rw [el, hf]; exact h⟩
theorem news_new {w w2 : World} {cs : List Value} {T : TypeId} (h : w.alloc (.cells ⟨cs⟩ T) = w2) : ∀ j u, cs[j]? = some u → w2.cell? ((⟨w.heap.size, 0, none⟩ : Addr).add j) = some u := by
  intro j u hu
  subst h
  have : (⟨w.heap.size, 0, none⟩ : Addr).add j = ⟨w.heap.size, j, none⟩ := by
    unfold Addr.add; split
    · rename_i hj; subst hj; rfl
    · simp
  rw [this]
  exact box_new w cs T j u hu
theorem one_cells {l : List Value} (h : l.all (fun u => u.oneCell') = true) : ∀ u ∈ l, u.oneCell' = true := fun u hu => List.all_eq_true.1 h u hu
theorem cat_rule {P : Program} {a b c : ByteArray} (h : a ++ b = c) (hl : a.size + b.size ≤ maxLen) : ∀ W, (Op.stringOp .add a b).run P W = .ok (.string c) W := by
  intro W
  rw [run_string_add_sum]
  · subst h; rfl
  · unfold maxLen at hl; omega
theorem slice_both {P : Program} {t : TypeId} {s c : ByteArray} {k k' : IntKind} {i j : Int} (hu : P.underlying t = some .string) (h : s.extract i.toNat j.toNat = c) (hl : 0 ≤ i ∧ i ≤ j ∧ j ≤ (s.size : Int)) :
    ∀ W, (Instr.slice t (.string s) (some (.int k i)) (some (.int k' j)) none).run P W = .ok (.string c) W := by
  intro W
  rw [run_slice_string_if _ _ _ _ _ _ _ hu, if_pos ⟨by omega, hl.2.2⟩, if_pos ⟨hl.1, hl.2.1⟩, h]
theorem slice_from {P : Program} {t : TypeId} {s c : ByteArray} {k : IntKind} {i : Int} (hu : P.underlying t = some .string) (h : s.extract i.toNat s.size = c) (hl : 0 ≤ i ∧ i ≤ (s.size : Int)) :
    ∀ W, (Instr.slice t (.string s) (some (.int k i)) none none).run P W = .ok (.string c) W := by
  intro W
  rw [run_slice_string_from_if _ _ _ _ _ hu, if_pos hl, h]
theorem slice_to {P : Program} {t : TypeId} {s c : ByteArray} {k : IntKind} {j : Int} (hu : P.underlying t = some .string) (h : s.extract 0 j.toNat = c) (hl : 0 ≤ j ∧ j ≤ (s.size : Int)) :
    ∀ W, (Instr.slice t (.string s) none (some (.int k j)) none).run P W = .ok (.string c) W := by
  intro W
  rw [run_slice_string_to_if _ _ _ _ _ hu, if_pos hl, h]
theorem results_tmp4 {fn : Func} {t u v x : Tmp} (h : fn.results = #[.tmp t, .tmp u, .tmp v, .tmp x]) (tmps : Array Value) (P : Program) (w : World) :
    (results fn tmps).run P w = .ok (.tuple #[tmps.getD t undef, tmps.getD u undef, tmps.getD v undef, tmps.getD x undef]) w := by
  simp [results, h]
/-- the walk stands here -/
def Stop (p : Prop) : Prop := p
theorem stop_in {p : Prop} (h : Stop p) : p := h
theorem stop_out {p : Prop} (h : p) : Stop p := h
/-- two rows lie in different blocks -/
def Apart (A B : Option Addr) : Prop := ∀ a b, A = some a → B = some b → a.block ≠ b.block
theorem Apart.symm {A B : Option Addr} (h : Apart A B) : Apart B A := fun a b ha hb e => h b a hb ha e.symm
theorem own_lt {w : World} {b T K n m c : Nat} {A : Option Addr} {xs : List Value} (h : w.ownsRow b T K (.slice A m c) n xs) (a : Addr) (ha : A = some a) : b ≤ a.block ∧ a.block < w.heap.size := by
  subst ha
  exact h.lt a.block rfl
theorem apart_fresh {w : World} {b T K n m c : Nat} {A : Option Addr} {xs : List Value} (h : w.ownsRow b T K (.slice A m c) n xs) : Apart (some ⟨w.heap.size, 0, none⟩) A := by
  intro a a' ha ha' e
  have := (own_lt h a' ha').2
  injection ha with ha
  subst ha
  simp at e
  omega
theorem apart_call {w w1 : World} {b T K n m c T' K' n' m' c' : Nat} {A B : Option Addr} {xs ys : List Value} (h1 : w1.ownsRow w.heap.size T K (.slice A m c) n xs) (h : w.ownsRow b T' K' (.slice B m' c') n' ys) : Apart A B := by
  intro a a' ha ha' e
  have := (own_lt h a' ha').2
  have := (own_lt h1 a ha).1
  omega
theorem apart_box {w : World} {g j : Nat} {v : Value} (h : w.cell? ⟨g, j, none⟩ = some v) : Apart (some ⟨w.heap.size, 0, none⟩) (some ⟨g, 0, none⟩) := by
  intro a a' ha ha' e
  have hl : g < w.heap.size := cell_lt h
  injection ha with ha
  injection ha' with ha'
  subst ha
  subst ha'
  simp at e
  omega
theorem apart_callbox {w w1 : World} {T K n m c g j : Nat} {A : Option Addr} {xs : List Value} {v : Value} (h1 : w1.ownsRow w.heap.size T K (.slice A m c) n xs) (h : w.cell? ⟨g, j, none⟩ = some v) : Apart A (some ⟨g, 0, none⟩) := by
  intro a a' ha ha' e
  have hl : g < w.heap.size := cell_lt h
  have := (own_lt h1 a ha).1
  injection ha' with ha'
  subst ha'
  simp at e
  omega
theorem apart_app {w : World} {n c n' c' : Nat} {A A' B : Option Addr} (hD : Apart A B) (hB : ∀ a, B = some a → a.block < w.heap.size) (h : (Value.slice A' n' c').ownBlock = (Value.slice A n c).ownBlock ∨ (Value.slice A' n' c').ownBlock = some w.heap.size) : Apart A' B := by
  intro a a' ha ha' e
  have hl := hB a' ha'
  subst ha
  rcases h with h | h
  · cases A with
    | none => simp [Value.ownBlock] at h
    | some x => simp only [Value.ownBlock, Option.some.injEq] at h; exact hD x a' rfl ha' (h ▸ e)
  · simp only [Value.ownBlock, Option.some.injEq] at h; omega
theorem own_other {w w' : World} {b T K n m c n' c' : Nat} {A B : Option Addr} {ys : List Value} (h : w.ownsRow b T K (.slice B m c) n ys) (hg : w.grownBy w' (Value.slice A n' c').ownBlock) (hD : Apart A B) : w'.ownsRow b T K (.slice B m c) n ys := by
  refine h.kept hg ?_
  cases B with
  | none => exact .inl rfl
  | some y =>
    refine .inr ?_
    cases A with
    | none => simp [Value.ownBlock]
    | some x => simp only [Value.ownBlock, ne_eq, Option.some.injEq]; exact fun e => hD x y rfl rfl e.symm
theorem cell_other {w w' : World} {n' c' : Nat} {A : Option Addr} {a : Addr} {v : Value} (h : w.cell? a = some v) (hg : w.grownBy w' (Value.slice A n' c').ownBlock) (hD : Apart A (some ⟨a.block, 0, none⟩)) : w'.cell? a = some v := by
  rw [World.cell?_of_block (hg.block a.block (cell_lt h) ?_)]
  · exact h
  · cases A with
    | none => simp [Value.ownBlock]
    | some x => simp only [Value.ownBlock, ne_eq, Option.some.injEq]; exact fun e => hD x _ rfl rfl e.symm
theorem apart_old {wr : World} {b T K n m c g : Nat} {A : Option Addr} {xs : List Value} (h : wr.ownsRow b T K (.slice A m c) n xs) (hg : g < b) : Apart A (some ⟨g, 0, none⟩) := by
  intro a a' ha ha' e
  have := (own_lt h a ha).1
  injection ha' with ha'
  subst ha'
  simp at e
  omega
theorem own_len {w : World} {b T K n m c : Nat} {A : Option Addr} {xs : List Value} (h : m = n) (hO : w.ownsRow b T K (.slice A n c) n xs) : w.ownsRow b T K (.slice A m c) m xs := by subst h; exact hO
theorem own_max {w : World} {b T K n c : Nat} {A : Option Addr} {xs : List Value} (h : w.ownsRow b T K (.slice A n c) n xs) : n ≤ 9223372036854775807 := by
  rcases h.2 with ⟨_, h0⟩ | ⟨g, cap, cur, hv, _, _, h1, h2, _⟩
  · omega
  · unfold maxLen at h2; omega
theorem grown_below {w wr w2 : World} {q : Option Nat} (h : w.grownBy wr q) (hb : Below wr.heap.size wr w2) : w.grownBy w2 q :=
  Aid.grown_tr h ⟨hb.os, hb.tape, hb.output, hb.size, fun k hk _ => hb.block k hk⟩
theorem own_some {w : World} {b T K n c : Nat} {A : Option Addr} {xs : List Value} (h : w.ownsRow b T K (.slice A n c) n xs) (hn : 0 < n) : ∃ g, A = some ⟨g, 0, none⟩ := by
  rcases h.2 with ⟨_, h0⟩ | ⟨g, cap, cur, hv, _⟩
  · omega
  · injection hv with e1; exact ⟨g, e1⟩
theorem own_stores {b T K n c g : Nat} (ps : List (Nat × Value)) : ∀ {w : World} {xs : List Value}, w.ownsRow b T K (.slice (some ⟨g, 0, none⟩) n c) n xs →
    (ps.foldl (fun w p => w.setCell ⟨g, p.1, none⟩ p.2) w).ownsRow b T K (.slice (some ⟨g, 0, none⟩) n c) n (ps.foldl (fun xs p => xs.set p.1 p.2) xs) ∧ w.grownBy (ps.foldl (fun w p => w.setCell ⟨g, p.1, none⟩ p.2) w) (some g) := by
  induction ps with
  | nil => intro w xs h; exact ⟨h, Aid.grown_refl _ _⟩
  | cons p ps ih =>
    intro w xs h
    have h1 := h.stored p.1 p.2
    have h2 := ih h1.1
    exact ⟨h2.1, Aid.grown_tr h1.2 h2.2⟩
theorem flat_set {α : Type} (f : α → List Value) (K : Nat) (hK : ∀ x, (f x).length = K) : ∀ (l : List α) (k j : Nat) (s1 s2 : α) (v : Value), k < l.length → j < K → (f s1).set j v = f s2 → ((l.set k s1).flatMap f).set (k * K + j) v = (l.set k s2).flatMap f := by
  intro l
  induction l with
  | nil => intro k j s1 s2 v hk; simp at hk
  | cons x l ih =>
    intro k j s1 s2 v hk hj hc
    cases k with
    | zero =>
      simp only [List.set_cons_zero, List.flatMap_cons, Nat.zero_mul, Nat.zero_add]
      rw [List.set_append_left _ _ (by rw [hK]; exact hj), hc]
    | succ k =>
      simp only [List.set_cons_succ, List.flatMap_cons]
      rw [List.set_append_right _ _ (by rw [hK, Nat.add_mul]; omega), hK, show (k + 1) * K + j - K = k * K + j by rw [Nat.add_mul]; omega, ih k j s1 s2 v (by simpa using hk) hj hc]
theorem set_self {α : Type} {l : List α} {k : Nat} {x : α} (h : l[k]? = some x) : l.set k x = l := by
  obtain ⟨hk, e⟩ := List.getElem?_eq_some_iff.1 h
  rw [← e]; simp
theorem map_flat {α : Type} (g : α → Value) (l : List α) : l.map g = l.flatMap (fun x => [g x]) := by
  induction l with
  | nil => rfl
  | cons x l ih => simp [List.flatMap_cons, ih]
theorem made_flat {α : Type} (f : α → List Value) (x0 : α) (z : Value) (K n : Nat) (hz : z.cells.toList = f x0) (hK : z.cells.size = K) (hp : 0 < K) : (madeCells z.cells (n * K)).toList = (List.replicate n x0).flatMap f := by
  have hl : (f x0).length = K := by rw [← hz, ← hK]; simp
  have hr : ∀ n, (List.range (n * K)).map (fun i => z.cells[i % z.cells.size]!) = (List.replicate n x0).flatMap f := by
    intro n
    induction n with
    | zero => simp
    | succ n ih =>
      rw [List.replicate_succ', List.flatMap_append, ← ih, Nat.add_mul, Nat.one_mul, List.range_add, List.map_append]
      congr 1
      simp only [List.map_map, List.flatMap_cons, List.flatMap_nil, List.append_nil]
      apply List.ext_getElem
      · simp [hl]
      · intro i h1 h2
        have hi : i < K := by simpa using h1
        simp only [List.getElem_map, List.getElem_range, Function.comp]
        rw [hK, Nat.add_comm, Nat.add_mul_mod_self_right, Nat.mod_eq_of_lt hi]
        have h3 : i < z.cells.size := by omega
        rw [getElem!_pos z.cells i h3]
        have : z.cells.toList[i]'(by simpa using h3) = z.cells[i] := by simp
        rw [← this]
        congr 1
  unfold madeCells
  rw [← hr n]
  simp
/-- a row is no longer than its room; nil has none -/
def Room (A : Option Addr) (n c : Nat) : Prop := n ≤ c ∧ (A = none → c = 0)
theorem own_room {w : World} {b T K n c : Nat} {A : Option Addr} {xs : List Value} (h : w.ownsRow b T K (.slice A n c) n xs) : Room A n c := by
  rcases h.2 with ⟨h1, h2⟩ | ⟨g, cap, cur, h1, _, _, hr, _⟩
  · simp only [Value.slice.injEq] at h1
    exact ⟨by omega, fun _ => by omega⟩
  · simp only [Value.slice.injEq] at h1
    exact ⟨by omega, fun e => by rw [h1.1] at e; simp at e⟩
theorem flat_drop {α : Type} (f : α → List Value) (K : Nat) (hK : ∀ x, (f x).length = K) : ∀ (l : List α) (j : Nat), (l.flatMap f).drop (j * K) = (l.drop j).flatMap f := by
  intro l
  induction l with
  | nil => intro j; simp
  | cons x l ih =>
    intro j
    cases j with
    | zero => simp
    | succ j =>
      have e : (j + 1) * K = (f x).length + j * K := by rw [hK x, Nat.add_mul]; omega
      rw [List.flatMap_cons, e, List.drop_append, List.drop_of_length_le (by omega), List.drop_succ_cons, ← ih j]
      simp
/-- s[lo:] of a row that came in -/
theorem slice_tail {P : Program} {t e : TypeId} {i : TypeInfo} {k : IntKind} {K n c : Nat} {A : Option Addr} {lo : Int} {w : World} {xs ys : List Value} {m : Nat}
    (ht : P.underlying t = some (.slice (P.elem t))) (he : P.elem t = e) (hi : P.info? e = some i) (hs : i.size = K) (hc : Cells w K A n xs) (hR : Room A n c) (hl : 0 ≤ lo ∧ lo ≤ (n : Int)) (hm : n - lo.toNat = m) (hd : xs.drop (lo.toNat * K) = ys) :
    ∃ A' c', (∀ W, (Instr.slice t (.slice A n c) (some (.int k lo)) none none).run P W = .ok (.slice A' m c') W) ∧ Cells w K A' m ys ∧ Room A' m c' := by
  subst hm; subst hd
  have hr := hR.1
  have hsz : ∀ W, (sizeOf (P.elem t)).run P W = .ok K W := by intro W; subst he; simp [sizeOf, typeInfo, hi, hs]
  refine ⟨if c = lo.toNat then A else A.map (·.add (lo.toNat * K)), c - lo.toNat, ?_, ?_, ⟨by omega, fun e => by
    have : A = none := by
      by_cases h : c = lo.toNat
      · rw [if_pos h] at e; exact e
      · rw [if_neg h] at e; simpa using e
    have := hR.2 this; omega⟩⟩
  · intro W
    rw [run_slice_l (P := P) W t A n c ht k lo hl.1 hl.2, hsz W]
    rfl
  · refine ⟨by rw [List.length_drop, hc.1, Nat.sub_mul], fun h0 => ?_⟩
    rw [List.length_drop] at h0
    obtain ⟨ad, rfl, h⟩ := hc.2 (by omega)
    have h1 := hc.1
    have hne : ¬ c = lo.toNat := by
      intro e2
      have : n = lo.toNat := by omega
      rw [h1, this] at h0; omega
    refine ⟨ad.add (lo.toNat * K), by rw [if_neg hne]; rfl, fun j u hu => ?_⟩
    rw [List.getElem?_drop] at hu
    have := h _ u hu
    rwa [Go.Deep.add_add]
theorem flat_take {α : Type} (f : α → List Value) (K : Nat) (hK : ∀ x, (f x).length = K) : ∀ (l : List α) (j : Nat), (l.flatMap f).take (j * K) = (l.take j).flatMap f := by
  intro l
  induction l with
  | nil => intro j; simp
  | cons x l ih =>
    intro j
    cases j with
    | zero => simp
    | succ j =>
      have e : (j + 1) * K = (f x).length + j * K := by rw [hK x, Nat.add_mul]; omega
      rw [List.flatMap_cons, e, List.take_append, List.take_of_length_le (by omega), List.take_succ_cons, List.flatMap_cons, ← ih j]
      simp
/-- s[:hi] of a row of its own -/
theorem slice_head {P : Program} {t e : TypeId} {i : TypeInfo} {k : IntKind} {K n c b : Nat} {A : Option Addr} {hi : Int} {w : World} {xs ys : List Value} {m : Nat}
    (ht : P.underlying t = some (.slice (P.elem t))) (he : P.elem t = e) (hi_ : P.info? e = some i) (hs : i.size = K) (h : w.ownsRow b e K (.slice A n c) n xs) (hl : 0 ≤ hi ∧ hi ≤ (n : Int)) (hm : hi.toNat = m) (hd : xs.take (hi.toNat * K) = ys) :
    (∀ W, (Instr.slice t (.slice A n c) none (some (.int k hi)) none).run P W = .ok (.slice A m c) W) ∧ w.ownsRow b e K (.slice A m c) m ys := by
  subst hm; subst hd
  have hR := own_room h
  have hsz : ∀ W, (sizeOf (P.elem t)).run P W = .ok K W := by intro W; subst he; simp [sizeOf, typeInfo, hi_, hs]
  have hz : ∀ a : Addr, a.add 0 = a := by intro a; unfold Addr.add; simp
  refine ⟨fun W => ?_, ?_, ?_⟩
  · rw [run_slice_h (P := P) W t A n c ht k hi hl.1 (by have := hR.1; omega), hsz W]
    cases A <;> simp [Result.andThen, sliced, hz]
  · rw [List.length_take, h.1]
    exact Nat.min_eq_left (Nat.mul_le_mul_right K (by omega))
  · rcases h.2 with ⟨h1, h2⟩ | ⟨g, cap, cur, h1, h2, h3, h4, h5, h6, h7⟩
    · simp only [Value.slice.injEq] at h1
      left
      have : hi.toNat = 0 := by omega
      exact ⟨by rw [h1.1, h1.2.2, this], this⟩
    · simp only [Value.slice.injEq] at h1
      right
      refine ⟨g, cap, cur, by rw [h1.1, h1.2.2], h2, h3, by omega, h5, h6, ?_⟩
      rw [← h7, List.take_take, Nat.min_eq_left (Nat.mul_le_mul_right K (by omega))]
/-- s[:hi] of a row that came in -/
theorem slice_headB {P : Program} {t e : TypeId} {i : TypeInfo} {k : IntKind} {K n c : Nat} {A : Option Addr} {hi : Int} {w : World} {xs ys : List Value} {m : Nat}
    (ht : P.underlying t = some (.slice (P.elem t))) (he : P.elem t = e) (hi_ : P.info? e = some i) (hs : i.size = K) (h : Cells w K A n xs) (hR : Room A n c) (hl : 0 ≤ hi ∧ hi ≤ (n : Int)) (hm : hi.toNat = m) (hd : xs.take (hi.toNat * K) = ys) :
    (∀ W, (Instr.slice t (.slice A n c) none (some (.int k hi)) none).run P W = .ok (.slice A m c) W) ∧ Cells w K A m ys ∧ Room A m c := by
  subst hm; subst hd
  have hsz : ∀ W, (sizeOf (P.elem t)).run P W = .ok K W := by intro W; subst he; simp [sizeOf, typeInfo, hi_, hs]
  have hz : ∀ a : Addr, a.add 0 = a := by intro a; unfold Addr.add; simp
  refine ⟨fun W => ?_, ⟨?_, fun h0 => ?_⟩, ⟨by have := hR.1; omega, hR.2⟩⟩
  · rw [run_slice_h (P := P) W t A n c ht k hi hl.1 (by have := hR.1; omega), hsz W]
    cases A <;> simp [Result.andThen, sliced, hz]
  · rw [List.length_take, h.1]
    exact Nat.min_eq_left (Nat.mul_le_mul_right K (by omega))
  · rw [List.length_take] at h0
    obtain ⟨ad, e, hc⟩ := h.2 (by omega)
    refine ⟨ad, e, fun j u hu => hc j u ?_⟩
    have := List.getElem?_take (l := xs) (i := hi.toNat * K) (j := j)
    rw [this] at hu
    split at hu
    · exact hu
    · cases hu
/-- append(a, b...) onto a row of its own -/
theorem append_spread {P : Program} {w : World} {ops : Array Oper} {rest : List Oper} {o : Oper} {a : Act} {Q : Exit → Act → World → Prop} (hgd : o.guard = none) (s x : Operand) (t : TypeId)
    (ho : o.op = .call { callee := .builtin .append, args := #[s, x], argTypes := #[t, t] })
    (base : Nat) (e : TypeId) (i : TypeInfo) (z : Value) (size bytes : Nat) (ht : P.underlying t = some (.slice e)) (hi : P.info? e = some i) (hz : i.zero = some z)
    (hsize : i.size = size) (hby : i.bytes = bytes) (hzs : z.cells.size = size) (hsz : 0 < size)
    (A1 : Option Addr) (c1 n : Nat) (xs : List Value) (hs : a.eval s = .slice A1 n c1) (hown : w.ownsRow base e size (.slice A1 n c1) n xs)
    (A : Option Addr) (m c : Nat) (news : List Value) (hx : a.eval x = .slice A m c) (hN : Room A m c) (hc : Cells w size A m news) (h1 : ∀ u ∈ news, u.oneCell' = true)
    (h63 : n + m ≤ maxLen) (hbytes : (n + m) * bytes ≤ 140737488355328) (hbase : base ≤ w.heap.size)
    (h : ∀ v' w', w'.ownsRow base e size v' (n + m) (xs ++ news) → w.grownBy w' (Value.slice A1 n c1).ownBlock → (v'.ownBlock = (Value.slice A1 n c1).ownBlock ∨ v'.ownBlock = some w.heap.size) → wpList P ops Q rest (a.put o.dst v') w') :
    wpList P ops Q (o :: rest) a w := by
  cases A with
  | some ad =>
    refine wpList_append_own_at w hgd s x t ho base e i z size bytes ht hi hz hsize hby hzs hsz _ n xs hs hown ad m c news hx hc.1 (fun j u hu => ?_) h1 h63 hbytes hbase (fun v' w' o1 g1 _ y1 => h v' w' o1 g1 y1)
    obtain ⟨ad', e', hcell⟩ := hc.2 (by have := (List.getElem?_eq_some_iff.1 hu).1; omega)
    obtain rfl : ad = ad' := Option.some.inj e'
    exact hcell j u hu
  | none =>
    have hm : m = 0 := by
      cases news with
      | nil =>
        have h0 : ([] : List Value).length = m * size := hc.1
        rw [List.length_nil] at h0
        rcases Nat.mul_eq_zero.1 h0.symm with h1 | h1 <;> omega
      | cons y l => obtain ⟨ad, e', _⟩ := hc.2 (by simp); simp at e'
    obtain rfl : c = 0 := hN.2 rfl
    subst hm
    have hn : news = [] := List.eq_nil_of_length_eq_zero (by have := hc.1; simpa using this)
    subst hn
    refine Go.wpList_append_own_none hgd s x t ho base e i size ht hi _ n xs hs hown hx ?_
    exact h _ w (by simpa using hown) (World.grownBy.refl w _) (.inl rfl)
theorem own_pushS {α : Type} {f : List α → List Value} {l b t : List α} {w' : World} {bs T K : Nat} {v' : Value} {n : Nat} (ht : l ++ b = t) (hf : f (l ++ b) = f l ++ f b) (hn : l.length = n) (h : w'.ownsRow bs T K v' (n + b.length) (f l ++ f b)) :
    ∃ A cap, v' = .slice A t.length cap ∧ w'.ownsRow bs T K (.slice A t.length cap) t.length (f t) := by
  subst ht
  subst hn
  rw [← List.length_append, ← hf] at h
  rcases h.2 with ⟨h1, h2⟩ | ⟨g3, cap3, _, h2, _⟩
  · have hv : v' = .slice none (l ++ b).length 0 := by rw [h1, h2]
    exact ⟨none, 0, hv, hv ▸ h⟩
  · exact ⟨_, _, h2, h2 ▸ h⟩
/-- w' is w but for two rows and for new blocks -/
structure Grown2 (w w' : World) (A1 A2 : Option Addr) : Prop where
  os : w'.os = w.os
  tape : w'.tape = w.tape
  output : w'.output = w.output
  size : w.heap.size ≤ w'.heap.size
  block : ∀ k, k < w.heap.size → (∀ a, A1 = some a → a.block ≠ k) → (∀ a, A2 = some a → a.block ≠ k) → w'.heap[k]? = w.heap[k]?
theorem grown2_refl (w : World) (A1 A2 : Option Addr) : Grown2 w w A1 A2 := ⟨rfl, rfl, rfl, Nat.le_refl _, fun _ _ _ _ => rfl⟩
theorem grown2_below {w wr w2 : World} {A1 A2 : Option Addr} (h : Grown2 w wr A1 A2) (hb : Below wr.heap.size wr w2) : Grown2 w w2 A1 A2 :=
  ⟨hb.os.trans h.os, hb.tape.trans h.tape, hb.output.trans h.output, Nat.le_trans h.size hb.size, fun k hk h1 h2 => (hb.block k (Nat.lt_of_lt_of_le hk h.size)).trans (h.block k hk h1 h2)⟩
theorem grown2_l {w wr w2 : World} {A1 A2 : Option Addr} {n c : Nat} (h : Grown2 w wr A1 A2) (hg : wr.grownBy w2 (Value.slice A1 n c).ownBlock) : Grown2 w w2 A1 A2 :=
  ⟨hg.os.trans h.os, hg.tape.trans h.tape, hg.output.trans h.output, Nat.le_trans h.size hg.size, fun k hk h1 h2 => (hg.block k (Nat.lt_of_lt_of_le hk h.size) (by
    cases A1 with
    | none => simp [Value.ownBlock]
    | some a => simp only [Value.ownBlock, ne_eq, Option.some.injEq]; exact fun e => h1 a rfl e.symm)).trans (h.block k hk h1 h2)⟩
theorem grown2_r {w wr w2 : World} {A1 A2 : Option Addr} {n c : Nat} (h : Grown2 w wr A1 A2) (hg : wr.grownBy w2 (Value.slice A2 n c).ownBlock) : Grown2 w w2 A1 A2 :=
  ⟨hg.os.trans h.os, hg.tape.trans h.tape, hg.output.trans h.output, Nat.le_trans h.size hg.size, fun k hk h1 h2 => (hg.block k (Nat.lt_of_lt_of_le hk h.size) (by
    cases A2 with
    | none => simp [Value.ownBlock]
    | some a => simp only [Value.ownBlock, ne_eq, Option.some.injEq]; exact fun e => h2 a rfl e.symm)).trans (h.block k hk h1 h2)⟩
theorem below2 {w wr w2 : World} {B : Nat} {A1 A2 : Option Addr} (h : Below B w wr) (hg : Grown2 wr w2 A1 A2) (hB : B ≤ wr.heap.size) (h1 : ∀ a, A1 = some a → B ≤ a.block) (h2 : ∀ a, A2 = some a → B ≤ a.block) : Below B w w2 :=
  ⟨hg.os.trans h.os, hg.tape.trans h.tape, hg.output.trans h.output, Nat.le_trans h.size hg.size, fun k hk => (hg.block k (Nat.lt_of_lt_of_le hk hB) (fun a e e2 => by have := h1 a e; omega) (fun a e e2 => by have := h2 a e; omega)).trans (h.block k hk)⟩
theorem own_other2 {w w' : World} {b T K n m c : Nat} {A1 A2 B : Option Addr} {ys : List Value} (h : w.ownsRow b T K (.slice B m c) n ys) (hg : Grown2 w w' A1 A2) (h1 : Apart A1 B) (h2 : Apart A2 B) : w'.ownsRow b T K (.slice B m c) n ys := by
  refine ⟨h.1, ?_⟩
  rcases h.2 with hn | ⟨g, cap, cur, hv, hb, hgg, rest⟩
  · exact .inl hn
  · have hlt := (h.lt g (by rw [hv]; rfl)).2
    have hB : B = some ⟨g, 0, none⟩ := by simp only [Value.slice.injEq] at hv; exact hv.1
    refine .inr ⟨g, cap, cur, hv, hb, ?_, rest⟩
    rw [hg.block g hlt (fun a e e2 => h1 a _ e hB e2) (fun a e e2 => h2 a _ e hB e2)]
    exact hgg
theorem cell_other2 {w w' : World} {A1 A2 : Option Addr} {a : Addr} {v : Value} (h : w.cell? a = some v) (hg : Grown2 w w' A1 A2) (h1 : Apart A1 (some ⟨a.block, 0, none⟩)) (h2 : Apart A2 (some ⟨a.block, 0, none⟩)) : w'.cell? a = some v := by
  rw [World.cell?_of_block (hg.block a.block (cell_lt h) (fun x e e2 => h1 x _ e rfl e2) (fun x e e2 => h2 x _ e rfl e2))]
  exact h
theorem own_ge2 {w : World} {b T K n m c : Nat} {A : Option Addr} {xs : List Value} (h : w.ownsRow b T K (.slice A m c) n xs) : ∀ a, A = some a → b ≤ a.block := fun a e => (own_lt h a e).1
end Go.Proofs.Ytpcdaoeijlifmaa.GoM

/- A record Block, whose fields are lists too. No condition. -/
namespace Go.Proofs.Ytpcdaoeijlifmaa.PBlock
structure Block where
  rows : (List ByteArray)
end Go.Proofs.Ytpcdaoeijlifmaa.PBlock

/- A record Block opened into its fields. No condition. -/
namespace Go.Proofs.Ytpcdaoeijlifmaa.GoP
set_option linter.unusedVariables false
open Go.RowKit
def unBlock {ρ : Type} (s : Go.Proofs.Ytpcdaoeijlifmaa.PBlock.Block) (f : (List ByteArray) → Option ρ) : Option ρ := f s.rows
theorem unBlock_hid {ρ : Type} {x0 : (List ByteArray)} {f : (List ByteArray) → Option ρ} {r : ρ} (H : Hid (unBlock ⟨x0⟩ f = some r)) : Hid (f x0 = some r) := H
end Go.Proofs.Ytpcdaoeijlifmaa.GoP

/- Plain words on the arrays of 2 numbers: the cells, a list of them as cells one after the other. No condition. -/
namespace Go.Proofs.Ytpcdaoeijlifmaa.PIntA2
set_option linter.unusedVariables false
set_option maxRecDepth 100000

structure IntA2 where
  x0 : Int
  x1 : Int
def IntA2.cells (s : IntA2) : List Value := [.int .i64 s.x0, .int .i64 s.x1]
def IntA2.val (s : IntA2) : Value := .agg #[.int .i64 s.x0, .int .i64 s.x1]
def IntA2.list (s : IntA2) : List Int := [s.x0, s.x1]
/-- the array with v at j -/
def IntA2.put (s : IntA2) (j v : Int) : IntA2 := if j = 0 then ⟨v, s.x1⟩ else ⟨s.x0, v⟩
theorem cells_put (s : IntA2) {n : Nat} (h : n < 2) (v : Int) : s.cells.set n (.int .i64 v) = (s.put (n : Int) v).cells := by
  rcases n with _ | _ | n
  · rfl
  · rfl
  · omega
theorem cell_at {w : World} {b q : Nat} {x0 x1 y : Int} {n : Nat} (h0 : w.cell? ⟨b, q, none⟩ = some (.int .i64 x0)) (h1 : w.cell? ⟨b, q + 1, none⟩ = some (.int .i64 x1)) (g : [x0, x1][n]? = some y) : w.cell? ⟨b, q + n, none⟩ = some (.int .i64 y) := by
  rcases n with _ | _ | n
  · obtain rfl := Option.some.inj g; exact h0
  · obtain rfl := Option.some.inj g; exact h1
  · simp at g
/-- the cells of a list of arrays, one after the other -/
def flat (l : List IntA2) : List Value := l.flatMap IntA2.cells
theorem flat_nil : flat [] = [] := rfl
theorem flat_cons (s : IntA2) (l : List IntA2) : flat (s :: l) = s.cells ++ flat l := by simp [flat]
theorem flat_snoc (l : List IntA2) (s : IntA2) : flat (l ++ [s]) = flat l ++ s.cells := by simp [flat]
theorem flat_len (l : List IntA2) : (flat l).length = l.length * 2 := by
  induction l with
  | nil => rfl
  | cons s l ih => rw [flat_cons, List.length_append, ih]; simp [IntA2.cells]; omega
theorem flat_at : ∀ (l : List IntA2) (k : Nat) (s : IntA2), l[k]? = some s → ∀ j, j < 2 → (flat l)[k * 2 + j]? = s.cells[j]?
  | [], k, s, h, _, _ => by simp at h
  | r :: l, 0, s, h, j, hj => by
    obtain rfl : r = s := by simpa using h
    rw [flat_cons, List.getElem?_append_left (by simp [IntA2.cells]; omega)]; simp
  | r :: l, k + 1, s, h, j, hj => by
    rw [flat_cons, List.getElem?_append_right (by simp [IntA2.cells]; omega), show (k + 1) * 2 + j - r.cells.length = k * 2 + j by simp [IntA2.cells]; omega]
    exact flat_at l k s (by simpa using h) j hj
end Go.Proofs.Ytpcdaoeijlifmaa.PIntA2

/- A record IntA2 opened into its fields. No condition. -/
namespace Go.Proofs.Ytpcdaoeijlifmaa.GoP
set_option linter.unusedVariables false
open Go.RowKit
def unIntA2 {ρ : Type} (s : Go.Proofs.Ytpcdaoeijlifmaa.PIntA2.IntA2) (f : Int → Int → Option ρ) : Option ρ := f s.x0 s.x1
theorem unIntA2_hid {ρ : Type} {x0 : Int} {x1 : Int} {f : Int → Int → Option ρ} {r : ρ} (H : Hid (unIntA2 ⟨x0, x1⟩ f = some r)) : Hid (f x0 x1 = some r) := H
end Go.Proofs.Ytpcdaoeijlifmaa.GoP

/- loop.example/g01062/laws.szStringS as a plain function, and the contract of the program's: where the plain one has an answer, the program has it. Conditions: slices read as lists. -/
namespace Go.Proofs.Ytpcdaoeijlifmaa.GlSzStringS
set_option linter.unusedVariables false
set_option linter.unusedSimpArgs false
open Go.RowKit
open Go.Proofs.Ytpcdaoeijlifmaa.Rowed Go.Proofs.Ytpcdaoeijlifmaa.Turn Go.Proofs.Ytpcdaoeijlifmaa.Aid Go.Proofs.Ytpcdaoeijlifmaa.GoP Go.Proofs.Ytpcdaoeijlifmaa.GoM

def l0 (a : (List ByteArray)) (k0 : Nat) (s : Int) (nx0 bk0 : Int → Option (Int)) : Option (Int) :=
  letK s fun left_1l0 =>
  Option.bind (idx a (k0 : Int)) fun (yt_17 : ByteArray) =>
  letK (IntKind.i64.wrap (left_1l0 - (yt_17.size : Int))) fun (t_20 : Int) =>
  letK (decide (t_20 < 0)) fun (t_23 : Bool) =>
  iteK t_23
  (some (-1))
  (appK nx0 (t_20))

def e0  (s : Int) : Option (Int) :=
  letK s fun left_1l0 =>
  some left_1l0

def P (a : (List ByteArray)) (left : Int) : Option (Int) :=
  letK (IntKind.i64.wrap (left - (a.length : Int))) fun (t_4 : Int) =>
  letK (decide (t_4 < 0)) fun (t_7 : Bool) =>
  iteK t_7
  (some (-1))
  (cntK (l0 a) (a.length) 0 (t_4) (e0 ))

set_option maxRecDepth 100000 in
set_option maxHeartbeats 2000000 in
theorem C (a : (List ByteArray)) (left : Int) (A0 : Option Addr) (c0 : Nat)  (w : World) (M0 : Hid (Cells w 1 A0 a.length (a.map Value.string))) (N0 : Hid (a.length ≤ 9223372036854775807))  {r : Int} (H : Hid (P a left = some r)) :
    Calls Try.prog 18 #[.slice A0 a.length c0, .int .i64 left] w (Gives (.int .i64 r) w) := by
  have HB := Lib.hid (Below.refl w.heap.size w)
  unfold P at H
  have N0o := N0.out
  go_enter Try.func18, Try.ntmps18
  replace H := let_hid H
  obtain ⟨t_4, ht_4, H⟩ := H
  replace H := let_hid H
  obtain ⟨t_7, ht_7, H⟩ := H
  cases t_7 with
  | false =>
    replace H := ite_f H
    go_wp2_with fail
    go_loopg [5, 1] (a.length) (fun m_ v5_ v1_ wr => ∃ (k0 : Nat) (left_1l0 : Int), k0 + m_ = a.length ∧ v5_ = .int .i64 (k0 : Int) ∧ v1_ = .int .i64 left_1l0 ∧ Hid (cntK (l0 a) m_ k0 (left_1l0) (e0 ) = some r) ∧ Hid (Below w.heap.size w wr))
    case atStart => exact ⟨0, _, by omega, rfl, rfl, H, HB⟩
    case round =>
      obtain ⟨k0, left_1l0, hkm0, rfl, rfl, H, HBwr0⟩ := hrel
      rename World => wr0
      cases gk with
      | zero =>
        obtain rfl : k0 = a.length := by omega
        have hc0 : decide (((a.length : Nat) : Int) < ((a.length : Nat) : Int)) = false := by simp
        replace H := cnt_zero H
        unfold e0 at H
        replace H := let_hid H
        obtain ⟨_, rfl, H⟩ := H
        obtain rfl := ret_hid H
        go_wp2_with fail
        go_ret
        exact ⟨rfl, HBwr0.out⟩
      | succ m0 =>
        have hlt0 : k0 < a.length := by omega
        have hc0 : decide ((k0 : Int) < ((a.length : Nat) : Int)) = true := by simp; omega
        replace H := cnt_succ H
        unfold l0 at H
        replace H := let_hid H
        obtain ⟨_, rfl, H⟩ := H
        replace H := idx_hid H
        obtain ⟨nt_17, yt_17, et_17, lt_17, gt_17, H⟩ := H
        obtain rfl : k0 = nt_17 := by omega
        clear et_17
        obtain ⟨ab_t_17, ao_t_17, zt_17, At_17, z_t_17, ct_17_0⟩ := strs_at M0.out lt_17
        obtain rfl := Option.some.inj (gt_17.out.symm.trans z_t_17)
        subst At_17
        have ltt_17 := cell_lt ct_17_0
        replace ct_17_0 := cell_below HBwr0.out ct_17_0
        clear z_t_17
        have b0t_17 : (0 : Int) ≤ (k0 : Int) := by omega
        have b1t_17 : (k0 : Int) < ((a.length : Nat) : Int) := by omega
        have b2t_17 : ((k0 : Int)).toNat = k0 := by omega
        replace H := let_hid H
        obtain ⟨t_20, ht_20, H⟩ := H
        replace H := let_hid H
        obtain ⟨t_23, ht_23, H⟩ := H
        cases t_23 with
        | false =>
          replace H := ite_f H
          replace H := app_hid H
          go_wp2_with fail
          go_roundg m0
          case measure => omega
          case rel => exact ⟨k0 + 1, _, by omega, by go_num, rfl, H, HBwr0⟩
        | true =>
          replace H := ite_t H
          obtain rfl := ret_hid H
          go_wp2_with fail
          go_ret
          exact ⟨rfl, HBwr0.out⟩
  | true =>
    replace H := ite_t H
    obtain rfl := ret_hid H
    go_wp2_with fail
    go_ret
    exact ⟨rfl, HB.out⟩
end Go.Proofs.Ytpcdaoeijlifmaa.GlSzStringS

/- loop.example/g01062/laws.szBlock as a plain function, and the contract of the program's: where the plain one has an answer, the program has it. Conditions: slices read as lists. -/
namespace Go.Proofs.Ytpcdaoeijlifmaa.GlSzBlock
set_option linter.unusedVariables false
set_option linter.unusedSimpArgs false
open Go.RowKit
open Go.Proofs.Ytpcdaoeijlifmaa.Rowed Go.Proofs.Ytpcdaoeijlifmaa.Turn Go.Proofs.Ytpcdaoeijlifmaa.Aid Go.Proofs.Ytpcdaoeijlifmaa.GoP Go.Proofs.Ytpcdaoeijlifmaa.GoM

def P (a_rows : (List ByteArray)) (left : Int) : Option (Int) :=
  Option.bind (Go.Proofs.Ytpcdaoeijlifmaa.GlSzStringS.P a_rows left) fun (t_5 : Int) =>
  letK (decide (t_5 < 0)) fun (t_8 : Bool) =>
  iteK t_8
  (some (-1))
  (some t_5)

set_option maxRecDepth 100000 in
set_option maxHeartbeats 2000000 in
theorem C (a_rows : (List ByteArray)) (left : Int) (A0_0 : Option Addr) (c0_0 : Nat)  (w : World) (M0_0 : Hid (Cells w 1 A0_0 a_rows.length (a_rows.map Value.string))) (N0_0 : Hid (a_rows.length ≤ 9223372036854775807))  {r : Int} (H : Hid (P a_rows left = some r)) :
    Calls Try.prog 19 #[.agg #[.slice A0_0 a_rows.length c0_0], .int .i64 left] w (Gives (.int .i64 r) w) := by
  have HB := Lib.hid (Below.refl w.heap.size w)
  unfold P at H
  have N0_0o := N0_0.out
  go_enter Try.func19, Try.ntmps19
  obtain ⟨w_a_0, hw_a_0⟩ : ∃ x, w.alloc (.cells #[.slice A0_0 a_rows.length c0_0] 36) = x := ⟨_, rfl⟩
  have bw_a_0 : Below w.heap.size w w_a_0 := by rw [← hw_a_0]; exact (Below.refl _ _).alloc (Nat.le_refl _) _
  have HBw_a_0 := Lib.hid (Below.step HB.out bw_a_0)
  clear bw_a_0
  have ka_0_0 : w_a_0.cell? ⟨w.heap.size, 0, none⟩ = some (.slice A0_0 a_rows.length c0_0) := by rw [← hw_a_0]; exact box_new _ _ _ 0 _ rfl
  replace H := bind_hid H
  obtain ⟨t_5, qt_5, H⟩ := H
  go_wp2_with fail
  go_at_call 18
  refine (Go.Proofs.Ytpcdaoeijlifmaa.GlSzStringS.C (a_rows) (left) A0_0 c0_0 _   (Lib.hid (Cells.below M0_0.out HBw_a_0.out)) N0_0 qt_5).mono ?_
  rintro e_t_5 wt_5 ⟨rfl, bt_5⟩
  have HBwt_5 := Lib.hid (Below.step HBw_a_0.out bt_5)
  replace ka_0_0 := cell_below bt_5 ka_0_0
  clear bt_5
  replace H := let_hid H
  obtain ⟨t_8, ht_8, H⟩ := H
  cases t_8 with
  | false =>
    replace H := ite_f H
    obtain rfl := ret_hid H
    go_wp2_with fail
    go_ret
    exact ⟨rfl, HBwt_5.out⟩
  | true =>
    replace H := ite_t H
    obtain rfl := ret_hid H
    go_wp2_with fail
    go_ret
    exact ⟨rfl, HBwt_5.out⟩
end Go.Proofs.Ytpcdaoeijlifmaa.GlSzBlock

/- loop.example/g01062/laws.toStringS as a plain function, and the contract of the program's: where the plain one has an answer, the program has it. Conditions: slices read as lists. -/
namespace Go.Proofs.Ytpcdaoeijlifmaa.GlToStringS
set_option linter.unusedVariables false
set_option linter.unusedSimpArgs false
open Go.RowKit
open Go.Proofs.Ytpcdaoeijlifmaa.Rowed Go.Proofs.Ytpcdaoeijlifmaa.Turn Go.Proofs.Ytpcdaoeijlifmaa.Aid Go.Proofs.Ytpcdaoeijlifmaa.GoP Go.Proofs.Ytpcdaoeijlifmaa.GoM

def l0 (a : (List ByteArray)) (k0 : Nat) (s : (List ByteArray)) (nx0 bk0 : (List ByteArray) → Option ((List ByteArray))) : Option ((List ByteArray)) :=
  letK s fun out_3l0 =>
  Option.bind (idx a (k0 : Int)) fun (yt_14 : ByteArray) =>
  Option.bind (idx out_3l0 (k0 : Int)) fun (yt_16 : ByteArray) =>
  letK (out_3l0.set k0 yt_14) fun (l17_17 : (List ByteArray)) =>
  appK nx0 (l17_17)

def e0  (s : (List ByteArray)) : Option ((List ByteArray)) :=
  letK s fun out_3l0 =>
  some out_3l0

def P (a : (List ByteArray)) : Option ((List ByteArray)) :=
  guardK (0 ≤ (a.length : Int) ∧ (a.length : Int) ≤ 1099511627776) <|
  letK (List.replicate a.length ByteArray.empty) fun (t_3 : (List ByteArray)) =>
  cntK (l0 a) (a.length) 0 (t_3) (e0 )

set_option maxRecDepth 100000 in
set_option maxHeartbeats 2000000 in
theorem C (a : (List ByteArray)) (A0 : Option Addr) (c0 : Nat)  (w : World) (M0 : Hid (Cells w 1 A0 a.length (a.map Value.string))) (N0 : Hid (a.length ≤ 9223372036854775807))  {r : (List ByteArray)} (H : Hid (P a = some r)) :
    Calls Try.prog 21 #[.slice A0 a.length c0] w (fun e w' => ∃ A_r c_r, e = .returned (.slice A_r r.length c_r) ∧ w'.ownsRow w.heap.size 9 1 (.slice A_r r.length c_r) r.length (r.map Value.string) ∧ Below w.heap.size w w') := by
  have HB := Lib.hid (Below.refl w.heap.size w)
  unfold P at H
  have N0o := N0.out
  obtain ⟨i0_9, hi_9, hz0_9, hz1_9, hz2_9⟩ := Aid.info_parts (P := Try.prog) (T := 9) (z := .string ByteArray.empty) (s := 1) (b := 16) (by kernel_rfl)
  go_enter Try.func21, Try.ntmps21
  replace H := guard_hid H
  obtain ⟨hnt_3, H⟩ := H
  replace H := let_hid H
  obtain ⟨t_3, ht_3, H⟩ := H
  have hst_3 := HB.out.size
  have hlt_3 : t_3.length = a.length := by rw [← ht_3]; simp
  have hht_3 := Lib.hid ht_3
  clear ht_3
  go_wp2_with (at_make; refine wpList_make_full _ rfl _ _ 34 rfl w.heap.size 9 i0_9 (.string ByteArray.empty) 1 Try.underlying34 hi_9 hz0_9 hz1_9 .i64 .i64 _ _ a.length rfl rfl (by omega) (by omega) (by rw [hz2_9]; omega) (by unfold maxLen; omega) hst_3 ?_; intro wt_3 ot_3 gt_3; have Qt_3 := Lib.hid ot_3; have Gt_3 := Lib.hid gt_3; clear ot_3 gt_3; refine stop_in ?_)
  refine stop_out ?_
  have hv_ : (Value.slice (some ⟨w.heap.size, 0, none⟩) a.length a.length : Value) = Value.slice (some ⟨w.heap.size, 0, none⟩) t_3.length a.length := by rw [hlt_3]
  rw [hv_]
  clear hv_
  have Et_3 : (t_3.map Value.string) = (madeCells (.string ByteArray.empty : Value).cells (a.length * 1)).toList := by
    rw [made_flat (fun x => [.string x]) ByteArray.empty _ 1 _ rfl rfl (by decide), ← hht_3.out]
    exact map_flat _ _
  have Pt_3 : Hid (wt_3.ownsRow w.heap.size 9 1 (.slice (some ⟨w.heap.size, 0, none⟩) a.length a.length) a.length (t_3.map Value.string)) := Lib.hid (by rw [Et_3]; exact Qt_3.out)
  clear Et_3
  replace hlt_3 := Lib.hid hlt_3
  clear Qt_3 hst_3
  have bt_3 : Below w.heap.size w wt_3 := (Below.refl _ _).grown Gt_3.out (Nat.le_refl _) (by simp)
  clear Gt_3
  have HBwt_3 := Lib.hid (Below.step HB.out bt_3)
  clear bt_3
  replace Pt_3 := Lib.hid (own_len hlt_3.out Pt_3.out)
  go_wp2_with fail
  go_wp2_with fail
  go_loopg [4] (a.length) (fun m_ v4_ wr => ∃ (k0 : Nat) (out_3l0 : (List ByteArray)), k0 + m_ = a.length ∧ v4_ = .int .i64 (k0 : Int) ∧ Hid (cntK (l0 a) m_ k0 (out_3l0) (e0 ) = some r) ∧ Hid (Below w.heap.size w wr) ∧ Hid (wr.ownsRow w.heap.size 9 1 (.slice (some ⟨w.heap.size, 0, none⟩) t_3.length a.length) t_3.length (out_3l0.map Value.string)) ∧ Hid (out_3l0.length = t_3.length))
  case atStart => exact ⟨0, _, by omega, rfl, H, HBwt_3, Pt_3, Lib.hid (rfl)⟩
  case round =>
    obtain ⟨k0, out_3l0, hkm0, rfl, H, HBwr0, Oout_3l0, hnout_3l0⟩ := hrel
    rename World => wr0
    cases gk with
    | zero =>
      obtain rfl : k0 = a.length := by omega
      have hc0 : decide (((a.length : Nat) : Int) < ((a.length : Nat) : Int)) = false := by simp
      replace H := cnt_zero H
      unfold e0 at H
      replace H := let_hid H
      obtain ⟨_, rfl, H⟩ := H
      obtain rfl := ret_hid H
      go_wp2_with fail
      go_ret
      have hr_0 := hnout_3l0.out
      replace Oout_3l0 := Lib.hid (own_len hr_0 Oout_3l0.out)
      exact ⟨(some ⟨w.heap.size, 0, none⟩), a.length, (by first | (rw [hr_0]; done) | (rw [hr_0]; rfl)), Oout_3l0.out, HBwr0.out⟩
    | succ m0 =>
      have hlt0 : k0 < a.length := by omega
      have hc0 : decide ((k0 : Int) < ((a.length : Nat) : Int)) = true := by simp; omega
      replace H := cnt_succ H
      unfold l0 at H
      replace H := let_hid H
      obtain ⟨_, rfl, H⟩ := H
      replace H := idx_hid H
      obtain ⟨nt_14, yt_14, et_14, lt_14, gt_14, H⟩ := H
      obtain rfl : k0 = nt_14 := by omega
      clear et_14
      obtain ⟨ab_t_14, ao_t_14, zt_14, At_14, z_t_14, ct_14_0⟩ := strs_at M0.out lt_14
      obtain rfl := Option.some.inj (gt_14.out.symm.trans z_t_14)
      subst At_14
      have ltt_14 := cell_lt ct_14_0
      replace ct_14_0 := cell_below HBwr0.out ct_14_0
      clear z_t_14
      have b0t_14 : (0 : Int) ≤ (k0 : Int) := by omega
      have b1t_14 : (k0 : Int) < ((a.length : Nat) : Int) := by omega
      have b2t_14 : ((k0 : Int)).toNat = k0 := by omega
      replace H := idx_hid H
      obtain ⟨nt_16, yt_16, et_16, lt_16, gt_16, H⟩ := H
      obtain rfl : k0 = nt_16 := by omega
      clear et_16
      have hqt_16 := hnout_3l0.out
      obtain ⟨ab_t_16, ao_t_16, zt_16, At_16, z_t_16, ct_16_0⟩ := strs_at (own_cells Oout_3l0.out) (k := k0) (by omega)
      obtain rfl := Option.some.inj (gt_16.out.symm.trans z_t_16)
      simp only [Option.some.injEq, Addr.mk.injEq] at At_16
      obtain ⟨rfl, rfl, _⟩ := At_16
      clear z_t_16
      simp only [Nat.zero_add] at ct_16_0
      have b0t_16 : (0 : Int) ≤ (k0 : Int) := by omega
      have b1t_16 : (k0 : Int) < ((t_3.length : Nat) : Int) := by omega
      have b2t_16 : ((k0 : Int)).toNat = k0 := by omega
      clear hqt_16
      replace H := let_hid H
      obtain ⟨l17_17, hl17_17, H⟩ := H
      obtain ⟨wl17_17, hwl17_17⟩ : ∃ x, (wr0).setCell ⟨w.heap.size, k0, none⟩ (.string yt_14) = x := ⟨_, rfl⟩
      have z0l17_17 := Oout_3l0.out.frozenAt (k0)
      have Sl17_17 := Lib.hid (own_stores [(k0, .string yt_14)] Oout_3l0.out)
      have nl17_17 : Hid (l17_17.length = t_3.length) := Lib.hid (by rw [← hl17_17, List.length_set]; exact hnout_3l0.out)
      have Pl17_17 : Hid (wl17_17.ownsRow w.heap.size 9 1 (.slice (some ⟨w.heap.size, 0, none⟩) t_3.length a.length) t_3.length (l17_17.map Value.string)) := Lib.hid (by have e_ : ([(k0, .string yt_14)] : List (Nat × Value)).foldl (fun xs p => xs.set p.1 p.2) (out_3l0.map Value.string) = (l17_17.map Value.string) := (by rw [← hl17_17]; first | done | simp [List.map_set]); rw [← hwl17_17, ← e_]; exact Sl17_17.out.1)
      have Gl17_17 : Hid (wr0.grownBy wl17_17 (Value.slice (some ⟨w.heap.size, 0, none⟩) t_3.length a.length).ownBlock) := Lib.hid (by rw [← hwl17_17]; exact Sl17_17.out.2)
      have HBwl17_17 := Lib.hid (HBwr0.out.grown Gl17_17.out HBwr0.out.size (fun q hq => (Oout_3l0.out.lt q hq).1))
      have hhl17_17 := Lib.hid hl17_17
      clear hl17_17 Sl17_17
      have ct_14_0__1 := cell_other ct_14_0 Gl17_17.out (apart_old Oout_3l0.out ltt_14)
      clear Oout_3l0 Gl17_17
      replace H := app_hid H
      go_wp2_with fail
      clear z0l17_17 ct_14_0 ct_16_0
      go_roundg m0
      case measure => omega
      case rel => exact ⟨k0 + 1, _, by omega, by go_num, H, HBwl17_17, Pl17_17, Lib.hid (nl17_17.out)⟩
end Go.Proofs.Ytpcdaoeijlifmaa.GlToStringS

/- loop.example/g01062/laws.toBlock as a plain function, and the contract of the program's: where the plain one has an answer, the program has it. Conditions: slices read as lists. -/
namespace Go.Proofs.Ytpcdaoeijlifmaa.GlToBlock
set_option linter.unusedVariables false
set_option linter.unusedSimpArgs false
open Go.RowKit
open Go.Proofs.Ytpcdaoeijlifmaa.Rowed Go.Proofs.Ytpcdaoeijlifmaa.Turn Go.Proofs.Ytpcdaoeijlifmaa.Aid Go.Proofs.Ytpcdaoeijlifmaa.GoP Go.Proofs.Ytpcdaoeijlifmaa.GoM

def P (a_rows : (List ByteArray)) : Option (Go.Proofs.Ytpcdaoeijlifmaa.PBlock.Block) :=
  Option.bind (Go.Proofs.Ytpcdaoeijlifmaa.GlToStringS.P a_rows) fun (t_5 : (List ByteArray)) =>
  some (Go.Proofs.Ytpcdaoeijlifmaa.PBlock.Block.mk t_5)

set_option maxRecDepth 100000 in
set_option maxHeartbeats 2000000 in
theorem C (a_rows : (List ByteArray)) (A0_0 : Option Addr) (c0_0 : Nat)  (w : World) (M0_0 : Hid (Cells w 1 A0_0 a_rows.length (a_rows.map Value.string))) (N0_0 : Hid (a_rows.length ≤ 9223372036854775807))  {r_rows : (List ByteArray)} (H : Hid (P a_rows = some (Go.Proofs.Ytpcdaoeijlifmaa.PBlock.Block.mk r_rows))) :
    Calls Try.prog 22 #[.agg #[.slice A0_0 a_rows.length c0_0]] w (fun e w' => ∃ A_r_rows c_r_rows, e = .returned (.agg #[.slice A_r_rows r_rows.length c_r_rows]) ∧ w'.ownsRow w.heap.size 9 1 (.slice A_r_rows r_rows.length c_r_rows) r_rows.length (r_rows.map Value.string) ∧ Below w.heap.size w w') := by
  have HB := Lib.hid (Below.refl w.heap.size w)
  unfold P at H
  have N0_0o := N0_0.out
  go_enter Try.func22, Try.ntmps22
  obtain ⟨w_a_0, hw_a_0⟩ : ∃ x, w.alloc (.cells #[.slice A0_0 a_rows.length c0_0] 36) = x := ⟨_, rfl⟩
  have bw_a_0 : Below w.heap.size w w_a_0 := by rw [← hw_a_0]; exact (Below.refl _ _).alloc (Nat.le_refl _) _
  have HBw_a_0 := Lib.hid (Below.step HB.out bw_a_0)
  clear bw_a_0
  have ka_0_0 : w_a_0.cell? ⟨w.heap.size, 0, none⟩ = some (.slice A0_0 a_rows.length c0_0) := by rw [← hw_a_0]; exact box_new _ _ _ 0 _ rfl
  obtain ⟨w_t_1, hw_t_1⟩ : ∃ x, w_a_0.alloc (.cells #[.slice none 0 0] 43) = x := ⟨_, rfl⟩
  have bw_t_1 : Below w_a_0.heap.size w_a_0 w_t_1 := by rw [← hw_t_1]; exact (Below.refl _ _).alloc (Nat.le_refl _) _
  have Dt_1_a_0 := Lib.hid (apart_box ka_0_0)
  have HBw_t_1 := Lib.hid (Below.step HBw_a_0.out bw_t_1)
  have ka_0_0__2 := cell_below bw_t_1 ka_0_0
  clear bw_t_1
  have kt_1_0 : w_t_1.cell? ⟨w_a_0.heap.size, 0, none⟩ = some (.slice none 0 0) := by rw [← hw_t_1]; exact box_new _ _ _ 0 _ rfl
  have Ot_1 : Hid (w_t_1.ownsRow w.heap.size 43 1 (.slice (some ⟨w_a_0.heap.size, 0, none⟩) 1 1) 1 [.slice none 0 0]) := Lib.hid (by rw [← hw_t_1]; exact own_laid (n := 1) HBw_a_0.out.size rfl rfl (by unfold maxLen; omega))
  obtain ⟨w_out_2, hw_out_2⟩ : ∃ x, w_t_1.alloc (.cells #[.slice none 0 0] 43) = x := ⟨_, rfl⟩
  have bw_out_2 : Below w_t_1.heap.size w_t_1 w_out_2 := by rw [← hw_out_2]; exact (Below.refl _ _).alloc (Nat.le_refl _) _
  have Dout_2_a_0 := Lib.hid (apart_box ka_0_0__2)
  have Dout_2_t_1 := Lib.hid (apart_box kt_1_0)
  have HBw_out_2 := Lib.hid (Below.step HBw_t_1.out bw_out_2)
  have ka_0_0__3 := cell_below bw_out_2 ka_0_0__2
  have kt_1_0__4 := cell_below bw_out_2 kt_1_0
  replace Ot_1 := Lib.hid (own_below Ot_1.out bw_out_2)
  clear bw_out_2
  have kout_2_0 : w_out_2.cell? ⟨w_t_1.heap.size, 0, none⟩ = some (.slice none 0 0) := by rw [← hw_out_2]; exact box_new _ _ _ 0 _ rfl
  have Oout_2 : Hid (w_out_2.ownsRow w.heap.size 43 1 (.slice (some ⟨w_t_1.heap.size, 0, none⟩) 1 1) 1 [.slice none 0 0]) := Lib.hid (by rw [← hw_out_2]; exact own_laid (n := 1) HBw_t_1.out.size rfl rfl (by unfold maxLen; omega))
  replace H := bind_hid H
  obtain ⟨t_5, qt_5, H⟩ := H
  go_wp2_with fail
  clear ka_0_0 ka_0_0__2 kt_1_0
  go_at_call 21
  refine (Go.Proofs.Ytpcdaoeijlifmaa.GlToStringS.C (a_rows) A0_0 c0_0 _   (Lib.hid (Cells.below M0_0.out HBw_out_2.out)) N0_0 qt_5).mono ?_
  rintro e_t_5 wt_5 ⟨At_5, ct_5, rfl, ot_5, bt_5⟩
  have Dt_5_a_0 := Lib.hid (apart_callbox ot_5 ka_0_0__3)
  have Dt_5_t_1 := Lib.hid (apart_callbox ot_5 kt_1_0__4)
  have Dt_5_out_2 := Lib.hid (apart_callbox ot_5 kout_2_0)
  have Ot_5 := Lib.hid (own_lower ot_5 HBw_out_2.out.size)
  clear ot_5
  have HBwt_5 := Lib.hid (Below.step HBw_out_2.out bt_5)
  replace ka_0_0__3 := cell_below bt_5 ka_0_0__3
  replace kt_1_0__4 := cell_below bt_5 kt_1_0__4
  replace kout_2_0 := cell_below bt_5 kout_2_0
  replace Ot_1 := Lib.hid (own_below Ot_1.out bt_5)
  replace Oout_2 := Lib.hid (own_below Oout_2.out bt_5)
  clear bt_5
  obtain ⟨wb7_7, hwb7_7⟩ : ∃ x, (wt_5).setCell ⟨w_t_1.heap.size, 0, none⟩ (.slice At_5 t_5.length ct_5) = x := ⟨_, rfl⟩
  have z0b7_7 := Oout_2.out.frozenAt 0
  have Sb7_7 := Lib.hid (own_stores [(0, .slice At_5 t_5.length ct_5)] Oout_2.out)
  have Pb7_7 : Hid (wb7_7.ownsRow w.heap.size 43 1 (.slice (some ⟨w_t_1.heap.size, 0, none⟩) 1 1) 1 [.slice At_5 t_5.length ct_5]) := Lib.hid (by rw [← hwb7_7]; exact Sb7_7.out.1)
  have Gb7_7 : Hid (wt_5.grownBy wb7_7 (Value.slice (some ⟨w_t_1.heap.size, 0, none⟩) 1 1).ownBlock) := Lib.hid (by rw [← hwb7_7]; exact Sb7_7.out.2)
  have HBwb7_7 := Lib.hid (HBwt_5.out.grown Gb7_7.out HBwt_5.out.size (fun q hq => (Oout_2.out.lt q hq).1))
  clear Sb7_7
  have ka_0_0__5 := cell_other ka_0_0__3 Gb7_7.out Dout_2_a_0.out
  have kt_1_0__6 := cell_other kt_1_0__4 Gb7_7.out Dout_2_t_1.out
  replace Ot_1 := Lib.hid (own_other Ot_1.out Gb7_7.out Dout_2_t_1.out)
  replace Ot_5 := Lib.hid (own_other Ot_5.out Gb7_7.out (Apart.symm Dt_5_out_2.out))
  clear Oout_2 Gb7_7
  have kout_2_0__7 : wb7_7.cell? ⟨w_t_1.heap.size, 0, none⟩ = some (.slice At_5 t_5.length ct_5) := Pb7_7.out.cells rfl 0 _ rfl
  obtain ⟨wb9_9, hwb9_9⟩ : ∃ x, (wb7_7).setCell ⟨w_a_0.heap.size, 0, none⟩ (.slice At_5 t_5.length ct_5) = x := ⟨_, rfl⟩
  have z0b9_9 := Ot_1.out.frozenAt 0
  have Sb9_9 := Lib.hid (own_stores [(0, .slice At_5 t_5.length ct_5)] Ot_1.out)
  have Pb9_9 : Hid (wb9_9.ownsRow w.heap.size 43 1 (.slice (some ⟨w_a_0.heap.size, 0, none⟩) 1 1) 1 [.slice At_5 t_5.length ct_5]) := Lib.hid (by rw [← hwb9_9]; exact Sb9_9.out.1)
  have Gb9_9 : Hid (wb7_7.grownBy wb9_9 (Value.slice (some ⟨w_a_0.heap.size, 0, none⟩) 1 1).ownBlock) := Lib.hid (by rw [← hwb9_9]; exact Sb9_9.out.2)
  have HBwb9_9 := Lib.hid (HBwb7_7.out.grown Gb9_9.out HBwb7_7.out.size (fun q hq => (Ot_1.out.lt q hq).1))
  clear Sb9_9
  have ka_0_0__8 := cell_other ka_0_0__5 Gb9_9.out Dt_1_a_0.out
  have kout_2_0__9 := cell_other kout_2_0__7 Gb9_9.out (Apart.symm Dout_2_t_1.out)
  replace Pb7_7 := Lib.hid (own_other Pb7_7.out Gb9_9.out (Apart.symm Dout_2_t_1.out))
  replace Ot_5 := Lib.hid (own_other Ot_5.out Gb9_9.out (Apart.symm Dt_5_t_1.out))
  clear Ot_1 Gb9_9
  have kt_1_0__10 : wb9_9.cell? ⟨w_a_0.heap.size, 0, none⟩ = some (.slice At_5 t_5.length ct_5) := Pb9_9.out.cells rfl 0 _ rfl
  have hR_ := ret_hid H
  simp only [Go.Proofs.Ytpcdaoeijlifmaa.PBlock.Block.mk.injEq] at hR_
  obtain rfl := hR_
  go_wp2_with fail
  (try simp only [Exit.inBlock, Exit.then])
  refine bodyPost_ret (v := .agg #[.slice At_5 t_5.length ct_5]) ?hr_ ?hd_ ?_
  case hd_ => rfl
  case hr_ => simp [results, Try.results22, kt_1_0__10, go_sem]
  exact ⟨At_5, ct_5, rfl, Ot_5.out, HBwb9_9.out⟩
end Go.Proofs.Ytpcdaoeijlifmaa.GlToBlock

/- loop.example/g01062/spec.l1In as a plain function, and the contract of the program's: where the plain one has an answer, the program has it. Conditions: slices read as lists. -/
namespace Go.Proofs.Ytpcdaoeijlifmaa.GsL1In
set_option linter.unusedVariables false
set_option linter.unusedSimpArgs false
open Go.RowKit
open Go.Proofs.Ytpcdaoeijlifmaa.Rowed Go.Proofs.Ytpcdaoeijlifmaa.Turn Go.Proofs.Ytpcdaoeijlifmaa.Aid Go.Proofs.Ytpcdaoeijlifmaa.GoP Go.Proofs.Ytpcdaoeijlifmaa.GoM

def P (x : Int) (a : Int) (b : Int) : Option (Bool) :=
  letK (decide (a ≤ x)) fun (t_3 : Bool) =>
  joinK (fun (t_8 : Bool) =>
  some t_8) fun jt_8 => iteK t_3 (letK (decide (x ≤ b)) fun (t_7 : Bool) =>
  appK jt_8 t_7) (appK jt_8 false)

set_option maxRecDepth 100000 in
set_option maxHeartbeats 2000000 in
theorem C (x : Int) (a : Int) (b : Int)   (w : World)   {r : Bool} (H : Hid (P x a b = some r)) :
    Calls Try.prog 86 #[.int .i64 x, .int .i64 a, .int .i64 b] w (Gives (.bool r) w) := by
  have HB := Lib.hid (Below.refl w.heap.size w)
  unfold P at H
  go_enter Try.func86, Try.ntmps86
  replace H := let_hid H
  obtain ⟨t_3, ht_3, H⟩ := H
  replace H := join_hid H
  cases t_3 with
  | false =>
    replace H := ite_f H
    replace H := app_hid H
    obtain rfl := ret_hid H
    go_wp2_with fail
    go_ret
    exact ⟨rfl, HB.out⟩
  | true =>
    replace H := ite_t H
    replace H := let_hid H
    obtain ⟨t_7, ht_7, H⟩ := H
    replace H := app_hid H
    obtain rfl := ret_hid H
    go_wp2_with fail
    go_ret
    exact ⟨rfl, HB.out⟩

set_option maxRecDepth 100000 in
set_option maxHeartbeats 2000000 in
theorem C0 (x : Int) (a : Int) (b : Int)   (w : World)   {r : Bool} (H : Hid (P x a b = some r)) :
    Calls Try.prog 86 #[.int .i64 x, .int .i64 a, .int .i64 b] w (fun e w'' => e = .returned (.bool r) ∧ w'' = w) := by
  have HB := Lib.hid (Below.refl w.heap.size w)
  unfold P at H
  go_enter Try.func86, Try.ntmps86
  replace H := let_hid H
  obtain ⟨t_3, ht_3, H⟩ := H
  replace H := join_hid H
  cases t_3 with
  | false =>
    replace H := ite_f H
    replace H := app_hid H
    obtain rfl := ret_hid H
    go_wp2_with fail
    go_ret
    exact ⟨rfl, rfl⟩
  | true =>
    replace H := ite_t H
    replace H := let_hid H
    obtain ⟨t_7, ht_7, H⟩ := H
    replace H := app_hid H
    obtain rfl := ret_hid H
    go_wp2_with fail
    go_ret
    exact ⟨rfl, rfl⟩
end Go.Proofs.Ytpcdaoeijlifmaa.GsL1In

/- loop.example/g01062/spec.l4Rows as a plain function, and the contract of the program's: where the plain one has an answer, the program has it. Conditions: slices read as lists. -/
namespace Go.Proofs.Ytpcdaoeijlifmaa.GsL4Rows
set_option linter.unusedVariables false
set_option linter.unusedSimpArgs false
open Go.RowKit
open Go.Proofs.Ytpcdaoeijlifmaa.Rowed Go.Proofs.Ytpcdaoeijlifmaa.Turn Go.Proofs.Ytpcdaoeijlifmaa.Aid Go.Proofs.Ytpcdaoeijlifmaa.GoP Go.Proofs.Ytpcdaoeijlifmaa.GoM

def l1 (rows : (List ByteArray)) (k0 : Nat) (s : Int) (nx1 bk1 : Int → Option (Bool)) : Option (Bool) :=
  letK s fun k_6l1 =>
  Option.bind (idx rows (k0 : Int)) fun (yt_37 : ByteArray) =>
  letK (decide (k_6l1 < (yt_37.size : Int))) fun (t_40 : Bool) =>
  iteK t_40
  (Option.bind (idx rows (k0 : Int)) fun (yt_43 : ByteArray) =>
  Option.bind (idx yt_43.toList k_6l1) fun (yt_46 : UInt8) =>
  letK ((yt_46.toNat : Int)) fun (t_46 : Int) =>
  letK (t_46 != 46) fun (t_49 : Bool) =>
  joinK (fun (t_57 : Bool) =>
  iteK t_57
  (some false)
  (letK (IntKind.i64.wrap (k_6l1 + 1)) fun (t_60 : Int) =>
  appK nx1 (t_60))) fun jt_57 => iteK t_49 (letK (decide (t_46 < 97)) fun (t_52 : Bool) =>
  joinK (fun (t_56 : Bool) =>
  appK jt_57 t_56) fun jt_56 => iteK t_52 (appK jt_56 true) (letK (decide (122 < t_46)) fun (t_55 : Bool) =>
  appK jt_56 t_55)) (appK jt_57 false))
  (appK bk1 (k_6l1))

def e1 (nx0 : (Unit) → Option (Bool)) (s : Int) : Option (Bool) :=
  letK s fun k_6l1 =>
  appK nx0 ()

def l0 (rows : (List ByteArray)) (most : Int) (fuel : Nat) (k0 : Nat) (s : Unit) (nx0 bk0 : Unit → Option (Bool)) : Option (Bool) :=
  
  Option.bind (idx rows (k0 : Int)) fun (yt_14 : ByteArray) =>
  Option.bind (idx rows 0) fun (yt_18 : ByteArray) =>
  letK ((yt_14.size : Int) != (yt_18.size : Int)) fun (t_21 : Bool) =>
  joinK (fun (t_31 : Bool) =>
  iteK t_31
  (some false)
  (loopK (l1 rows k0) fuel (0) (e1 nx0))) fun jt_31 => iteK t_21 (appK jt_31 true) (Option.bind (idx rows (k0 : Int)) fun (yt_25 : ByteArray) =>
  Option.bind (Go.Proofs.Ytpcdaoeijlifmaa.GsL1In.P (yt_25.size : Int) 1 most) fun (t_29 : Bool) =>
  letK (!t_29) fun (t_30 : Bool) =>
  appK jt_31 t_30)

def e0  (s : Unit) : Option (Bool) :=
  
  some true

def P (fuel : Nat) (rows : (List ByteArray)) (most : Int) : Option (Bool) :=
  Option.bind (Go.Proofs.Ytpcdaoeijlifmaa.GsL1In.P (rows.length : Int) 1 most) fun (t_4 : Bool) =>
  letK (!t_4) fun (t_5 : Bool) =>
  iteK t_5
  (some false)
  (cntK (l0 rows most fuel) (rows.length) 0 () (e0 ))

set_option maxRecDepth 100000 in
set_option maxHeartbeats 2000000 in
theorem C (fuel : Nat) (rows : (List ByteArray)) (most : Int) (A0 : Option Addr) (c0 : Nat)  (w : World) (M0 : Hid (Cells w 1 A0 rows.length (rows.map Value.string))) (N0 : Hid (rows.length ≤ 9223372036854775807))  {r : Bool} (H : Hid (P fuel rows most = some r)) :
    Calls Try.prog 95 #[.slice A0 rows.length c0, .int .i64 most] w (Gives (.bool r) w) := by
  have HB := Lib.hid (Below.refl w.heap.size w)
  unfold P at H
  have N0o := N0.out
  go_enter Try.func95, Try.ntmps95
  replace H := bind_hid H
  obtain ⟨t_4, qt_4, H⟩ := H
  go_wp2_with fail
  go_at_call 86
  refine (Go.Proofs.Ytpcdaoeijlifmaa.GsL1In.C ((rows.length : Int)) (1) (most)  _    qt_4).mono ?_
  rintro e_t_4 wt_4 ⟨rfl, bt_4⟩
  have HBwt_4 := Lib.hid (Below.step HB.out bt_4)
  clear bt_4
  cases t_4 with
  | false =>
    replace H := let_hid H
    obtain ⟨t_5, ht_5, H⟩ := H
    obtain rfl : t_5 = true := ht_5.symm
    replace H := ite_t H
    obtain rfl := ret_hid H
    go_wp2_with fail
    go_ret
    exact ⟨rfl, HBwt_4.out⟩
  | true =>
    replace H := let_hid H
    obtain ⟨t_5, ht_5, H⟩ := H
    obtain rfl : t_5 = false := ht_5.symm
    replace H := ite_f H
    go_wp2_with fail
    go_loopg [5] (rows.length) (fun m_ v5_ wr => ∃ (k0 : Nat) , k0 + m_ = rows.length ∧ v5_ = .int .i64 (k0 : Int) ∧ Hid (cntK (l0 rows most fuel) m_ k0 () (e0 ) = some r) ∧ Hid (Below w.heap.size w wr))
    case atStart => exact ⟨0, by omega, rfl, H, HBwt_4⟩
    case round =>
      obtain ⟨k0, hkm0, rfl, H, HBwr0⟩ := hrel
      rename World => wr0
      cases gk with
      | zero =>
        obtain rfl : k0 = rows.length := by omega
        have hc0 : decide (((rows.length : Nat) : Int) < ((rows.length : Nat) : Int)) = false := by simp
        replace H := cnt_zero H
        unfold e0 at H
        obtain rfl := ret_hid H
        go_wp2_with fail
        go_ret
        exact ⟨rfl, HBwr0.out⟩
      | succ m0 =>
        have hlt0 : k0 < rows.length := by omega
        have hc0 : decide ((k0 : Int) < ((rows.length : Nat) : Int)) = true := by simp; omega
        replace H := cnt_succ H
        unfold l0 at H
        go_wp2_with fail
        replace H := idx_hid H
        obtain ⟨nt_14, yt_14, et_14, lt_14, gt_14, H⟩ := H
        obtain rfl : k0 = nt_14 := by omega
        clear et_14
        obtain ⟨ab_t_14, ao_t_14, zt_14, At_14, z_t_14, ct_14_0⟩ := strs_at M0.out lt_14
        obtain rfl := Option.some.inj (gt_14.out.symm.trans z_t_14)
        subst At_14
        have ltt_14 := cell_lt ct_14_0
        replace ct_14_0 := cell_below HBwr0.out ct_14_0
        clear z_t_14
        have b0t_14 : (0 : Int) ≤ (k0 : Int) := by omega
        have b1t_14 : (k0 : Int) < ((rows.length : Nat) : Int) := by omega
        have b2t_14 : ((k0 : Int)).toNat = k0 := by omega
        have Hct_14_0 := Lib.hid ct_14_0
        replace ct_14_0 := cell_regrown ct_14_0
        replace H := idx_hid H
        obtain ⟨nt_18, yt_18, et_18, lt_18, gt_18, H⟩ := H
        obtain rfl : 0 = nt_18 := by omega
        clear et_18
        obtain ⟨ab_t_18, ao_t_18, zt_18, At_18, z_t_18, ct_18_0⟩ := strs_at M0.out lt_18
        obtain rfl := Option.some.inj (gt_18.out.symm.trans z_t_18)
        simp only [Option.some.injEq, Addr.mk.injEq] at At_18
        obtain ⟨rfl, rfl, _⟩ := At_18
        have ltt_18 := cell_lt ct_18_0
        replace ct_18_0 := cell_below HBwr0.out ct_18_0
        clear z_t_18
        have b1t_18 : (0 : Int) < ((rows.length : Nat) : Int) := by omega
        have b3t_18 : 0 < rows.length := by omega
        try simp only [Nat.zero_mul, Nat.add_zero, Nat.zero_add, Nat.reduceMul] at ct_18_0
        have Hct_18_0 := Lib.hid ct_18_0
        replace ct_18_0 := cell_regrown ct_18_0
        replace H := let_hid H
        obtain ⟨t_21, ht_21, H⟩ := H
        replace H := join_hid H
        cases t_21 with
        | false =>
          have Hht_21 : Hid (yt_14.size = yt_18.size) := Lib.hid (by have := bne_eq_false_iff_eq.1 ht_21; omega)
          have nht_21 : (yt_14.size == yt_18.size) = true := beq_iff_eq.2 Hht_21.out
          replace H := ite_f H
          replace H := idx_hid H
          obtain ⟨nt_25, yt_25, et_25, lt_25, gt_25, H⟩ := H
          obtain rfl : k0 = nt_25 := by omega
          clear et_25
          obtain rfl := Option.some.inj (gt_14.out.symm.trans gt_25.out)
          clear gt_25 lt_25
          replace H := bind_hid H
          obtain ⟨t_29, qt_29, H⟩ := H
          have nt_29 : ∀ d os, Calls Try.prog 86 #[.int .i64 (yt_14.size : Int), .int .i64 1, .int .i64 most] (Go.Sort.grow (redrawn wr0 d) os) fun e w'' => e = .returned (.bool t_29) ∧ ∃ p : Regrown, w'' = Go.Sort.grow (redrawn wr0 p.d) p.os := fun d os => Calls.regrown_of (Go.Proofs.Ytpcdaoeijlifmaa.GsL1In.C ((yt_14.size : Int)) (1) (most)  _    qt_29)
          cases t_29 with
          | false =>
            replace H := let_hid H
            obtain ⟨t_30, ht_30, H⟩ := H
            obtain rfl : t_30 = true := ht_30.symm
            replace H := app_hid H
            refine wp_region_quiet_below (by kernel_rfl) (by kernel_rfl) ?_
            repeat (go_big_quiet_step (first | (go_at_call 86; exact nt_29 _ _)))
            refine wpQuiet_nil ?_
            intro Y6 hY6
            replace hY6 := below_class hY6
            clear nt_29
            replace ct_14_0 := Hct_14_0.out
            clear Hct_14_0
            replace ct_18_0 := Hct_18_0.out
            clear Hct_18_0
            have HBY6 := Lib.hid (Below.step HBwr0.out hY6)
            replace ct_14_0 := cell_below hY6 ct_14_0
            replace ct_18_0 := cell_below hY6 ct_18_0
            clear hY6
            replace H := ite_t H
            obtain rfl := ret_hid H
            go_wp2_with fail
            go_ret
            exact ⟨rfl, HBY6.out⟩
          | true =>
            replace H := let_hid H
            obtain ⟨t_30, ht_30, H⟩ := H
            obtain rfl : t_30 = false := ht_30.symm
            replace H := app_hid H
            refine wp_region_quiet_below (by kernel_rfl) (by kernel_rfl) ?_
            repeat (go_big_quiet_step (first | (go_at_call 86; exact nt_29 _ _)))
            refine wpQuiet_nil ?_
            intro Y6 hY6
            replace hY6 := below_class hY6
            clear nt_29
            replace ct_14_0 := Hct_14_0.out
            clear Hct_14_0
            replace ct_18_0 := Hct_18_0.out
            clear Hct_18_0
            have HBY6 := Lib.hid (Below.step HBwr0.out hY6)
            replace ct_14_0 := cell_below hY6 ct_14_0
            replace ct_18_0 := cell_below hY6 ct_18_0
            clear hY6
            replace H := ite_f H
            go_wp2_with fail
            go_loopg [6] (fuel) (fun m_ v6_ wr => ∃ (k_6l1 : Int), v6_ = .int .i64 k_6l1 ∧ Hid (loopK (l1 rows k0) m_ (k_6l1) (e1 (fun s' => cntK (l0 rows most fuel) m0 (k0 + 1) s' (e0 ))) = some r) ∧ Hid (Below w.heap.size w wr))
            case atStart => exact ⟨_, rfl, H, HBY6⟩
            case round =>
              obtain ⟨k_6l1, rfl, H, HBwr1⟩ := hrel
              rename World => wr1
              cases gk with
              | zero => exact (loop_zero H).elim
              | succ m1 =>
                replace H := loop_succ H
                unfold l1 at H
                replace H := let_hid H
                obtain ⟨_, rfl, H⟩ := H
                replace H := idx_hid H
                obtain ⟨nt_37, yt_37, et_37, lt_37, gt_37, H⟩ := H
                obtain rfl : k0 = nt_37 := by omega
                clear et_37
                obtain ⟨ab_t_37, ao_t_37, zt_37, At_37, z_t_37, ct_37_0⟩ := strs_at M0.out lt_37
                obtain rfl := Option.some.inj (gt_37.out.symm.trans z_t_37)
                simp only [Option.some.injEq, Addr.mk.injEq] at At_37
                obtain ⟨rfl, rfl, _⟩ := At_37
                have ltt_37 := cell_lt ct_37_0
                replace ct_37_0 := cell_below HBwr1.out ct_37_0
                clear z_t_37
                have b0t_37 : (0 : Int) ≤ (k0 : Int) := by omega
                have b1t_37 : (k0 : Int) < ((rows.length : Nat) : Int) := by omega
                have b2t_37 : ((k0 : Int)).toNat = k0 := by omega
                replace H := let_hid H
                obtain ⟨t_40, ht_40, H⟩ := H
                cases t_40 with
                | false =>
                  replace H := ite_f H
                  replace H := app_hid H
                  unfold e1 at H
                  replace H := let_hid H
                  obtain ⟨_, rfl, H⟩ := H
                  replace H := app_hid H
                  go_wp2_with fail
                  go_roundg m0
                  case measure => omega
                  case rel => exact ⟨k0 + 1, by omega, by go_num, H, HBwr1⟩
                | true =>
                  replace H := ite_t H
                  replace H := idx_hid H
                  obtain ⟨nt_43, yt_43, et_43, lt_43, gt_43, H⟩ := H
                  obtain rfl : k0 = nt_43 := by omega
                  clear et_43
                  obtain rfl := Option.some.inj (gt_37.out.symm.trans gt_43.out)
                  clear gt_43 lt_43
                  replace H := idx_hid H
                  obtain ⟨nt_46, yt_46, et_46, lt_46, gt_46, H⟩ := H
                  subst et_46
                  have nc_11 : nt_46 < yt_37.size := by have := of_decide_eq_true ht_40; omega
                  have rt_46 := byte_rule lt_46 gt_46.out
                  have b0t_46 : (0 : Int) ≤ (nt_46 : Int) := by omega
                  have b1t_46 : (nt_46 : Int) < (yt_37.size : Int) := by have := size_list yt_37; omega
                  have b2t_46 : ((nt_46 : Int)).toNat = nt_46 := by omega
                  have b3t_46 : nt_46 < yt_37.size := by have := size_list yt_37; omega
                  replace H := let_hid H
                  obtain ⟨t_46, ht_46, H⟩ := H
                  replace H := let_hid H
                  obtain ⟨t_49, ht_49, H⟩ := H
                  replace H := join_hid H
                  cases t_49 with
                  | false =>
                    replace H := ite_f H
                    replace H := app_hid H
                    replace H := ite_f H
                    replace H := let_hid H
                    obtain ⟨t_60, ht_60, H⟩ := H
                    replace H := app_hid H
                    go_wp2_with fail
                    go_roundg m1
                    case measure => omega
                    case rel => exact ⟨_, rfl, H, HBwr1⟩
                  | true =>
                    replace H := ite_t H
                    replace H := let_hid H
                    obtain ⟨t_52, ht_52, H⟩ := H
                    replace H := join_hid H
                    cases t_52 with
                    | false =>
                      replace H := ite_f H
                      replace H := let_hid H
                      obtain ⟨t_55, ht_55, H⟩ := H
                      replace H := app_hid H
                      replace H := app_hid H
                      cases t_55 with
                      | false =>
                        replace H := ite_f H
                        replace H := let_hid H
                        obtain ⟨t_60, ht_60, H⟩ := H
                        replace H := app_hid H
                        go_wp2_with fail
                        go_roundg m1
                        case measure => omega
                        case rel => exact ⟨_, rfl, H, HBwr1⟩
                      | true =>
                        replace H := ite_t H
                        obtain rfl := ret_hid H
                        go_wp2_with fail
                        go_ret
                        exact ⟨rfl, HBwr1.out⟩
                    | true =>
                      replace H := ite_t H
                      replace H := app_hid H
                      replace H := app_hid H
                      replace H := ite_t H
                      obtain rfl := ret_hid H
                      go_wp2_with fail
                      go_ret
                      exact ⟨rfl, HBwr1.out⟩
        | true =>
          have nht_21 : ¬ (yt_14.size = yt_18.size) := by have := bne_iff_ne.1 ht_21; omega
          replace H := ite_t H
          replace H := app_hid H
          refine wp_region_quiet_below (by kernel_rfl) (by kernel_rfl) ?_
          repeat (go_big_quiet_step (fail))
          refine wpQuiet_nil ?_
          intro Y6 hY6
          replace hY6 := below_class hY6
          replace ct_14_0 := Hct_14_0.out
          clear Hct_14_0
          replace ct_18_0 := Hct_18_0.out
          clear Hct_18_0
          have HBY6 := Lib.hid (Below.step HBwr0.out hY6)
          replace ct_14_0 := cell_below hY6 ct_14_0
          replace ct_18_0 := cell_below hY6 ct_18_0
          clear hY6
          replace H := ite_t H
          obtain rfl := ret_hid H
          go_wp2_with fail
          go_ret
          exact ⟨rfl, HBY6.out⟩
end Go.Proofs.Ytpcdaoeijlifmaa.GsL4Rows

/- loop.example/g01062/spec.IsSheet as a plain function, and the contract of the program's: where the plain one has an answer, the program has it. Conditions: slices read as lists. -/
namespace Go.Proofs.Ytpcdaoeijlifmaa.GsIsSheet
set_option linter.unusedVariables false
set_option linter.unusedSimpArgs false
open Go.RowKit
open Go.Proofs.Ytpcdaoeijlifmaa.Rowed Go.Proofs.Ytpcdaoeijlifmaa.Turn Go.Proofs.Ytpcdaoeijlifmaa.Aid Go.Proofs.Ytpcdaoeijlifmaa.GoP Go.Proofs.Ytpcdaoeijlifmaa.GoM

def P (fuel : Nat) (sheet : (List ByteArray)) : Option (Bool) :=
  Option.bind (Go.Proofs.Ytpcdaoeijlifmaa.GsL4Rows.P fuel sheet 5) fun (t_2 : Bool) =>
  some t_2

set_option maxRecDepth 100000 in
set_option maxHeartbeats 2000000 in
theorem C (fuel : Nat) (sheet : (List ByteArray)) (A0 : Option Addr) (c0 : Nat)  (w : World) (M0 : Hid (Cells w 1 A0 sheet.length (sheet.map Value.string))) (N0 : Hid (sheet.length ≤ 9223372036854775807))  {r : Bool} (H : Hid (P fuel sheet = some r)) :
    Calls Try.prog 59 #[.slice A0 sheet.length c0] w (Gives (.bool r) w) := by
  have HB := Lib.hid (Below.refl w.heap.size w)
  unfold P at H
  have N0o := N0.out
  go_enter Try.func59, Try.ntmps59
  replace H := bind_hid H
  obtain ⟨t_2, qt_2, H⟩ := H
  go_wp2_with fail
  go_at_call 95
  refine (Go.Proofs.Ytpcdaoeijlifmaa.GsL4Rows.C fuel (sheet) (5) A0 c0 _   (Lib.hid (Cells.below M0.out HB.out)) N0 qt_2).mono ?_
  rintro e_t_2 wt_2 ⟨rfl, bt_2⟩
  have HBwt_2 := Lib.hid (Below.step HB.out bt_2)
  clear bt_2
  obtain rfl := ret_hid H
  go_wp2_with fail
  go_ret
  exact ⟨rfl, HBwt_2.out⟩
end Go.Proofs.Ytpcdaoeijlifmaa.GsIsSheet

/- loop.example/g01062/spec.l4Fits as a plain function, and the contract of the program's: where the plain one has an answer, the program has it. Conditions: slices read as lists. -/
namespace Go.Proofs.Ytpcdaoeijlifmaa.GsL4Fits
set_option linter.unusedVariables false
set_option linter.unusedSimpArgs false
open Go.RowKit
open Go.Proofs.Ytpcdaoeijlifmaa.Rowed Go.Proofs.Ytpcdaoeijlifmaa.Turn Go.Proofs.Ytpcdaoeijlifmaa.Aid Go.Proofs.Ytpcdaoeijlifmaa.GoP Go.Proofs.Ytpcdaoeijlifmaa.GoM

def l1 (sheet : (List ByteArray)) (b_rows : (List ByteArray)) (row_2 : Int) (col : Int) (i_9l0 : Int) (s : Int) (nx1 bk1 : Int → Option (Bool)) : Option (Bool) :=
  letK s fun k_10l1 =>
  Option.bind (idx b_rows i_9l0) fun (yt_44 : ByteArray) =>
  letK (decide (k_10l1 < (yt_44.size : Int))) fun (t_47 : Bool) =>
  iteK t_47
  (Option.bind (idx b_rows i_9l0) fun (yt_51 : ByteArray) =>
  Option.bind (idx yt_51.toList k_10l1) fun (yt_54 : UInt8) =>
  letK ((yt_54.toNat : Int)) fun (t_54 : Int) =>
  letK (IntKind.i64.wrap (row_2 + i_9l0)) fun (t_58 : Int) =>
  Option.bind (idx sheet t_58) fun (yt_59 : ByteArray) =>
  letK (IntKind.i64.wrap (col + k_10l1)) fun (t_63 : Int) =>
  Option.bind (idx yt_59.toList t_63) fun (yt_64 : UInt8) =>
  letK ((yt_64.toNat : Int)) fun (t_64 : Int) =>
  letK (t_54 != 46) fun (t_68 : Bool) =>
  joinK (fun (t_72 : Bool) =>
  joinK (fun (t_77 : Bool) =>
  iteK t_77
  (some false)
  (letK (IntKind.i64.wrap (k_10l1 + 1)) fun (t_80 : Int) =>
  appK nx1 (t_80))) fun jt_77 => iteK t_72 (letK (t_54 != t_64) fun (t_76 : Bool) =>
  appK jt_77 t_76) (appK jt_77 false)) fun jt_72 => iteK t_68 (letK (t_64 != 46) fun (t_71 : Bool) =>
  appK jt_72 t_71) (appK jt_72 false))
  (appK bk1 (k_10l1))

def e1 (nx0 : (Int) → Option (Bool)) (i_9l0 : Int) (s : Int) : Option (Bool) :=
  letK s fun k_10l1 =>
  letK (IntKind.i64.wrap (i_9l0 + 1)) fun (t_83 : Int) =>
  appK nx0 (t_83)

def l0 (sheet : (List ByteArray)) (b_rows : (List ByteArray)) (row_2 : Int) (col : Int) (fuel : Nat) (s : Int) (nx0 bk0 : Int → Option (Bool)) : Option (Bool) :=
  letK s fun i_9l0 =>
  letK (decide (i_9l0 < (b_rows.length : Int))) fun (t_38 : Bool) =>
  iteK t_38
  (loopK (l1 sheet b_rows row_2 col i_9l0) fuel (0) (e1 nx0 i_9l0))
  (appK bk0 (i_9l0))

def e0  (s : Int) : Option (Bool) :=
  letK s fun i_9l0 =>
  some true

def P (fuel : Nat) (sheet : (List ByteArray)) (b_rows : (List ByteArray)) (row_2 : Int) (col : Int) : Option (Bool) :=
  letK (decide (row_2 < 0)) fun (t_3 : Bool) =>
  joinK (fun (t_13 : Bool) =>
  joinK (fun (t_17 : Bool) =>
  joinK (fun (t_31 : Bool) =>
  iteK t_31
  (some false)
  (loopK (l0 sheet b_rows row_2 col fuel) fuel (0) (e0 ))) fun jt_31 => iteK t_17 (appK jt_31 true) (Option.bind (idx sheet 0) fun (yt_21 : ByteArray) =>
  Option.bind (idx b_rows 0) fun (yt_26 : ByteArray) =>
  letK (IntKind.i64.wrap ((yt_21.size : Int) - (yt_26.size : Int))) fun (t_29 : Int) =>
  letK (decide (t_29 < col)) fun (t_30 : Bool) =>
  appK jt_31 t_30)) fun jt_17 => iteK t_13 (appK jt_17 true) (letK (decide (col < 0)) fun (t_16 : Bool) =>
  appK jt_17 t_16)) fun jt_13 => iteK t_3 (appK jt_13 true) (letK (IntKind.i64.wrap ((sheet.length : Int) - (b_rows.length : Int))) fun (t_11 : Int) =>
  letK (decide (t_11 < row_2)) fun (t_12 : Bool) =>
  appK jt_13 t_12)

set_option maxRecDepth 100000 in
set_option maxHeartbeats 2000000 in
theorem C (fuel : Nat) (sheet : (List ByteArray)) (b_rows : (List ByteArray)) (row_2 : Int) (col : Int) (A0 : Option Addr) (c0 : Nat) (A1_0 : Option Addr) (c1_0 : Nat)  (w : World) (M0 : Hid (Cells w 1 A0 sheet.length (sheet.map Value.string))) (N0 : Hid (sheet.length ≤ 9223372036854775807)) (M1_0 : Hid (Cells w 1 A1_0 b_rows.length (b_rows.map Value.string))) (N1_0 : Hid (b_rows.length ≤ 9223372036854775807))  {r : Bool} (H : Hid (P fuel sheet b_rows row_2 col = some r)) :
    Calls Try.prog 67 #[.slice A0 sheet.length c0, .agg #[.slice A1_0 b_rows.length c1_0], .int .i64 row_2, .int .i64 col] w (Gives (.bool r) w) := by
  have HB := Lib.hid (Below.refl w.heap.size w)
  unfold P at H
  have N0o := N0.out
  have N1_0o := N1_0.out
  go_enter Try.func67, Try.ntmps67
  obtain ⟨w_b_0, hw_b_0⟩ : ∃ x, w.alloc (.cells #[.slice A1_0 b_rows.length c1_0] 43) = x := ⟨_, rfl⟩
  have bw_b_0 : Below w.heap.size w w_b_0 := by rw [← hw_b_0]; exact (Below.refl _ _).alloc (Nat.le_refl _) _
  have HBw_b_0 := Lib.hid (Below.step HB.out bw_b_0)
  clear bw_b_0
  have kb_0_0 : w_b_0.cell? ⟨w.heap.size, 0, none⟩ = some (.slice A1_0 b_rows.length c1_0) := by rw [← hw_b_0]; exact box_new _ _ _ 0 _ rfl
  go_wp2_with fail
  have Hkb_0_0 := Lib.hid kb_0_0
  replace kb_0_0 := cell_regrown kb_0_0
  replace H := let_hid H
  obtain ⟨t_3, ht_3, H⟩ := H
  replace H := join_hid H
  cases t_3 with
  | false =>
    replace H := ite_f H
    replace H := let_hid H
    obtain ⟨t_11, ht_11, H⟩ := H
    replace H := let_hid H
    obtain ⟨t_12, ht_12, H⟩ := H
    replace H := app_hid H
    replace H := join_hid H
    cases t_12 with
    | false =>
      replace H := ite_f H
      replace H := let_hid H
      obtain ⟨t_16, ht_16, H⟩ := H
      replace H := app_hid H
      replace H := join_hid H
      cases t_16 with
      | false =>
        replace H := ite_f H
        replace H := idx_hid H
        obtain ⟨nt_21, yt_21, et_21, lt_21, gt_21, H⟩ := H
        obtain rfl : 0 = nt_21 := by omega
        clear et_21
        obtain ⟨ab_t_21, ao_t_21, zt_21, At_21, z_t_21, ct_21_0⟩ := strs_at M0.out lt_21
        obtain rfl := Option.some.inj (gt_21.out.symm.trans z_t_21)
        subst At_21
        have ltt_21 := cell_lt ct_21_0
        replace ct_21_0 := cell_below HBw_b_0.out ct_21_0
        clear z_t_21
        have b1t_21 : (0 : Int) < ((sheet.length : Nat) : Int) := by omega
        have b3t_21 : 0 < sheet.length := by omega
        try simp only [Nat.zero_mul, Nat.add_zero, Nat.zero_add, Nat.reduceMul] at ct_21_0
        have Hct_21_0 := Lib.hid ct_21_0
        replace ct_21_0 := cell_regrown ct_21_0
        replace H := idx_hid H
        obtain ⟨nt_26, yt_26, et_26, lt_26, gt_26, H⟩ := H
        obtain rfl : 0 = nt_26 := by omega
        clear et_26
        obtain ⟨ab_t_26, ao_t_26, zt_26, At_26, z_t_26, ct_26_0⟩ := strs_at M1_0.out lt_26
        obtain rfl := Option.some.inj (gt_26.out.symm.trans z_t_26)
        subst At_26
        have ltt_26 := cell_lt ct_26_0
        replace ct_26_0 := cell_below HBw_b_0.out ct_26_0
        clear z_t_26
        have b1t_26 : (0 : Int) < ((b_rows.length : Nat) : Int) := by omega
        have b3t_26 : 0 < b_rows.length := by omega
        try simp only [Nat.zero_mul, Nat.add_zero, Nat.zero_add, Nat.reduceMul] at ct_26_0
        have Hct_26_0 := Lib.hid ct_26_0
        replace ct_26_0 := cell_regrown ct_26_0
        replace H := let_hid H
        obtain ⟨t_29, ht_29, H⟩ := H
        replace H := let_hid H
        obtain ⟨t_30, ht_30, H⟩ := H
        replace H := app_hid H
        refine wp_region_quiet_below (by kernel_rfl) (by kernel_rfl) ?_
        repeat (go_big_quiet_step (fail))
        refine wpQuiet_nil ?_
        intro Y1 hY1
        replace hY1 := below_class hY1
        replace kb_0_0 := Hkb_0_0.out
        clear Hkb_0_0
        replace ct_21_0 := Hct_21_0.out
        clear Hct_21_0
        replace ct_26_0 := Hct_26_0.out
        clear Hct_26_0
        have HBY1 := Lib.hid (Below.step HBw_b_0.out hY1)
        replace kb_0_0 := cell_below hY1 kb_0_0
        replace ct_21_0 := cell_below hY1 ct_21_0
        replace ct_26_0 := cell_below hY1 ct_26_0
        clear hY1
        cases t_30 with
        | false =>
          replace H := ite_f H
          go_wp2_with fail
          go_loopg [9] (fuel) (fun m_ v9_ wr => ∃ (i_9l0 : Int), v9_ = .int .i64 i_9l0 ∧ Hid (loopK (l0 sheet b_rows row_2 col fuel) m_ (i_9l0) (e0 ) = some r) ∧ Hid (Below w.heap.size w wr) ∧ wr.cell? ⟨w.heap.size, 0, none⟩ = some (.slice (some ⟨ab_t_26, ao_t_26, none⟩) b_rows.length c1_0))
          case atStart => exact ⟨_, rfl, H, HBY1, kb_0_0⟩
          case round =>
            obtain ⟨i_9l0, rfl, H, HBwr0, kb_0_0⟩ := hrel
            rename World => wr0
            cases gk with
            | zero => exact (loop_zero H).elim
            | succ m0 =>
              replace H := loop_succ H
              unfold l0 at H
              replace H := let_hid H
              obtain ⟨_, rfl, H⟩ := H
              replace H := let_hid H
              obtain ⟨t_38, ht_38, H⟩ := H
              cases t_38 with
              | false =>
                replace H := ite_f H
                replace H := app_hid H
                unfold e0 at H
                replace H := let_hid H
                obtain ⟨_, rfl, H⟩ := H
                obtain rfl := ret_hid H
                go_wp2_with fail
                go_ret
                exact ⟨rfl, HBwr0.out⟩
              | true =>
                replace H := ite_t H
                go_wp2_with fail
                go_loopg [10] (fuel) (fun m_ v10_ wr => ∃ (k_10l1 : Int), v10_ = .int .i64 k_10l1 ∧ Hid (loopK (l1 sheet b_rows row_2 col i_9l0) m_ (k_10l1) (e1 (fun s' => loopK (l0 sheet b_rows row_2 col fuel) m0 s' (e0 )) i_9l0) = some r) ∧ Hid (Below w.heap.size w wr) ∧ wr.cell? ⟨w.heap.size, 0, none⟩ = some (.slice (some ⟨ab_t_26, ao_t_26, none⟩) b_rows.length c1_0))
                case atStart => exact ⟨_, rfl, H, HBwr0, kb_0_0⟩
                case round =>
                  obtain ⟨k_10l1, rfl, H, HBwr1, kb_0_0⟩ := hrel
                  rename World => wr1
                  cases gk with
                  | zero => exact (loop_zero H).elim
                  | succ m1 =>
                    replace H := loop_succ H
                    unfold l1 at H
                    replace H := let_hid H
                    obtain ⟨_, rfl, H⟩ := H
                    replace H := idx_hid H
                    obtain ⟨nt_44, yt_44, et_44, lt_44, gt_44, H⟩ := H
                    subst et_44
                    have nc_12 : nt_44 < b_rows.length := by have := of_decide_eq_true ht_38; omega
                    obtain ⟨ab_t_44, ao_t_44, zt_44, At_44, z_t_44, ct_44_0⟩ := strs_at M1_0.out lt_44
                    obtain rfl := Option.some.inj (gt_44.out.symm.trans z_t_44)
                    simp only [Option.some.injEq, Addr.mk.injEq] at At_44
                    obtain ⟨rfl, rfl, _⟩ := At_44
                    have ltt_44 := cell_lt ct_44_0
                    replace ct_44_0 := cell_below HBwr1.out ct_44_0
                    clear z_t_44
                    have b0t_44 : (0 : Int) ≤ (nt_44 : Int) := by omega
                    have b1t_44 : (nt_44 : Int) < ((b_rows.length : Nat) : Int) := by omega
                    have b2t_44 : ((nt_44 : Int)).toNat = nt_44 := by omega
                    replace H := let_hid H
                    obtain ⟨t_47, ht_47, H⟩ := H
                    cases t_47 with
                    | false =>
                      replace H := ite_f H
                      replace H := app_hid H
                      unfold e1 at H
                      replace H := let_hid H
                      obtain ⟨_, rfl, H⟩ := H
                      replace H := let_hid H
                      obtain ⟨t_83, ht_83, H⟩ := H
                      replace H := app_hid H
                      go_wp2_with fail
                      go_roundg m0
                      case measure => omega
                      case rel => exact ⟨_, rfl, H, HBwr1, kb_0_0⟩
                    | true =>
                      replace H := ite_t H
                      go_wp2_with fail
                      have Hkb_0_0 := Lib.hid kb_0_0
                      replace kb_0_0 := cell_regrown kb_0_0
                      have Hct_44_0 := Lib.hid ct_44_0
                      replace ct_44_0 := cell_regrown ct_44_0
                      replace H := idx_hid H
                      obtain ⟨nt_51, yt_51, et_51, lt_51, gt_51, H⟩ := H
                      obtain rfl : nt_44 = nt_51 := by omega
                      clear et_51
                      obtain rfl := Option.some.inj (gt_44.out.symm.trans gt_51.out)
                      clear gt_51 lt_51
                      replace H := idx_hid H
                      obtain ⟨nt_54, yt_54, et_54, lt_54, gt_54, H⟩ := H
                      subst et_54
                      have nc_13 : nt_54 < yt_44.size := by have := of_decide_eq_true ht_47; omega
                      have rt_54 := byte_rule lt_54 gt_54.out
                      have b0t_54 : (0 : Int) ≤ (nt_54 : Int) := by omega
                      have b1t_54 : (nt_54 : Int) < (yt_44.size : Int) := by have := size_list yt_44; omega
                      have b2t_54 : ((nt_54 : Int)).toNat = nt_54 := by omega
                      have b3t_54 : nt_54 < yt_44.size := by have := size_list yt_44; omega
                      replace H := let_hid H
                      obtain ⟨t_54, ht_54, H⟩ := H
                      replace H := let_hid H
                      obtain ⟨t_58, ht_58, H⟩ := H
                      replace H := idx_hid H
                      obtain ⟨nt_59, yt_59, et_59, lt_59, gt_59, H⟩ := H
                      subst et_59
                      obtain ⟨ab_t_59, ao_t_59, zt_59, At_59, z_t_59, ct_59_0⟩ := strs_at M0.out lt_59
                      obtain rfl := Option.some.inj (gt_59.out.symm.trans z_t_59)
                      simp only [Option.some.injEq, Addr.mk.injEq] at At_59
                      obtain ⟨rfl, rfl, _⟩ := At_59
                      have ltt_59 := cell_lt ct_59_0
                      replace ct_59_0 := cell_below HBwr1.out ct_59_0
                      clear z_t_59
                      have b0t_59 : (0 : Int) ≤ (nt_59 : Int) := by omega
                      have b1t_59 : (nt_59 : Int) < ((sheet.length : Nat) : Int) := by omega
                      have b2t_59 : ((nt_59 : Int)).toNat = nt_59 := by omega
                      have Hct_59_0 := Lib.hid ct_59_0
                      replace ct_59_0 := cell_regrown ct_59_0
                      replace H := let_hid H
                      obtain ⟨t_63, ht_63, H⟩ := H
                      replace H := idx_hid H
                      obtain ⟨nt_64, yt_64, et_64, lt_64, gt_64, H⟩ := H
                      subst et_64
                      have rt_64 := byte_rule lt_64 gt_64.out
                      have b0t_64 : (0 : Int) ≤ (nt_64 : Int) := by omega
                      have b1t_64 : (nt_64 : Int) < (yt_59.size : Int) := by have := size_list yt_59; omega
                      have b2t_64 : ((nt_64 : Int)).toNat = nt_64 := by omega
                      have b3t_64 : nt_64 < yt_59.size := by have := size_list yt_59; omega
                      replace H := let_hid H
                      obtain ⟨t_64, ht_64, H⟩ := H
                      refine wp_region_quiet_below (by kernel_rfl) (by kernel_rfl) ?_
                      repeat (go_big_quiet_step (fail))
                      refine wpQuiet_nil ?_
                      intro Y9 hY9
                      replace hY9 := below_class hY9
                      replace kb_0_0 := Hkb_0_0.out
                      clear Hkb_0_0
                      replace ct_44_0 := Hct_44_0.out
                      clear Hct_44_0
                      replace ct_59_0 := Hct_59_0.out
                      clear Hct_59_0
                      have HBY9 := Lib.hid (Below.step HBwr1.out hY9)
                      replace kb_0_0 := cell_below hY9 kb_0_0
                      replace ct_44_0 := cell_below hY9 ct_44_0
                      replace ct_59_0 := cell_below hY9 ct_59_0
                      clear hY9
                      replace H := let_hid H
                      obtain ⟨t_68, ht_68, H⟩ := H
                      replace H := join_hid H
                      cases t_68 with
                      | false =>
                        replace H := ite_f H
                        replace H := app_hid H
                        replace H := join_hid H
                        replace H := ite_f H
                        replace H := app_hid H
                        replace H := ite_f H
                        replace H := let_hid H
                        obtain ⟨t_80, ht_80, H⟩ := H
                        replace H := app_hid H
                        go_wp2_with fail
                        go_roundg m1
                        case measure => omega
                        case rel => exact ⟨_, rfl, H, HBY9, kb_0_0⟩
                      | true =>
                        replace H := ite_t H
                        replace H := let_hid H
                        obtain ⟨t_71, ht_71, H⟩ := H
                        replace H := app_hid H
                        replace H := join_hid H
                        cases t_71 with
                        | false =>
                          replace H := ite_f H
                          replace H := app_hid H
                          replace H := ite_f H
                          replace H := let_hid H
                          obtain ⟨t_80, ht_80, H⟩ := H
                          replace H := app_hid H
                          go_wp2_with fail
                          go_roundg m1
                          case measure => omega
                          case rel => exact ⟨_, rfl, H, HBY9, kb_0_0⟩
                        | true =>
                          replace H := ite_t H
                          replace H := let_hid H
                          obtain ⟨t_76, ht_76, H⟩ := H
                          replace H := app_hid H
                          cases t_76 with
                          | false =>
                            replace H := ite_f H
                            replace H := let_hid H
                            obtain ⟨t_80, ht_80, H⟩ := H
                            replace H := app_hid H
                            go_wp2_with fail
                            go_roundg m1
                            case measure => omega
                            case rel => exact ⟨_, rfl, H, HBY9, kb_0_0⟩
                          | true =>
                            replace H := ite_t H
                            obtain rfl := ret_hid H
                            go_wp2_with fail
                            go_ret
                            exact ⟨rfl, HBY9.out⟩
        | true =>
          replace H := ite_t H
          obtain rfl := ret_hid H
          go_wp2_with fail
          go_ret
          exact ⟨rfl, HBY1.out⟩
      | true =>
        replace H := ite_t H
        replace H := app_hid H
        refine wp_region_quiet_below (by kernel_rfl) (by kernel_rfl) ?_
        repeat (go_big_quiet_step (fail))
        refine wpQuiet_nil ?_
        intro Y1 hY1
        replace hY1 := below_class hY1
        replace kb_0_0 := Hkb_0_0.out
        clear Hkb_0_0
        have HBY1 := Lib.hid (Below.step HBw_b_0.out hY1)
        replace kb_0_0 := cell_below hY1 kb_0_0
        clear hY1
        replace H := ite_t H
        obtain rfl := ret_hid H
        go_wp2_with fail
        go_ret
        exact ⟨rfl, HBY1.out⟩
    | true =>
      replace H := ite_t H
      replace H := app_hid H
      replace H := join_hid H
      replace H := ite_t H
      replace H := app_hid H
      refine wp_region_quiet_below (by kernel_rfl) (by kernel_rfl) ?_
      repeat (go_big_quiet_step (fail))
      refine wpQuiet_nil ?_
      intro Y1 hY1
      replace hY1 := below_class hY1
      replace kb_0_0 := Hkb_0_0.out
      clear Hkb_0_0
      have HBY1 := Lib.hid (Below.step HBw_b_0.out hY1)
      replace kb_0_0 := cell_below hY1 kb_0_0
      clear hY1
      replace H := ite_t H
      obtain rfl := ret_hid H
      go_wp2_with fail
      go_ret
      exact ⟨rfl, HBY1.out⟩
  | true =>
    replace H := ite_t H
    replace H := app_hid H
    replace H := join_hid H
    replace H := ite_t H
    replace H := app_hid H
    replace H := join_hid H
    replace H := ite_t H
    replace H := app_hid H
    refine wp_region_quiet_below (by kernel_rfl) (by kernel_rfl) ?_
    repeat (go_big_quiet_step (fail))
    refine wpQuiet_nil ?_
    intro Y1 hY1
    replace hY1 := below_class hY1
    replace kb_0_0 := Hkb_0_0.out
    clear Hkb_0_0
    have HBY1 := Lib.hid (Below.step HBw_b_0.out hY1)
    replace kb_0_0 := cell_below hY1 kb_0_0
    clear hY1
    replace H := ite_t H
    obtain rfl := ret_hid H
    go_wp2_with fail
    go_ret
    exact ⟨rfl, HBY1.out⟩
end Go.Proofs.Ytpcdaoeijlifmaa.GsL4Fits

/- loop.example/g01062/spec.l4Places as a plain function, and the contract of the program's: where the plain one has an answer, the program has it. Conditions: slices read as lists. -/
namespace Go.Proofs.Ytpcdaoeijlifmaa.GsL4Places
set_option linter.unusedVariables false
set_option linter.unusedSimpArgs false
open Go.RowKit
open Go.Proofs.Ytpcdaoeijlifmaa.Rowed Go.Proofs.Ytpcdaoeijlifmaa.Turn Go.Proofs.Ytpcdaoeijlifmaa.Aid Go.Proofs.Ytpcdaoeijlifmaa.GoP Go.Proofs.Ytpcdaoeijlifmaa.GoM

def l1 (sheet : (List ByteArray)) (b_rows : (List ByteArray)) (fuel : Nat) (k0 : Nat) (s : (List Go.Proofs.Ytpcdaoeijlifmaa.PIntA2.IntA2) × Int) (nx1 bk1 : (List Go.Proofs.Ytpcdaoeijlifmaa.PIntA2.IntA2) × Int → Option ((List Go.Proofs.Ytpcdaoeijlifmaa.PIntA2.IntA2))) : Option ((List Go.Proofs.Ytpcdaoeijlifmaa.PIntA2.IntA2)) :=
  unp2 s fun out_5l1 col_7l1 =>
  Option.bind (idx sheet 0) fun (yt_12 : ByteArray) =>
  letK (decide (col_7l1 < (yt_12.size : Int))) fun (t_15 : Bool) =>
  iteK t_15
  (Option.bind (Go.Proofs.Ytpcdaoeijlifmaa.GsL4Fits.P fuel sheet b_rows (k0 : Int) col_7l1) fun (t_20 : Bool) =>
  iteK t_20
  (guardK (out_5l1.length ≤ 1099511627776) <|
  letK (out_5l1 ++ [(Go.Proofs.Ytpcdaoeijlifmaa.PIntA2.IntA2.mk (k0 : Int) col_7l1)]) fun (t_26 : (List Go.Proofs.Ytpcdaoeijlifmaa.PIntA2.IntA2)) =>
  letK (IntKind.i64.wrap (col_7l1 + 1)) fun (t_29 : Int) =>
  appK nx1 (t_26, t_29))
  (letK (IntKind.i64.wrap (col_7l1 + 1)) fun (t_29 : Int) =>
  appK nx1 (out_5l1, t_29)))
  (appK bk1 (out_5l1, col_7l1))

def e1 (nx0 : ((List Go.Proofs.Ytpcdaoeijlifmaa.PIntA2.IntA2)) → Option ((List Go.Proofs.Ytpcdaoeijlifmaa.PIntA2.IntA2))) (s : (List Go.Proofs.Ytpcdaoeijlifmaa.PIntA2.IntA2) × Int) : Option ((List Go.Proofs.Ytpcdaoeijlifmaa.PIntA2.IntA2)) :=
  unp2 s fun out_5l1 col_7l1 =>
  appK nx0 (out_5l1)

def l0 (sheet : (List ByteArray)) (b_rows : (List ByteArray)) (fuel : Nat) (k0 : Nat) (s : (List Go.Proofs.Ytpcdaoeijlifmaa.PIntA2.IntA2)) (nx0 bk0 : (List Go.Proofs.Ytpcdaoeijlifmaa.PIntA2.IntA2) → Option ((List Go.Proofs.Ytpcdaoeijlifmaa.PIntA2.IntA2))) : Option ((List Go.Proofs.Ytpcdaoeijlifmaa.PIntA2.IntA2)) :=
  letK s fun out_5l0 =>
  loopK (l1 sheet b_rows fuel k0) fuel (out_5l0, 0) (e1 nx0)

def e0  (s : (List Go.Proofs.Ytpcdaoeijlifmaa.PIntA2.IntA2)) : Option ((List Go.Proofs.Ytpcdaoeijlifmaa.PIntA2.IntA2)) :=
  letK s fun out_5l0 =>
  some out_5l0

def P (fuel : Nat) (sheet : (List ByteArray)) (b_rows : (List ByteArray)) : Option ((List Go.Proofs.Ytpcdaoeijlifmaa.PIntA2.IntA2)) :=
  cntK (l0 sheet b_rows fuel) (sheet.length) 0 (([] : List Go.Proofs.Ytpcdaoeijlifmaa.PIntA2.IntA2)) (e0 )

set_option maxRecDepth 100000 in
set_option maxHeartbeats 2000000 in
theorem C (fuel : Nat) (sheet : (List ByteArray)) (b_rows : (List ByteArray)) (A0 : Option Addr) (c0 : Nat) (A1_0 : Option Addr) (c1_0 : Nat)  (w : World) (M0 : Hid (Cells w 1 A0 sheet.length (sheet.map Value.string))) (N0 : Hid (sheet.length ≤ 9223372036854775807)) (M1_0 : Hid (Cells w 1 A1_0 b_rows.length (b_rows.map Value.string))) (N1_0 : Hid (b_rows.length ≤ 9223372036854775807))  {r : (List Go.Proofs.Ytpcdaoeijlifmaa.PIntA2.IntA2)} (H : Hid (P fuel sheet b_rows = some r)) :
    Calls Try.prog 61 #[.slice A0 sheet.length c0, .agg #[.slice A1_0 b_rows.length c1_0]] w (fun e w' => ∃ A_r c_r, e = .returned (.slice A_r r.length c_r) ∧ w'.ownsRow w.heap.size 90 2 (.slice A_r r.length c_r) r.length (Go.Proofs.Ytpcdaoeijlifmaa.PIntA2.flat r) ∧ Below w.heap.size w w') := by
  have HB := Lib.hid (Below.refl w.heap.size w)
  unfold P at H
  have N0o := N0.out
  have N1_0o := N1_0.out
  obtain ⟨i0_90, hi_90, hz0_90, hz1_90, hz2_90⟩ := Aid.info_parts (P := Try.prog) (T := 90) (z := .agg #[.int .i64 0, .int .i64 0]) (s := 2) (b := 16) (by kernel_rfl)
  go_enter Try.func61, Try.ntmps61
  obtain ⟨w_b_0, hw_b_0⟩ : ∃ x, w.alloc (.cells #[.slice A1_0 b_rows.length c1_0] 43) = x := ⟨_, rfl⟩
  have bw_b_0 : Below w.heap.size w w_b_0 := by rw [← hw_b_0]; exact (Below.refl _ _).alloc (Nat.le_refl _) _
  have HBw_b_0 := Lib.hid (Below.step HB.out bw_b_0)
  clear bw_b_0
  have kb_0_0 : w_b_0.cell? ⟨w.heap.size, 0, none⟩ = some (.slice A1_0 b_rows.length c1_0) := by rw [← hw_b_0]; exact box_new _ _ _ 0 _ rfl
  obtain ⟨w_t_2, hw_t_2⟩ : ∃ x, w_b_0.alloc (.cells #[] 90) = x := ⟨_, rfl⟩
  have bw_t_2 : Below w_b_0.heap.size w_b_0 w_t_2 := by rw [← hw_t_2]; exact (Below.refl _ _).alloc (Nat.le_refl _) _
  have Ot_2 : Hid (w_t_2.ownsRow w.heap.size 90 2 (.slice (some ⟨w_b_0.heap.size, 0, none⟩) 0 0) 0 []) := Lib.hid (by rw [← hw_t_2]; exact own_empty HBw_b_0.out.size)
  have Dt_2_b_0 := Lib.hid (apart_box kb_0_0)
  have HBw_t_2 := Lib.hid (Below.step HBw_b_0.out bw_t_2)
  have kb_0_0__14 := cell_below bw_t_2 kb_0_0
  clear bw_t_2
  go_wp2_with fail
  clear kb_0_0
  go_loopg [6, 5] (sheet.length) (fun m_ v6_ v5_ wr => ∃ (k0 : Nat) (out_5l0 : (List Go.Proofs.Ytpcdaoeijlifmaa.PIntA2.IntA2)) (Aout_5l0 : Option Addr) (cout_5l0 : Nat), k0 + m_ = sheet.length ∧ v6_ = .int .i64 (k0 : Int) ∧ v5_ = .slice Aout_5l0 out_5l0.length cout_5l0 ∧ Hid (cntK (l0 sheet b_rows fuel) m_ k0 (out_5l0) (e0 ) = some r) ∧ Hid (Below w.heap.size w wr) ∧ wr.cell? ⟨w.heap.size, 0, none⟩ = some (.slice A1_0 b_rows.length c1_0) ∧ Hid (wr.ownsRow w.heap.size 90 2 (.slice Aout_5l0 out_5l0.length cout_5l0) out_5l0.length (Go.Proofs.Ytpcdaoeijlifmaa.PIntA2.flat out_5l0)) ∧ Hid (Apart Aout_5l0 (some ⟨w.heap.size, 0, none⟩)))
  case atStart => exact ⟨0, _, _, _, by omega, rfl, rfl, H, HBw_t_2, kb_0_0__14, Ot_2, Lib.hid Dt_2_b_0.out⟩
  case round =>
    obtain ⟨k0, out_5l0, Aout_5l0, cout_5l0, hkm0, rfl, rfl, H, HBwr0, kb_0_0__14, Oout_5l0, Dout_5l0_b_0⟩ := hrel
    rename World => wr0
    cases gk with
    | zero =>
      obtain rfl : k0 = sheet.length := by omega
      have hc0 : decide (((sheet.length : Nat) : Int) < ((sheet.length : Nat) : Int)) = false := by simp
      replace H := cnt_zero H
      unfold e0 at H
      replace H := let_hid H
      obtain ⟨_, rfl, H⟩ := H
      obtain rfl := ret_hid H
      go_wp2_with fail
      go_ret
      exact ⟨Aout_5l0, cout_5l0, rfl, Oout_5l0.out, HBwr0.out⟩
    | succ m0 =>
      have hlt0 : k0 < sheet.length := by omega
      have hc0 : decide ((k0 : Int) < ((sheet.length : Nat) : Int)) = true := by simp; omega
      replace H := cnt_succ H
      unfold l0 at H
      replace H := let_hid H
      obtain ⟨_, rfl, H⟩ := H
      go_wp2_with fail
      go_loopg [5, 7] (fuel) (fun m_ v5_ v7_ wr => ∃ (out_5l1 : (List Go.Proofs.Ytpcdaoeijlifmaa.PIntA2.IntA2)) (col_7l1 : Int) (Aout_5l1 : Option Addr) (cout_5l1 : Nat), v5_ = .slice Aout_5l1 out_5l1.length cout_5l1 ∧ v7_ = .int .i64 col_7l1 ∧ Hid (loopK (l1 sheet b_rows fuel k0) m_ (out_5l1, col_7l1) (e1 (fun s' => cntK (l0 sheet b_rows fuel) m0 (k0 + 1) s' (e0 ))) = some r) ∧ Hid (Below w.heap.size w wr) ∧ wr.cell? ⟨w.heap.size, 0, none⟩ = some (.slice A1_0 b_rows.length c1_0) ∧ Hid (wr.ownsRow w.heap.size 90 2 (.slice Aout_5l1 out_5l1.length cout_5l1) out_5l1.length (Go.Proofs.Ytpcdaoeijlifmaa.PIntA2.flat out_5l1)) ∧ Hid (Apart Aout_5l1 (some ⟨w.heap.size, 0, none⟩)))
      case atStart => exact ⟨_, _, _, _, rfl, rfl, H, HBwr0, kb_0_0__14, Oout_5l0, Lib.hid Dout_5l0_b_0.out⟩
      case round =>
        obtain ⟨out_5l1, col_7l1, Aout_5l1, cout_5l1, rfl, rfl, H, HBwr1, kb_0_0__14, Oout_5l1, Dout_5l1_b_0⟩ := hrel
        rename World => wr1
        cases gk with
        | zero => exact (loop_zero H).elim
        | succ m1 =>
          replace H := loop_succ H
          unfold l1 at H
          replace H := unp2_hid H
          replace H := idx_hid H
          obtain ⟨nt_12, yt_12, et_12, lt_12, gt_12, H⟩ := H
          obtain rfl : 0 = nt_12 := by omega
          clear et_12
          obtain ⟨ab_t_12, ao_t_12, zt_12, At_12, z_t_12, ct_12_0⟩ := strs_at M0.out lt_12
          obtain rfl := Option.some.inj (gt_12.out.symm.trans z_t_12)
          subst At_12
          have ltt_12 := cell_lt ct_12_0
          replace ct_12_0 := cell_below HBwr1.out ct_12_0
          clear z_t_12
          have b1t_12 : (0 : Int) < ((sheet.length : Nat) : Int) := by omega
          have b3t_12 : 0 < sheet.length := by omega
          try simp only [Nat.zero_mul, Nat.add_zero, Nat.zero_add, Nat.reduceMul] at ct_12_0
          replace H := let_hid H
          obtain ⟨t_15, ht_15, H⟩ := H
          cases t_15 with
          | false =>
            replace H := ite_f H
            replace H := app_hid H
            unfold e1 at H
            replace H := unp2_hid H
            replace H := app_hid H
            go_wp2_with fail
            go_roundg m0
            case measure => omega
            case rel => exact ⟨k0 + 1, _, _, _, by omega, by go_num, rfl, H, HBwr1, kb_0_0__14, Oout_5l1, Lib.hid Dout_5l1_b_0.out⟩
          | true =>
            replace H := ite_t H
            replace H := bind_hid H
            obtain ⟨t_20, qt_20, H⟩ := H
            go_wp2_with fail
            go_at_call 67
            refine (Go.Proofs.Ytpcdaoeijlifmaa.GsL4Fits.C fuel (sheet) (b_rows) ((k0 : Int)) (col_7l1) (some ⟨ab_t_12, ao_t_12, none⟩) c0 A1_0 c1_0 _   (Lib.hid (Cells.below M0.out HBwr1.out)) N0 (Lib.hid (Cells.below M1_0.out HBwr1.out)) N1_0 qt_20).mono ?_
            rintro e_t_20 wt_20 ⟨rfl, bt_20⟩
            have HBwt_20 := Lib.hid (Below.step HBwr1.out bt_20)
            replace kb_0_0__14 := cell_below bt_20 kb_0_0__14
            replace ct_12_0 := cell_below bt_20 ct_12_0
            replace Oout_5l1 := Lib.hid (own_below Oout_5l1.out bt_20)
            clear bt_20
            cases t_20 with
            | false =>
              replace H := ite_f H
              replace H := let_hid H
              obtain ⟨t_29, ht_29, H⟩ := H
              replace H := app_hid H
              go_wp2_with fail
              go_roundg m1
              case measure => omega
              case rel => exact ⟨_, _, _, _, rfl, rfl, H, HBwt_20, kb_0_0__14, Oout_5l1, Lib.hid Dout_5l1_b_0.out⟩
            | true =>
              replace H := ite_t H
              obtain ⟨w_t_25, hw_t_25⟩ : ∃ x, wt_20.alloc (.cells #[.int .i64 (k0 : Int), .int .i64 col_7l1] 90) = x := ⟨_, rfl⟩
              have bw_t_25 : Below wt_20.heap.size wt_20 w_t_25 := by rw [← hw_t_25]; exact (Below.refl _ _).alloc (Nat.le_refl _) _
              have HBw_t_25 := Lib.hid (Below.step HBwt_20.out bw_t_25)
              have kb_0_0__15 := cell_below bw_t_25 kb_0_0__14
              have ct_12_0__16 := cell_below bw_t_25 ct_12_0
              replace Oout_5l1 := Lib.hid (own_below Oout_5l1.out bw_t_25)
              clear bw_t_25
              replace H := guard_hid H
              obtain ⟨hlt_26, H⟩ := H
              replace H := let_hid H
              obtain ⟨t_26, ht_26, H⟩ := H
              have hht_26 := Lib.hid ht_26
              clear ht_26
              have hst_26 := HBw_t_25.out.size
              go_wp2_with (at_builtin; refine wpList_append_own_at _ rfl _ _ 39 rfl w.heap.size 90 i0_90 (.agg #[.int .i64 0, .int .i64 0]) 2 16 Try.underlying39 hi_90 hz0_90 hz1_90 hz2_90 rfl (by decide) _ _ _ rfl Oout_5l1.out ⟨wt_20.heap.size, 0, none⟩ 1 1 [.int .i64 (k0 : Int), .int .i64 col_7l1] rfl rfl (news_new hw_t_25) (one_cells rfl) (by unfold maxLen; omega) (by omega) hst_26 ?_; intro vt_26 wt_26 ot_26 gt_26 zt_26 yt_26; clear zt_26; obtain ⟨qt_26, ct_26, rfl, pt_26⟩ := own_push hht_26.out (Go.Proofs.Ytpcdaoeijlifmaa.PIntA2.flat_snoc _ _) rfl ot_26; have Pt_26 := Lib.hid pt_26; have Yt_26 := Lib.hid yt_26; have Gt_26 := Lib.hid gt_26; clear ot_26 gt_26 pt_26 yt_26; refine stop_in ?_)
              refine stop_out ?_
              have HBwt_26 := Lib.hid (HBw_t_25.out.grown Gt_26.out hst_26 (fun q hq => (Oout_5l1.out.lt q hq).1))
              clear hst_26
              have Dt_26_b_0 : Hid (Apart (some ⟨qt_26, 0, none⟩) _) := Lib.hid (apart_app Dout_5l1_b_0.out (fun a_ ha_ => by cases ha_; exact cell_lt kb_0_0__15) Yt_26.out)
              replace kb_0_0__15 := cell_other kb_0_0__15 Gt_26.out Dout_5l1_b_0.out
              replace ct_12_0__16 := cell_other ct_12_0__16 Gt_26.out (apart_old Oout_5l1.out ltt_12)
              clear kb_0_0__14 ct_12_0
              clear Oout_5l1 Yt_26 Gt_26
              replace H := let_hid H
              obtain ⟨t_29, ht_29, H⟩ := H
              replace H := app_hid H
              go_wp2_with fail
              go_roundg m1
              case measure => omega
              case rel => exact ⟨_, _, _, _, rfl, rfl, H, HBwt_26, kb_0_0__15, Pt_26, Lib.hid Dt_26_b_0.out⟩
end Go.Proofs.Ytpcdaoeijlifmaa.GsL4Places

/- loop.example/g01062/spec.IsBlock as a plain function, and the contract of the program's: where the plain one has an answer, the program has it. Conditions: slices read as lists. -/
namespace Go.Proofs.Ytpcdaoeijlifmaa.GsIsBlock
set_option linter.unusedVariables false
set_option linter.unusedSimpArgs false
open Go.RowKit
open Go.Proofs.Ytpcdaoeijlifmaa.Rowed Go.Proofs.Ytpcdaoeijlifmaa.Turn Go.Proofs.Ytpcdaoeijlifmaa.Aid Go.Proofs.Ytpcdaoeijlifmaa.GoP Go.Proofs.Ytpcdaoeijlifmaa.GoM

def P (fuel : Nat) (b_rows : (List ByteArray)) : Option (Bool) :=
  Option.bind (Go.Proofs.Ytpcdaoeijlifmaa.GsL4Rows.P fuel b_rows 3) fun (t_4 : Bool) =>
  some t_4

set_option maxRecDepth 100000 in
set_option maxHeartbeats 2000000 in
theorem C (fuel : Nat) (b_rows : (List ByteArray)) (A0_0 : Option Addr) (c0_0 : Nat)  (w : World) (M0_0 : Hid (Cells w 1 A0_0 b_rows.length (b_rows.map Value.string))) (N0_0 : Hid (b_rows.length ≤ 9223372036854775807))  {r : Bool} (H : Hid (P fuel b_rows = some r)) :
    Calls Try.prog 60 #[.agg #[.slice A0_0 b_rows.length c0_0]] w (Gives (.bool r) w) := by
  have HB := Lib.hid (Below.refl w.heap.size w)
  unfold P at H
  have N0_0o := N0_0.out
  go_enter Try.func60, Try.ntmps60
  obtain ⟨w_b_0, hw_b_0⟩ : ∃ x, w.alloc (.cells #[.slice A0_0 b_rows.length c0_0] 43) = x := ⟨_, rfl⟩
  have bw_b_0 : Below w.heap.size w w_b_0 := by rw [← hw_b_0]; exact (Below.refl _ _).alloc (Nat.le_refl _) _
  have HBw_b_0 := Lib.hid (Below.step HB.out bw_b_0)
  clear bw_b_0
  have kb_0_0 : w_b_0.cell? ⟨w.heap.size, 0, none⟩ = some (.slice A0_0 b_rows.length c0_0) := by rw [← hw_b_0]; exact box_new _ _ _ 0 _ rfl
  replace H := bind_hid H
  obtain ⟨t_4, qt_4, H⟩ := H
  go_wp2_with fail
  go_at_call 95
  refine (Go.Proofs.Ytpcdaoeijlifmaa.GsL4Rows.C fuel (b_rows) (3) A0_0 c0_0 _   (Lib.hid (Cells.below M0_0.out HBw_b_0.out)) N0_0 qt_4).mono ?_
  rintro e_t_4 wt_4 ⟨rfl, bt_4⟩
  have HBwt_4 := Lib.hid (Below.step HBw_b_0.out bt_4)
  replace kb_0_0 := cell_below bt_4 kb_0_0
  clear bt_4
  obtain rfl := ret_hid H
  go_wp2_with fail
  go_ret
  exact ⟨rfl, HBwt_4.out⟩
end Go.Proofs.Ytpcdaoeijlifmaa.GsIsBlock

/- loop.example/g01062/spec.PlacesFor as a plain function, and the contract of the program's: where the plain one has an answer, the program has it. Conditions: slices read as lists. -/
namespace Go.Proofs.Ytpcdaoeijlifmaa.GsPlacesFor
set_option linter.unusedVariables false
set_option linter.unusedSimpArgs false
open Go.RowKit
open Go.Proofs.Ytpcdaoeijlifmaa.Rowed Go.Proofs.Ytpcdaoeijlifmaa.Turn Go.Proofs.Ytpcdaoeijlifmaa.Aid Go.Proofs.Ytpcdaoeijlifmaa.GoP Go.Proofs.Ytpcdaoeijlifmaa.GoM

def P (fuel : Nat) (sheet : (List ByteArray)) (b_rows : (List ByteArray)) : Option ((List Go.Proofs.Ytpcdaoeijlifmaa.PIntA2.IntA2) × Bool) :=
  Option.bind (Go.Proofs.Ytpcdaoeijlifmaa.GsIsSheet.P fuel sheet) fun (t_4 : Bool) =>
  letK (!t_4) fun (t_5 : Bool) =>
  joinK (fun (t_10 : Bool) =>
  iteK t_10
  (some (([] : List Go.Proofs.Ytpcdaoeijlifmaa.PIntA2.IntA2), false))
  (Option.bind (Go.Proofs.Ytpcdaoeijlifmaa.GsL4Places.P fuel sheet b_rows) fun (t_16 : (List Go.Proofs.Ytpcdaoeijlifmaa.PIntA2.IntA2)) =>
  some (t_16, true))) fun jt_10 => iteK t_5 (appK jt_10 true) (Option.bind (Go.Proofs.Ytpcdaoeijlifmaa.GsIsBlock.P fuel b_rows) fun (t_8 : Bool) =>
  letK (!t_8) fun (t_9 : Bool) =>
  appK jt_10 t_9)

set_option maxRecDepth 100000 in
set_option maxHeartbeats 2000000 in
theorem C (fuel : Nat) (sheet : (List ByteArray)) (b_rows : (List ByteArray)) (A0 : Option Addr) (c0 : Nat) (A1_0 : Option Addr) (c1_0 : Nat)  (w : World) (M0 : Hid (Cells w 1 A0 sheet.length (sheet.map Value.string))) (N0 : Hid (sheet.length ≤ 9223372036854775807)) (M1_0 : Hid (Cells w 1 A1_0 b_rows.length (b_rows.map Value.string))) (N1_0 : Hid (b_rows.length ≤ 9223372036854775807))  {r0 : (List Go.Proofs.Ytpcdaoeijlifmaa.PIntA2.IntA2)} {r1 : Bool} (H : Hid (P fuel sheet b_rows = some (r0, r1))) :
    Calls Try.prog 20 #[.slice A0 sheet.length c0, .agg #[.slice A1_0 b_rows.length c1_0]] w (fun e w' => ∃ A_r0 c_r0, e = .returned (.tuple #[.slice A_r0 r0.length c_r0, .bool r1]) ∧ w'.ownsRow w.heap.size 90 2 (.slice A_r0 r0.length c_r0) r0.length (Go.Proofs.Ytpcdaoeijlifmaa.PIntA2.flat r0) ∧ Below w.heap.size w w') := by
  have HB := Lib.hid (Below.refl w.heap.size w)
  unfold P at H
  have N0o := N0.out
  have N1_0o := N1_0.out
  go_enter Try.func20, Try.ntmps20
  obtain ⟨w_b_0, hw_b_0⟩ : ∃ x, w.alloc (.cells #[.slice A1_0 b_rows.length c1_0] 43) = x := ⟨_, rfl⟩
  have bw_b_0 : Below w.heap.size w w_b_0 := by rw [← hw_b_0]; exact (Below.refl _ _).alloc (Nat.le_refl _) _
  have HBw_b_0 := Lib.hid (Below.step HB.out bw_b_0)
  clear bw_b_0
  have kb_0_0 : w_b_0.cell? ⟨w.heap.size, 0, none⟩ = some (.slice A1_0 b_rows.length c1_0) := by rw [← hw_b_0]; exact box_new _ _ _ 0 _ rfl
  replace H := bind_hid H
  obtain ⟨t_4, qt_4, H⟩ := H
  go_wp2_with fail
  go_at_call 59
  refine (Go.Proofs.Ytpcdaoeijlifmaa.GsIsSheet.C fuel (sheet) A0 c0 _   (Lib.hid (Cells.below M0.out HBw_b_0.out)) N0 qt_4).mono ?_
  rintro e_t_4 wt_4 ⟨rfl, bt_4⟩
  have HBwt_4 := Lib.hid (Below.step HBw_b_0.out bt_4)
  replace kb_0_0 := cell_below bt_4 kb_0_0
  clear bt_4
  cases t_4 with
  | false =>
    replace H := let_hid H
    obtain ⟨t_5, ht_5, H⟩ := H
    obtain rfl : t_5 = true := ht_5.symm
    replace H := join_hid H
    replace H := ite_t H
    replace H := app_hid H
    replace H := ite_t H
    obtain ⟨w_t_11, hw_t_11⟩ : ∃ x, wt_4.alloc (.cells #[] 90) = x := ⟨_, rfl⟩
    have bw_t_11 : Below wt_4.heap.size wt_4 w_t_11 := by rw [← hw_t_11]; exact (Below.refl _ _).alloc (Nat.le_refl _) _
    have Ot_11 : Hid (w_t_11.ownsRow w.heap.size 90 2 (.slice (some ⟨wt_4.heap.size, 0, none⟩) 0 0) 0 []) := Lib.hid (by rw [← hw_t_11]; exact own_empty HBwt_4.out.size)
    have Dt_11_b_0 := Lib.hid (apart_box kb_0_0)
    have HBw_t_11 := Lib.hid (Below.step HBwt_4.out bw_t_11)
    have kb_0_0__17 := cell_below bw_t_11 kb_0_0
    clear bw_t_11
    cases ret_hid H
    go_wp2_with fail
    go_ret2
    exact ⟨(some ⟨wt_4.heap.size, 0, none⟩), 0, rfl, Ot_11.out, HBw_t_11.out⟩
  | true =>
    replace H := let_hid H
    obtain ⟨t_5, ht_5, H⟩ := H
    obtain rfl : t_5 = false := ht_5.symm
    replace H := join_hid H
    replace H := ite_f H
    replace H := bind_hid H
    obtain ⟨t_8, qt_8, H⟩ := H
    go_wp2_with fail
    go_at_call 60
    refine (Go.Proofs.Ytpcdaoeijlifmaa.GsIsBlock.C fuel (b_rows) A1_0 c1_0 _   (Lib.hid (Cells.below M1_0.out HBwt_4.out)) N1_0 qt_8).mono ?_
    rintro e_t_8 wt_8 ⟨rfl, bt_8⟩
    have HBwt_8 := Lib.hid (Below.step HBwt_4.out bt_8)
    replace kb_0_0 := cell_below bt_8 kb_0_0
    clear bt_8
    cases t_8 with
    | false =>
      replace H := let_hid H
      obtain ⟨t_9, ht_9, H⟩ := H
      obtain rfl : t_9 = true := ht_9.symm
      replace H := app_hid H
      replace H := ite_t H
      obtain ⟨w_t_11, hw_t_11⟩ : ∃ x, wt_8.alloc (.cells #[] 90) = x := ⟨_, rfl⟩
      have bw_t_11 : Below wt_8.heap.size wt_8 w_t_11 := by rw [← hw_t_11]; exact (Below.refl _ _).alloc (Nat.le_refl _) _
      have Ot_11 : Hid (w_t_11.ownsRow w.heap.size 90 2 (.slice (some ⟨wt_8.heap.size, 0, none⟩) 0 0) 0 []) := Lib.hid (by rw [← hw_t_11]; exact own_empty HBwt_8.out.size)
      have Dt_11_b_0 := Lib.hid (apart_box kb_0_0)
      have HBw_t_11 := Lib.hid (Below.step HBwt_8.out bw_t_11)
      have kb_0_0__18 := cell_below bw_t_11 kb_0_0
      clear bw_t_11
      cases ret_hid H
      go_wp2_with fail
      go_ret2
      exact ⟨(some ⟨wt_8.heap.size, 0, none⟩), 0, rfl, Ot_11.out, HBw_t_11.out⟩
    | true =>
      replace H := let_hid H
      obtain ⟨t_9, ht_9, H⟩ := H
      obtain rfl : t_9 = false := ht_9.symm
      replace H := app_hid H
      replace H := ite_f H
      replace H := bind_hid H
      obtain ⟨t_16, qt_16, H⟩ := H
      go_wp2_with fail
      go_at_call 61
      refine (Go.Proofs.Ytpcdaoeijlifmaa.GsL4Places.C fuel (sheet) (b_rows) A0 c0 A1_0 c1_0 _   (Lib.hid (Cells.below M0.out HBwt_8.out)) N0 (Lib.hid (Cells.below M1_0.out HBwt_8.out)) N1_0 qt_16).mono ?_
      rintro e_t_16 wt_16 ⟨At_16, ct_16, rfl, ot_16, bt_16⟩
      have Dt_16_b_0 := Lib.hid (apart_callbox ot_16 kb_0_0)
      have Ot_16 := Lib.hid (own_lower ot_16 HBwt_8.out.size)
      clear ot_16
      have HBwt_16 := Lib.hid (Below.step HBwt_8.out bt_16)
      replace kb_0_0 := cell_below bt_16 kb_0_0
      clear bt_16
      cases ret_hid H
      go_wp2_with fail
      go_ret2
      exact ⟨At_16, ct_16, rfl, Ot_16.out, HBwt_16.out⟩
end Go.Proofs.Ytpcdaoeijlifmaa.GsPlacesFor

/- loop.example/g01062/impl.within as a plain function, and the contract of the program's: where the plain one has an answer, the program has it. Conditions: slices read as lists. -/
namespace Go.Proofs.Ytpcdaoeijlifmaa.GiWithin
set_option linter.unusedVariables false
set_option linter.unusedSimpArgs false
open Go.RowKit
open Go.Proofs.Ytpcdaoeijlifmaa.Rowed Go.Proofs.Ytpcdaoeijlifmaa.Turn Go.Proofs.Ytpcdaoeijlifmaa.Aid Go.Proofs.Ytpcdaoeijlifmaa.GoP Go.Proofs.Ytpcdaoeijlifmaa.GoM

def P (n_0 : Int) (low : Int) (high : Int) : Option (Bool) :=
  letK (decide (low ≤ n_0)) fun (t_3 : Bool) =>
  joinK (fun (t_8 : Bool) =>
  some t_8) fun jt_8 => iteK t_3 (letK (decide (n_0 ≤ high)) fun (t_7 : Bool) =>
  appK jt_8 t_7) (appK jt_8 false)

set_option maxRecDepth 100000 in
set_option maxHeartbeats 2000000 in
theorem C (n_0 : Int) (low : Int) (high : Int)   (w : World)   {r : Bool} (H : Hid (P n_0 low high = some r)) :
    Calls Try.prog 88 #[.int .i64 n_0, .int .i64 low, .int .i64 high] w (Gives (.bool r) w) := by
  have HB := Lib.hid (Below.refl w.heap.size w)
  unfold P at H
  go_enter Try.func88, Try.ntmps88
  replace H := let_hid H
  obtain ⟨t_3, ht_3, H⟩ := H
  replace H := join_hid H
  cases t_3 with
  | false =>
    replace H := ite_f H
    replace H := app_hid H
    obtain rfl := ret_hid H
    go_wp2_with fail
    go_ret
    exact ⟨rfl, HB.out⟩
  | true =>
    replace H := ite_t H
    replace H := let_hid H
    obtain ⟨t_7, ht_7, H⟩ := H
    replace H := app_hid H
    obtain rfl := ret_hid H
    go_wp2_with fail
    go_ret
    exact ⟨rfl, HB.out⟩

set_option maxRecDepth 100000 in
set_option maxHeartbeats 2000000 in
theorem C0 (n_0 : Int) (low : Int) (high : Int)   (w : World)   {r : Bool} (H : Hid (P n_0 low high = some r)) :
    Calls Try.prog 88 #[.int .i64 n_0, .int .i64 low, .int .i64 high] w (fun e w'' => e = .returned (.bool r) ∧ w'' = w) := by
  have HB := Lib.hid (Below.refl w.heap.size w)
  unfold P at H
  go_enter Try.func88, Try.ntmps88
  replace H := let_hid H
  obtain ⟨t_3, ht_3, H⟩ := H
  replace H := join_hid H
  cases t_3 with
  | false =>
    replace H := ite_f H
    replace H := app_hid H
    obtain rfl := ret_hid H
    go_wp2_with fail
    go_ret
    exact ⟨rfl, rfl⟩
  | true =>
    replace H := ite_t H
    replace H := let_hid H
    obtain ⟨t_7, ht_7, H⟩ := H
    replace H := app_hid H
    obtain rfl := ret_hid H
    go_wp2_with fail
    go_ret
    exact ⟨rfl, rfl⟩
end Go.Proofs.Ytpcdaoeijlifmaa.GiWithin

/- loop.example/g01062/impl.isLetter as a plain function, and the contract of the program's: where the plain one has an answer, the program has it. Conditions: slices read as lists. -/
namespace Go.Proofs.Ytpcdaoeijlifmaa.GiIsLetter
set_option linter.unusedVariables false
set_option linter.unusedSimpArgs false
open Go.RowKit
open Go.Proofs.Ytpcdaoeijlifmaa.Rowed Go.Proofs.Ytpcdaoeijlifmaa.Turn Go.Proofs.Ytpcdaoeijlifmaa.Aid Go.Proofs.Ytpcdaoeijlifmaa.GoP Go.Proofs.Ytpcdaoeijlifmaa.GoM

def P (c : Int) : Option (Bool) :=
  letK (decide (97 ≤ c)) fun (t_2 : Bool) =>
  joinK (fun (t_6 : Bool) =>
  some t_6) fun jt_6 => iteK t_2 (letK (decide (c ≤ 122)) fun (t_5 : Bool) =>
  appK jt_6 t_5) (appK jt_6 false)

set_option maxRecDepth 100000 in
set_option maxHeartbeats 2000000 in
theorem C (c : Int)   (w : World)   {r : Bool} (H : Hid (P c = some r)) :
    Calls Try.prog 117 #[.int .u8 c] w (Gives (.bool r) w) := by
  have HB := Lib.hid (Below.refl w.heap.size w)
  unfold P at H
  go_enter Try.func117, Try.ntmps117
  replace H := let_hid H
  obtain ⟨t_2, ht_2, H⟩ := H
  replace H := join_hid H
  cases t_2 with
  | false =>
    replace H := ite_f H
    replace H := app_hid H
    obtain rfl := ret_hid H
    go_wp2_with fail
    go_ret
    exact ⟨rfl, HB.out⟩
  | true =>
    replace H := ite_t H
    replace H := let_hid H
    obtain ⟨t_5, ht_5, H⟩ := H
    replace H := app_hid H
    obtain rfl := ret_hid H
    go_wp2_with fail
    go_ret
    exact ⟨rfl, HB.out⟩

set_option maxRecDepth 100000 in
set_option maxHeartbeats 2000000 in
theorem C0 (c : Int)   (w : World)   {r : Bool} (H : Hid (P c = some r)) :
    Calls Try.prog 117 #[.int .u8 c] w (fun e w'' => e = .returned (.bool r) ∧ w'' = w) := by
  have HB := Lib.hid (Below.refl w.heap.size w)
  unfold P at H
  go_enter Try.func117, Try.ntmps117
  replace H := let_hid H
  obtain ⟨t_2, ht_2, H⟩ := H
  replace H := join_hid H
  cases t_2 with
  | false =>
    replace H := ite_f H
    replace H := app_hid H
    obtain rfl := ret_hid H
    go_wp2_with fail
    go_ret
    exact ⟨rfl, rfl⟩
  | true =>
    replace H := ite_t H
    replace H := let_hid H
    obtain ⟨t_5, ht_5, H⟩ := H
    replace H := app_hid H
    obtain rfl := ret_hid H
    go_wp2_with fail
    go_ret
    exact ⟨rfl, rfl⟩
end Go.Proofs.Ytpcdaoeijlifmaa.GiIsLetter

/- loop.example/g01062/impl.areRows as a plain function, and the contract of the program's: where the plain one has an answer, the program has it. Conditions: slices read as lists. -/
namespace Go.Proofs.Ytpcdaoeijlifmaa.GiAreRows
set_option linter.unusedVariables false
set_option linter.unusedSimpArgs false
open Go.RowKit
open Go.Proofs.Ytpcdaoeijlifmaa.Rowed Go.Proofs.Ytpcdaoeijlifmaa.Turn Go.Proofs.Ytpcdaoeijlifmaa.Aid Go.Proofs.Ytpcdaoeijlifmaa.GoP Go.Proofs.Ytpcdaoeijlifmaa.GoM

def l1 (yt_20 : ByteArray) (k1 : Nat) (s : Unit) (nx1 bk1 : Unit → Option (Bool)) : Option (Bool) :=
  
  Option.bind (idx yt_20.toList (k1 : Int)) fun (yt_39 : UInt8) =>
  letK ((yt_39.toNat : Int)) fun (t_39 : Int) =>
  letK (t_39 != 46) fun (t_40 : Bool) =>
  joinK (fun (t_47 : Bool) =>
  iteK t_47
  (some false)
  (appK nx1 ())) fun jt_47 => iteK t_40 (Option.bind (idx yt_20.toList (k1 : Int)) fun (yt_44 : UInt8) =>
  letK ((yt_44.toNat : Int)) fun (t_44 : Int) =>
  Option.bind (Go.Proofs.Ytpcdaoeijlifmaa.GiIsLetter.P t_44) fun (t_45 : Bool) =>
  letK (!t_45) fun (t_46 : Bool) =>
  appK jt_47 t_46) (appK jt_47 false)

def e1 (nx0 : (Unit) → Option (Bool)) (s : Unit) : Option (Bool) :=
  
  appK nx0 ()

def l0 (rows : (List ByteArray)) (k0 : Nat) (s : Unit) (nx0 bk0 : Unit → Option (Bool)) : Option (Bool) :=
  
  Option.bind (idx rows (k0 : Int)) fun (yt_20 : ByteArray) =>
  Option.bind (idx rows 0) fun (yt_26 : ByteArray) =>
  letK ((yt_20.size : Int) != (yt_26.size : Int)) fun (t_29 : Bool) =>
  iteK t_29
  (some false)
  (guardK (yt_20.size ≤ 9223372036854775807) <|
  cntK (l1 yt_20) (yt_20.size) 0 () (e1 nx0))

def e0  (s : Unit) : Option (Bool) :=
  
  some true

def P (rows : (List ByteArray)) (most : Int) : Option (Bool) :=
  Option.bind (Go.Proofs.Ytpcdaoeijlifmaa.GiWithin.P (rows.length : Int) 1 most) fun (t_4 : Bool) =>
  letK (!t_4) fun (t_5 : Bool) =>
  joinK (fun (t_14 : Bool) =>
  iteK t_14
  (some false)
  (cntK (l0 rows) (rows.length) 0 () (e0 ))) fun jt_14 => iteK t_5 (appK jt_14 true) (Option.bind (idx rows 0) fun (yt_8 : ByteArray) =>
  Option.bind (Go.Proofs.Ytpcdaoeijlifmaa.GiWithin.P (yt_8.size : Int) 1 most) fun (t_12 : Bool) =>
  letK (!t_12) fun (t_13 : Bool) =>
  appK jt_14 t_13)

set_option maxRecDepth 100000 in
set_option maxHeartbeats 2000000 in
theorem C (rows : (List ByteArray)) (most : Int) (A0 : Option Addr) (c0 : Nat)  (w : World) (M0 : Hid (Cells w 1 A0 rows.length (rows.map Value.string))) (N0 : Hid (rows.length ≤ 9223372036854775807))  {r : Bool} (H : Hid (P rows most = some r)) :
    Calls Try.prog 96 #[.slice A0 rows.length c0, .int .i64 most] w (Gives (.bool r) w) := by
  have HB := Lib.hid (Below.refl w.heap.size w)
  unfold P at H
  have N0o := N0.out
  go_enter Try.func96, Try.ntmps96
  replace H := bind_hid H
  obtain ⟨t_4, qt_4, H⟩ := H
  go_wp2_with fail
  go_at_call 88
  refine (Go.Proofs.Ytpcdaoeijlifmaa.GiWithin.C ((rows.length : Int)) (1) (most)  _    qt_4).mono ?_
  rintro e_t_4 wt_4 ⟨rfl, bt_4⟩
  have HBwt_4 := Lib.hid (Below.step HB.out bt_4)
  clear bt_4
  cases t_4 with
  | false =>
    replace H := let_hid H
    obtain ⟨t_5, ht_5, H⟩ := H
    obtain rfl : t_5 = true := ht_5.symm
    replace H := join_hid H
    replace H := ite_t H
    replace H := app_hid H
    replace H := ite_t H
    obtain rfl := ret_hid H
    go_wp2_with fail
    go_ret
    exact ⟨rfl, HBwt_4.out⟩
  | true =>
    replace H := let_hid H
    obtain ⟨t_5, ht_5, H⟩ := H
    obtain rfl : t_5 = false := ht_5.symm
    replace H := join_hid H
    replace H := ite_f H
    replace H := idx_hid H
    obtain ⟨nt_8, yt_8, et_8, lt_8, gt_8, H⟩ := H
    obtain rfl : 0 = nt_8 := by omega
    clear et_8
    obtain ⟨ab_t_8, ao_t_8, zt_8, At_8, z_t_8, ct_8_0⟩ := strs_at M0.out lt_8
    obtain rfl := Option.some.inj (gt_8.out.symm.trans z_t_8)
    subst At_8
    have ltt_8 := cell_lt ct_8_0
    replace ct_8_0 := cell_below HBwt_4.out ct_8_0
    clear z_t_8
    have b1t_8 : (0 : Int) < ((rows.length : Nat) : Int) := by omega
    have b3t_8 : 0 < rows.length := by omega
    try simp only [Nat.zero_mul, Nat.add_zero, Nat.zero_add, Nat.reduceMul] at ct_8_0
    replace H := bind_hid H
    obtain ⟨t_12, qt_12, H⟩ := H
    go_wp2_with fail
    go_at_call 88
    refine (Go.Proofs.Ytpcdaoeijlifmaa.GiWithin.C ((yt_8.size : Int)) (1) (most)  _    qt_12).mono ?_
    rintro e_t_12 wt_12 ⟨rfl, bt_12⟩
    have HBwt_12 := Lib.hid (Below.step HBwt_4.out bt_12)
    replace ct_8_0 := cell_below bt_12 ct_8_0
    clear bt_12
    cases t_12 with
    | false =>
      replace H := let_hid H
      obtain ⟨t_13, ht_13, H⟩ := H
      obtain rfl : t_13 = true := ht_13.symm
      replace H := app_hid H
      replace H := ite_t H
      obtain rfl := ret_hid H
      go_wp2_with fail
      go_ret
      exact ⟨rfl, HBwt_12.out⟩
    | true =>
      replace H := let_hid H
      obtain ⟨t_13, ht_13, H⟩ := H
      obtain rfl : t_13 = false := ht_13.symm
      replace H := app_hid H
      replace H := ite_f H
      go_wp2_with fail
      go_loopg [24] (rows.length) (fun m_ v24_ wr => ∃ (k0 : Nat) , k0 + m_ = rows.length ∧ v24_ = .int .i64 (k0 : Int) ∧ Hid (cntK (l0 rows) m_ k0 () (e0 ) = some r) ∧ Hid (Below w.heap.size w wr))
      case atStart => exact ⟨0, by omega, rfl, H, HBwt_12⟩
      case round =>
        obtain ⟨k0, hkm0, rfl, H, HBwr0⟩ := hrel
        rename World => wr0
        cases gk with
        | zero =>
          obtain rfl : k0 = rows.length := by omega
          have hc0 : decide (((rows.length : Nat) : Int) < ((rows.length : Nat) : Int)) = false := by simp
          replace H := cnt_zero H
          unfold e0 at H
          obtain rfl := ret_hid H
          go_wp2_with fail
          go_ret
          exact ⟨rfl, HBwr0.out⟩
        | succ m0 =>
          have hlt0 : k0 < rows.length := by omega
          have hc0 : decide ((k0 : Int) < ((rows.length : Nat) : Int)) = true := by simp; omega
          replace H := cnt_succ H
          unfold l0 at H
          replace H := idx_hid H
          obtain ⟨nt_20, yt_20, et_20, lt_20, gt_20, H⟩ := H
          obtain rfl : k0 = nt_20 := by omega
          clear et_20
          obtain ⟨ab_t_20, ao_t_20, zt_20, At_20, z_t_20, ct_20_0⟩ := strs_at M0.out lt_20
          obtain rfl := Option.some.inj (gt_20.out.symm.trans z_t_20)
          simp only [Option.some.injEq, Addr.mk.injEq] at At_20
          obtain ⟨rfl, rfl, _⟩ := At_20
          have ltt_20 := cell_lt ct_20_0
          replace ct_20_0 := cell_below HBwr0.out ct_20_0
          clear z_t_20
          have b0t_20 : (0 : Int) ≤ (k0 : Int) := by omega
          have b1t_20 : (k0 : Int) < ((rows.length : Nat) : Int) := by omega
          have b2t_20 : ((k0 : Int)).toNat = k0 := by omega
          replace H := idx_hid H
          obtain ⟨nt_26, yt_26, et_26, lt_26, gt_26, H⟩ := H
          obtain rfl : 0 = nt_26 := by omega
          clear et_26
          obtain ⟨ab_t_26, ao_t_26, zt_26, At_26, z_t_26, ct_26_0⟩ := strs_at M0.out lt_26
          obtain rfl := Option.some.inj (gt_26.out.symm.trans z_t_26)
          simp only [Option.some.injEq, Addr.mk.injEq] at At_26
          obtain ⟨rfl, rfl, _⟩ := At_26
          have ltt_26 := cell_lt ct_26_0
          replace ct_26_0 := cell_below HBwr0.out ct_26_0
          clear z_t_26
          have b1t_26 : (0 : Int) < ((rows.length : Nat) : Int) := by omega
          have b3t_26 : 0 < rows.length := by omega
          try simp only [Nat.zero_mul, Nat.add_zero, Nat.zero_add, Nat.reduceMul] at ct_26_0
          replace H := let_hid H
          obtain ⟨t_29, ht_29, H⟩ := H
          cases t_29 with
          | false =>
            have Hht_29 : Hid (yt_20.size = yt_26.size) := Lib.hid (by have := bne_eq_false_iff_eq.1 ht_29; omega)
            have nht_29 : (yt_20.size == yt_26.size) = true := beq_iff_eq.2 Hht_29.out
            replace H := ite_f H
            replace H := guard_hid H
            obtain ⟨hg1, H⟩ := H
            go_wp2_with fail
            go_loopg [37] (yt_20.size) (fun m_ v37_ wr => ∃ (k1 : Nat) , k1 + m_ = yt_20.size ∧ v37_ = .int .i64 (k1 : Int) ∧ Hid (cntK (l1 yt_20) m_ k1 () (e1 (fun s' => cntK (l0 rows) m0 (k0 + 1) s' (e0 ))) = some r) ∧ Hid (Below w.heap.size w wr))
            case atStart => exact ⟨0, by omega, rfl, H, HBwr0⟩
            case round =>
              obtain ⟨k1, hkm1, rfl, H, HBwr1⟩ := hrel
              rename World => wr1
              cases gk with
              | zero =>
                obtain rfl : k1 = yt_20.size := by omega
                have hc1 : decide (((yt_20.size : Nat) : Int) < ((yt_20.size : Nat) : Int)) = false := by simp
                replace H := cnt_zero H
                unfold e1 at H
                replace H := app_hid H
                go_wp2_with fail
                go_roundg m0
                case measure => omega
                case rel => exact ⟨k0 + 1, by omega, by go_num, H, HBwr1⟩
              | succ m1 =>
                have hlt1 : k1 < yt_20.size := by omega
                have hc1 : decide ((k1 : Int) < ((yt_20.size : Nat) : Int)) = true := by simp; omega
                replace H := cnt_succ H
                unfold l1 at H
                replace H := idx_hid H
                obtain ⟨nt_39, yt_39, et_39, lt_39, gt_39, H⟩ := H
                obtain rfl : k1 = nt_39 := by omega
                clear et_39
                have rt_39 := byte_rule lt_39 gt_39.out
                have b0t_39 : (0 : Int) ≤ (k1 : Int) := by omega
                have b1t_39 : (k1 : Int) < (yt_20.size : Int) := by have := size_list yt_20; omega
                have b2t_39 : ((k1 : Int)).toNat = k1 := by omega
                have b3t_39 : k1 < yt_20.size := by have := size_list yt_20; omega
                replace H := let_hid H
                obtain ⟨t_39, ht_39, H⟩ := H
                replace H := let_hid H
                obtain ⟨t_40, ht_40, H⟩ := H
                replace H := join_hid H
                cases t_40 with
                | false =>
                  replace H := ite_f H
                  replace H := app_hid H
                  replace H := ite_f H
                  replace H := app_hid H
                  go_wp2_with fail
                  go_roundg m1
                  case measure => omega
                  case rel => exact ⟨k1 + 1, by omega, by go_num, H, HBwr1⟩
                | true =>
                  replace H := ite_t H
                  replace H := idx_hid H
                  obtain ⟨nt_44, yt_44, et_44, lt_44, gt_44, H⟩ := H
                  obtain rfl : k1 = nt_44 := by omega
                  clear et_44
                  obtain rfl := Option.some.inj (gt_39.out.symm.trans gt_44.out)
                  clear gt_44 lt_44
                  replace H := let_hid H
                  obtain ⟨t_44, ht_44, H⟩ := H
                  obtain rfl := ht_39.symm.trans ht_44
                  replace H := bind_hid H
                  obtain ⟨t_45, qt_45, H⟩ := H
                  go_wp2_with fail
                  go_at_call 117
                  refine (Go.Proofs.Ytpcdaoeijlifmaa.GiIsLetter.C (t_39)  _    qt_45).mono ?_
                  rintro e_t_45 wt_45 ⟨rfl, bt_45⟩
                  have HBwt_45 := Lib.hid (Below.step HBwr1.out bt_45)
                  clear bt_45
                  cases t_45 with
                  | false =>
                    replace H := let_hid H
                    obtain ⟨t_46, ht_46, H⟩ := H
                    obtain rfl : t_46 = true := ht_46.symm
                    replace H := app_hid H
                    replace H := ite_t H
                    obtain rfl := ret_hid H
                    go_wp2_with fail
                    go_ret
                    exact ⟨rfl, HBwt_45.out⟩
                  | true =>
                    replace H := let_hid H
                    obtain ⟨t_46, ht_46, H⟩ := H
                    obtain rfl : t_46 = false := ht_46.symm
                    replace H := app_hid H
                    replace H := ite_f H
                    replace H := app_hid H
                    go_wp2_with fail
                    go_roundg m1
                    case measure => omega
                    case rel => exact ⟨k1 + 1, by omega, by go_num, H, HBwt_45⟩
          | true =>
            have nht_29 : ¬ (yt_20.size = yt_26.size) := by have := bne_iff_ne.1 ht_29; omega
            replace H := ite_t H
            obtain rfl := ret_hid H
            go_wp2_with fail
            go_ret
            exact ⟨rfl, HBwr0.out⟩
end Go.Proofs.Ytpcdaoeijlifmaa.GiAreRows

/- loop.example/g01062/impl.IsSheet as a plain function, and the contract of the program's: where the plain one has an answer, the program has it. Conditions: slices read as lists. -/
namespace Go.Proofs.Ytpcdaoeijlifmaa.GiIsSheet
set_option linter.unusedVariables false
set_option linter.unusedSimpArgs false
open Go.RowKit
open Go.Proofs.Ytpcdaoeijlifmaa.Rowed Go.Proofs.Ytpcdaoeijlifmaa.Turn Go.Proofs.Ytpcdaoeijlifmaa.Aid Go.Proofs.Ytpcdaoeijlifmaa.GoP Go.Proofs.Ytpcdaoeijlifmaa.GoM

def P (sheet : (List ByteArray)) : Option (Bool) :=
  Option.bind (Go.Proofs.Ytpcdaoeijlifmaa.GiAreRows.P sheet 5) fun (t_2 : Bool) =>
  some t_2

set_option maxRecDepth 100000 in
set_option maxHeartbeats 2000000 in
theorem C (sheet : (List ByteArray)) (A0 : Option Addr) (c0 : Nat)  (w : World) (M0 : Hid (Cells w 1 A0 sheet.length (sheet.map Value.string))) (N0 : Hid (sheet.length ≤ 9223372036854775807))  {r : Bool} (H : Hid (P sheet = some r)) :
    Calls Try.prog 62 #[.slice A0 sheet.length c0] w (Gives (.bool r) w) := by
  have HB := Lib.hid (Below.refl w.heap.size w)
  unfold P at H
  have N0o := N0.out
  go_enter Try.func62, Try.ntmps62
  replace H := bind_hid H
  obtain ⟨t_2, qt_2, H⟩ := H
  go_wp2_with fail
  go_at_call 96
  refine (Go.Proofs.Ytpcdaoeijlifmaa.GiAreRows.C (sheet) (5) A0 c0 _   (Lib.hid (Cells.below M0.out HB.out)) N0 qt_2).mono ?_
  rintro e_t_2 wt_2 ⟨rfl, bt_2⟩
  have HBwt_2 := Lib.hid (Below.step HB.out bt_2)
  clear bt_2
  obtain rfl := ret_hid H
  go_wp2_with fail
  go_ret
  exact ⟨rfl, HBwt_2.out⟩
end Go.Proofs.Ytpcdaoeijlifmaa.GiIsSheet

/- loop.example/g01062/impl.seenAt as a plain function, and the contract of the program's: where the plain one has an answer, the program has it. Conditions: slices read as lists. -/
namespace Go.Proofs.Ytpcdaoeijlifmaa.GiSeenAt
set_option linter.unusedVariables false
set_option linter.unusedSimpArgs false
open Go.RowKit
open Go.Proofs.Ytpcdaoeijlifmaa.Rowed Go.Proofs.Ytpcdaoeijlifmaa.Turn Go.Proofs.Ytpcdaoeijlifmaa.Aid Go.Proofs.Ytpcdaoeijlifmaa.GoP Go.Proofs.Ytpcdaoeijlifmaa.GoM

def P (rows : (List ByteArray)) (row_1 : Int) (col : Int) : Option (Int) :=
  letK (IntKind.i64.wrap ((rows.length : Int) - 1)) fun (t_4 : Int) =>
  Option.bind (Go.Proofs.Ytpcdaoeijlifmaa.GiWithin.P row_1 0 t_4) fun (t_5 : Bool) =>
  letK (!t_5) fun (t_6 : Bool) =>
  joinK (fun (t_17 : Bool) =>
  iteK t_17
  (some 46)
  (Option.bind (idx rows row_1) fun (yt_21 : ByteArray) =>
  Option.bind (idx yt_21.toList col) fun (yt_24 : UInt8) =>
  letK ((yt_24.toNat : Int)) fun (t_24 : Int) =>
  some t_24)) fun jt_17 => iteK t_6 (appK jt_17 true) (Option.bind (idx rows row_1) fun (yt_11 : ByteArray) =>
  letK (IntKind.i64.wrap ((yt_11.size : Int) - 1)) fun (t_14 : Int) =>
  Option.bind (Go.Proofs.Ytpcdaoeijlifmaa.GiWithin.P col 0 t_14) fun (t_15 : Bool) =>
  letK (!t_15) fun (t_16 : Bool) =>
  appK jt_17 t_16)

set_option maxRecDepth 100000 in
set_option maxHeartbeats 2000000 in
theorem C (rows : (List ByteArray)) (row_1 : Int) (col : Int) (A0 : Option Addr) (c0 : Nat)  (w : World) (M0 : Hid (Cells w 1 A0 rows.length (rows.map Value.string))) (N0 : Hid (rows.length ≤ 9223372036854775807))  {r : Int} (H : Hid (P rows row_1 col = some r)) :
    Calls Try.prog 118 #[.slice A0 rows.length c0, .int .i64 row_1, .int .i64 col] w (Gives (.int .u8 r) w) := by
  have HB := Lib.hid (Below.refl w.heap.size w)
  unfold P at H
  have N0o := N0.out
  go_enter Try.func118, Try.ntmps118
  replace H := let_hid H
  obtain ⟨t_4, ht_4, H⟩ := H
  try have hv_t_4 : (rows.length : Int) - 1 = t_4 := by rw [← ht_4]; exact (IntWalk.i64_in _ (by omega)).symm
  try have hv2_t_4 : IntKind.i64.wrap t_4 = t_4 := by rw [← hv_t_4]; exact IntWalk.i64_in _ (by omega)
  replace H := bind_hid H
  obtain ⟨t_5, qt_5, H⟩ := H
  go_wp2_with fail
  go_at_call 88
  refine (Go.Proofs.Ytpcdaoeijlifmaa.GiWithin.C (row_1) (0) (t_4)  _    qt_5).mono ?_
  rintro e_t_5 wt_5 ⟨rfl, bt_5⟩
  have HBwt_5 := Lib.hid (Below.step HB.out bt_5)
  clear bt_5
  cases t_5 with
  | false =>
    replace H := let_hid H
    obtain ⟨t_6, ht_6, H⟩ := H
    obtain rfl : t_6 = true := ht_6.symm
    replace H := join_hid H
    replace H := ite_t H
    replace H := app_hid H
    replace H := ite_t H
    obtain rfl := ret_hid H
    go_wp2_with fail
    go_ret
    exact ⟨rfl, HBwt_5.out⟩
  | true =>
    replace H := let_hid H
    obtain ⟨t_6, ht_6, H⟩ := H
    obtain rfl : t_6 = false := ht_6.symm
    replace H := join_hid H
    replace H := ite_f H
    replace H := idx_hid H
    obtain ⟨nt_11, yt_11, et_11, lt_11, gt_11, H⟩ := H
    subst et_11
    obtain ⟨ab_t_11, ao_t_11, zt_11, At_11, z_t_11, ct_11_0⟩ := strs_at M0.out lt_11
    obtain rfl := Option.some.inj (gt_11.out.symm.trans z_t_11)
    subst At_11
    have ltt_11 := cell_lt ct_11_0
    replace ct_11_0 := cell_below HBwt_5.out ct_11_0
    clear z_t_11
    have b0t_11 : (0 : Int) ≤ (nt_11 : Int) := by omega
    have b1t_11 : (nt_11 : Int) < ((rows.length : Nat) : Int) := by omega
    have b2t_11 : ((nt_11 : Int)).toNat = nt_11 := by omega
    replace H := let_hid H
    obtain ⟨t_14, ht_14, H⟩ := H
    replace H := bind_hid H
    obtain ⟨t_15, qt_15, H⟩ := H
    go_wp2_with fail
    go_at_call 88
    refine (Go.Proofs.Ytpcdaoeijlifmaa.GiWithin.C (col) (0) (t_14)  _    qt_15).mono ?_
    rintro e_t_15 wt_15 ⟨rfl, bt_15⟩
    have HBwt_15 := Lib.hid (Below.step HBwt_5.out bt_15)
    replace ct_11_0 := cell_below bt_15 ct_11_0
    clear bt_15
    cases t_15 with
    | false =>
      replace H := let_hid H
      obtain ⟨t_16, ht_16, H⟩ := H
      obtain rfl : t_16 = true := ht_16.symm
      replace H := app_hid H
      replace H := ite_t H
      obtain rfl := ret_hid H
      go_wp2_with fail
      go_ret
      exact ⟨rfl, HBwt_15.out⟩
    | true =>
      replace H := let_hid H
      obtain ⟨t_16, ht_16, H⟩ := H
      obtain rfl : t_16 = false := ht_16.symm
      replace H := app_hid H
      replace H := ite_f H
      replace H := idx_hid H
      obtain ⟨nt_21, yt_21, et_21, lt_21, gt_21, H⟩ := H
      obtain rfl : nt_11 = nt_21 := by omega
      clear et_21
      obtain rfl := Option.some.inj (gt_11.out.symm.trans gt_21.out)
      clear gt_21 lt_21
      replace H := idx_hid H
      obtain ⟨nt_24, yt_24, et_24, lt_24, gt_24, H⟩ := H
      subst et_24
      have rt_24 := byte_rule lt_24 gt_24.out
      have b0t_24 : (0 : Int) ≤ (nt_24 : Int) := by omega
      have b1t_24 : (nt_24 : Int) < (yt_11.size : Int) := by have := size_list yt_11; omega
      have b2t_24 : ((nt_24 : Int)).toNat = nt_24 := by omega
      have b3t_24 : nt_24 < yt_11.size := by have := size_list yt_11; omega
      replace H := let_hid H
      obtain ⟨t_24, ht_24, H⟩ := H
      obtain rfl := ret_hid H
      go_wp2_with fail
      go_ret
      exact ⟨rfl, HBwt_15.out⟩
end Go.Proofs.Ytpcdaoeijlifmaa.GiSeenAt

/- loop.example/g01062/impl.agree as a plain function, and the contract of the program's: where the plain one has an answer, the program has it. Conditions: slices read as lists. -/
namespace Go.Proofs.Ytpcdaoeijlifmaa.GiAgree
set_option linter.unusedVariables false
set_option linter.unusedSimpArgs false
open Go.RowKit
open Go.Proofs.Ytpcdaoeijlifmaa.Rowed Go.Proofs.Ytpcdaoeijlifmaa.Turn Go.Proofs.Ytpcdaoeijlifmaa.Aid Go.Proofs.Ytpcdaoeijlifmaa.GoP Go.Proofs.Ytpcdaoeijlifmaa.GoM

def l1 (rows : (List ByteArray)) (down : Int) (right : Int) (k0 : Nat) (yt_6 : ByteArray) (k1 : Nat) (s : Unit) (nx1 bk1 : Unit → Option (Bool)) : Option (Bool) :=
  
  letK (IntKind.i64.wrap (down + (k0 : Int))) fun (t_19 : Int) =>
  letK (IntKind.i64.wrap (right + (k1 : Int))) fun (t_22 : Int) =>
  Option.bind (Go.Proofs.Ytpcdaoeijlifmaa.GiSeenAt.P rows t_19 t_22) fun (t_23 : Int) =>
  letK (t_23 != 46) fun (t_26 : Bool) =>
  joinK (fun (t_32 : Bool) =>
  joinK (fun (t_39 : Bool) =>
  iteK t_39
  (some false)
  (appK nx1 ())) fun jt_39 => iteK t_32 (Option.bind (idx yt_6.toList (k1 : Int)) fun (yt_37 : UInt8) =>
  letK ((yt_37.toNat : Int)) fun (t_37 : Int) =>
  letK (t_23 != t_37) fun (t_38 : Bool) =>
  appK jt_39 t_38) (appK jt_39 false)) fun jt_32 => iteK t_26 (Option.bind (idx yt_6.toList (k1 : Int)) fun (yt_30 : UInt8) =>
  letK ((yt_30.toNat : Int)) fun (t_30 : Int) =>
  letK (t_30 != 46) fun (t_31 : Bool) =>
  appK jt_32 t_31) (appK jt_32 false)

def e1 (nx0 : (Unit) → Option (Bool)) (s : Unit) : Option (Bool) :=
  
  appK nx0 ()

def l0 (rows : (List ByteArray)) (others : (List ByteArray)) (down : Int) (right : Int) (k0 : Nat) (s : Unit) (nx0 bk0 : Unit → Option (Bool)) : Option (Bool) :=
  
  Option.bind (idx others (k0 : Int)) fun (yt_6 : ByteArray) =>
  guardK (yt_6.size ≤ 9223372036854775807) <|
  cntK (l1 rows down right k0 yt_6) (yt_6.size) 0 () (e1 nx0)

def e0  (s : Unit) : Option (Bool) :=
  
  some true

def P (rows : (List ByteArray)) (others : (List ByteArray)) (down : Int) (right : Int) : Option (Bool) :=
  cntK (l0 rows others down right) (others.length) 0 () (e0 )

set_option maxRecDepth 100000 in
set_option maxHeartbeats 2000000 in
theorem C (rows : (List ByteArray)) (others : (List ByteArray)) (down : Int) (right : Int) (A0 : Option Addr) (c0 : Nat) (A1 : Option Addr) (c1 : Nat)  (w : World) (M0 : Hid (Cells w 1 A0 rows.length (rows.map Value.string))) (N0 : Hid (rows.length ≤ 9223372036854775807)) (M1 : Hid (Cells w 1 A1 others.length (others.map Value.string))) (N1 : Hid (others.length ≤ 9223372036854775807))  {r : Bool} (H : Hid (P rows others down right = some r)) :
    Calls Try.prog 97 #[.slice A0 rows.length c0, .slice A1 others.length c1, .int .i64 down, .int .i64 right] w (Gives (.bool r) w) := by
  have HB := Lib.hid (Below.refl w.heap.size w)
  unfold P at H
  have N0o := N0.out
  have N1o := N1.out
  go_enter Try.func97, Try.ntmps97
  go_wp2_with fail
  go_loopg [15] (others.length) (fun m_ v15_ wr => ∃ (k0 : Nat) , k0 + m_ = others.length ∧ v15_ = .int .i64 (k0 : Int) ∧ Hid (cntK (l0 rows others down right) m_ k0 () (e0 ) = some r) ∧ Hid (Below w.heap.size w wr))
  case atStart => exact ⟨0, by omega, rfl, H, HB⟩
  case round =>
    obtain ⟨k0, hkm0, rfl, H, HBwr0⟩ := hrel
    rename World => wr0
    cases gk with
    | zero =>
      obtain rfl : k0 = others.length := by omega
      have hc0 : decide (((others.length : Nat) : Int) < ((others.length : Nat) : Int)) = false := by simp
      replace H := cnt_zero H
      unfold e0 at H
      obtain rfl := ret_hid H
      go_wp2_with fail
      go_ret
      exact ⟨rfl, HBwr0.out⟩
    | succ m0 =>
      have hlt0 : k0 < others.length := by omega
      have hc0 : decide ((k0 : Int) < ((others.length : Nat) : Int)) = true := by simp; omega
      replace H := cnt_succ H
      unfold l0 at H
      replace H := idx_hid H
      obtain ⟨nt_6, yt_6, et_6, lt_6, gt_6, H⟩ := H
      obtain rfl : k0 = nt_6 := by omega
      clear et_6
      obtain ⟨ab_t_6, ao_t_6, zt_6, At_6, z_t_6, ct_6_0⟩ := strs_at M1.out lt_6
      obtain rfl := Option.some.inj (gt_6.out.symm.trans z_t_6)
      subst At_6
      have ltt_6 := cell_lt ct_6_0
      replace ct_6_0 := cell_below HBwr0.out ct_6_0
      clear z_t_6
      have b0t_6 : (0 : Int) ≤ (k0 : Int) := by omega
      have b1t_6 : (k0 : Int) < ((others.length : Nat) : Int) := by omega
      have b2t_6 : ((k0 : Int)).toNat = k0 := by omega
      replace H := guard_hid H
      obtain ⟨hg1, H⟩ := H
      go_wp2_with fail
      go_loopg [22] (yt_6.size) (fun m_ v22_ wr => ∃ (k1 : Nat) , k1 + m_ = yt_6.size ∧ v22_ = .int .i64 (k1 : Int) ∧ Hid (cntK (l1 rows down right k0 yt_6) m_ k1 () (e1 (fun s' => cntK (l0 rows others down right) m0 (k0 + 1) s' (e0 ))) = some r) ∧ Hid (Below w.heap.size w wr))
      case atStart => exact ⟨0, by omega, rfl, H, HBwr0⟩
      case round =>
        obtain ⟨k1, hkm1, rfl, H, HBwr1⟩ := hrel
        rename World => wr1
        cases gk with
        | zero =>
          obtain rfl : k1 = yt_6.size := by omega
          have hc1 : decide (((yt_6.size : Nat) : Int) < ((yt_6.size : Nat) : Int)) = false := by simp
          replace H := cnt_zero H
          unfold e1 at H
          replace H := app_hid H
          go_wp2_with fail
          go_roundg m0
          case measure => omega
          case rel => exact ⟨k0 + 1, by omega, by go_num, H, HBwr1⟩
        | succ m1 =>
          have hlt1 : k1 < yt_6.size := by omega
          have hc1 : decide ((k1 : Int) < ((yt_6.size : Nat) : Int)) = true := by simp; omega
          replace H := cnt_succ H
          unfold l1 at H
          replace H := let_hid H
          obtain ⟨t_19, ht_19, H⟩ := H
          replace H := let_hid H
          obtain ⟨t_22, ht_22, H⟩ := H
          replace H := bind_hid H
          obtain ⟨t_23, qt_23, H⟩ := H
          go_wp2_with fail
          go_at_call 118
          refine (Go.Proofs.Ytpcdaoeijlifmaa.GiSeenAt.C (rows) (t_19) (t_22) A0 c0 _   (Lib.hid (Cells.below M0.out HBwr1.out)) N0 qt_23).mono ?_
          rintro e_t_23 wt_23 ⟨rfl, bt_23⟩
          have HBwt_23 := Lib.hid (Below.step HBwr1.out bt_23)
          clear bt_23
          replace H := let_hid H
          obtain ⟨t_26, ht_26, H⟩ := H
          replace H := join_hid H
          cases t_26 with
          | false =>
            replace H := ite_f H
            replace H := app_hid H
            replace H := join_hid H
            replace H := ite_f H
            replace H := app_hid H
            replace H := ite_f H
            replace H := app_hid H
            go_wp2_with fail
            go_roundg m1
            case measure => omega
            case rel => exact ⟨k1 + 1, by omega, by go_num, H, HBwt_23⟩
          | true =>
            replace H := ite_t H
            replace H := idx_hid H
            obtain ⟨nt_30, yt_30, et_30, lt_30, gt_30, H⟩ := H
            obtain rfl : k1 = nt_30 := by omega
            clear et_30
            have rt_30 := byte_rule lt_30 gt_30.out
            have b0t_30 : (0 : Int) ≤ (k1 : Int) := by omega
            have b1t_30 : (k1 : Int) < (yt_6.size : Int) := by have := size_list yt_6; omega
            have b2t_30 : ((k1 : Int)).toNat = k1 := by omega
            have b3t_30 : k1 < yt_6.size := by have := size_list yt_6; omega
            replace H := let_hid H
            obtain ⟨t_30, ht_30, H⟩ := H
            replace H := let_hid H
            obtain ⟨t_31, ht_31, H⟩ := H
            replace H := app_hid H
            replace H := join_hid H
            cases t_31 with
            | false =>
              replace H := ite_f H
              replace H := app_hid H
              replace H := ite_f H
              replace H := app_hid H
              go_wp2_with fail
              go_roundg m1
              case measure => omega
              case rel => exact ⟨k1 + 1, by omega, by go_num, H, HBwt_23⟩
            | true =>
              replace H := ite_t H
              replace H := idx_hid H
              obtain ⟨nt_37, yt_37, et_37, lt_37, gt_37, H⟩ := H
              obtain rfl : k1 = nt_37 := by omega
              clear et_37
              obtain rfl := Option.some.inj (gt_30.out.symm.trans gt_37.out)
              clear gt_37 lt_37
              replace H := let_hid H
              obtain ⟨t_37, ht_37, H⟩ := H
              obtain rfl := ht_30.symm.trans ht_37
              replace H := let_hid H
              obtain ⟨t_38, ht_38, H⟩ := H
              replace H := app_hid H
              cases t_38 with
              | false =>
                replace H := ite_f H
                replace H := app_hid H
                go_wp2_with fail
                go_roundg m1
                case measure => omega
                case rel => exact ⟨k1 + 1, by omega, by go_num, H, HBwt_23⟩
              | true =>
                replace H := ite_t H
                obtain rfl := ret_hid H
                go_wp2_with fail
                go_ret
                exact ⟨rfl, HBwt_23.out⟩
end Go.Proofs.Ytpcdaoeijlifmaa.GiAgree

/- loop.example/g01062/impl.fits as a plain function, and the contract of the program's: where the plain one has an answer, the program has it. Conditions: slices read as lists. -/
namespace Go.Proofs.Ytpcdaoeijlifmaa.GiFits
set_option linter.unusedVariables false
set_option linter.unusedSimpArgs false
open Go.RowKit
open Go.Proofs.Ytpcdaoeijlifmaa.Rowed Go.Proofs.Ytpcdaoeijlifmaa.Turn Go.Proofs.Ytpcdaoeijlifmaa.Aid Go.Proofs.Ytpcdaoeijlifmaa.GoP Go.Proofs.Ytpcdaoeijlifmaa.GoM

def P (sheet : (List ByteArray)) (b_rows : (List ByteArray)) (row_2 : Int) (col : Int) : Option (Bool) :=
  letK (IntKind.i64.wrap ((sheet.length : Int) - (b_rows.length : Int))) fun (t_8 : Int) =>
  Option.bind (Go.Proofs.Ytpcdaoeijlifmaa.GiWithin.P row_2 0 t_8) fun (t_9 : Bool) =>
  joinK (fun (t_23 : Bool) =>
  joinK (fun (t_31 : Bool) =>
  some t_31) fun jt_31 => iteK t_23 (Option.bind (Go.Proofs.Ytpcdaoeijlifmaa.GiAgree.P sheet b_rows row_2 col) fun (t_30 : Bool) =>
  appK jt_31 t_30) (appK jt_31 false)) fun jt_23 => iteK t_9 (Option.bind (idx sheet 0) fun (yt_13 : ByteArray) =>
  Option.bind (idx b_rows 0) fun (yt_18 : ByteArray) =>
  letK (IntKind.i64.wrap ((yt_13.size : Int) - (yt_18.size : Int))) fun (t_21 : Int) =>
  Option.bind (Go.Proofs.Ytpcdaoeijlifmaa.GiWithin.P col 0 t_21) fun (t_22 : Bool) =>
  appK jt_23 t_22) (appK jt_23 false)

set_option maxRecDepth 100000 in
set_option maxHeartbeats 2000000 in
theorem C (sheet : (List ByteArray)) (b_rows : (List ByteArray)) (row_2 : Int) (col : Int) (A0 : Option Addr) (c0 : Nat) (A1_0 : Option Addr) (c1_0 : Nat)  (w : World) (M0 : Hid (Cells w 1 A0 sheet.length (sheet.map Value.string))) (N0 : Hid (sheet.length ≤ 9223372036854775807)) (M1_0 : Hid (Cells w 1 A1_0 b_rows.length (b_rows.map Value.string))) (N1_0 : Hid (b_rows.length ≤ 9223372036854775807))  {r : Bool} (H : Hid (P sheet b_rows row_2 col = some r)) :
    Calls Try.prog 69 #[.slice A0 sheet.length c0, .agg #[.slice A1_0 b_rows.length c1_0], .int .i64 row_2, .int .i64 col] w (Gives (.bool r) w) := by
  have HB := Lib.hid (Below.refl w.heap.size w)
  unfold P at H
  have N0o := N0.out
  have N1_0o := N1_0.out
  go_enter Try.func69, Try.ntmps69
  obtain ⟨w_b_0, hw_b_0⟩ : ∃ x, w.alloc (.cells #[.slice A1_0 b_rows.length c1_0] 43) = x := ⟨_, rfl⟩
  have bw_b_0 : Below w.heap.size w w_b_0 := by rw [← hw_b_0]; exact (Below.refl _ _).alloc (Nat.le_refl _) _
  have HBw_b_0 := Lib.hid (Below.step HB.out bw_b_0)
  clear bw_b_0
  have kb_0_0 : w_b_0.cell? ⟨w.heap.size, 0, none⟩ = some (.slice A1_0 b_rows.length c1_0) := by rw [← hw_b_0]; exact box_new _ _ _ 0 _ rfl
  go_wp2_with fail
  have Hkb_0_0 := Lib.hid kb_0_0
  replace kb_0_0 := cell_regrown kb_0_0
  replace H := let_hid H
  obtain ⟨t_8, ht_8, H⟩ := H
  replace H := bind_hid H
  obtain ⟨t_9, qt_9, H⟩ := H
  have nt_9 : ∀ d os, Calls Try.prog 88 #[.int .i64 row_2, .int .i64 0, .int .i64 t_8] (Go.Sort.grow (redrawn w_b_0 d) os) fun e w'' => e = .returned (.bool t_9) ∧ ∃ p : Regrown, w'' = Go.Sort.grow (redrawn w_b_0 p.d) p.os := fun d os => Calls.regrown_of (Go.Proofs.Ytpcdaoeijlifmaa.GiWithin.C (row_2) (0) (t_8)  _    qt_9)
  replace H := join_hid H
  cases t_9 with
  | false =>
    replace H := ite_f H
    replace H := app_hid H
    replace H := join_hid H
    replace H := ite_f H
    replace H := app_hid H
    refine wp_region_quiet_below (by kernel_rfl) (by kernel_rfl) ?_
    repeat (go_big_quiet_step (first | (go_at_call 88; exact nt_9 _ _)))
    refine wpQuiet_nil ?_
    intro Y1 hY1
    replace hY1 := below_class hY1
    clear nt_9
    replace kb_0_0 := Hkb_0_0.out
    clear Hkb_0_0
    have HBY1 := Lib.hid (Below.step HBw_b_0.out hY1)
    replace kb_0_0 := cell_below hY1 kb_0_0
    clear hY1
    obtain rfl := ret_hid H
    go_wp2_with fail
    go_ret
    exact ⟨rfl, HBY1.out⟩
  | true =>
    replace H := ite_t H
    replace H := idx_hid H
    obtain ⟨nt_13, yt_13, et_13, lt_13, gt_13, H⟩ := H
    obtain rfl : 0 = nt_13 := by omega
    clear et_13
    obtain ⟨ab_t_13, ao_t_13, zt_13, At_13, z_t_13, ct_13_0⟩ := strs_at M0.out lt_13
    obtain rfl := Option.some.inj (gt_13.out.symm.trans z_t_13)
    subst At_13
    have ltt_13 := cell_lt ct_13_0
    replace ct_13_0 := cell_below HBw_b_0.out ct_13_0
    clear z_t_13
    have b1t_13 : (0 : Int) < ((sheet.length : Nat) : Int) := by omega
    have b3t_13 : 0 < sheet.length := by omega
    try simp only [Nat.zero_mul, Nat.add_zero, Nat.zero_add, Nat.reduceMul] at ct_13_0
    have Hct_13_0 := Lib.hid ct_13_0
    replace ct_13_0 := cell_regrown ct_13_0
    replace H := idx_hid H
    obtain ⟨nt_18, yt_18, et_18, lt_18, gt_18, H⟩ := H
    obtain rfl : 0 = nt_18 := by omega
    clear et_18
    obtain ⟨ab_t_18, ao_t_18, zt_18, At_18, z_t_18, ct_18_0⟩ := strs_at M1_0.out lt_18
    obtain rfl := Option.some.inj (gt_18.out.symm.trans z_t_18)
    subst At_18
    have ltt_18 := cell_lt ct_18_0
    replace ct_18_0 := cell_below HBw_b_0.out ct_18_0
    clear z_t_18
    have b1t_18 : (0 : Int) < ((b_rows.length : Nat) : Int) := by omega
    have b3t_18 : 0 < b_rows.length := by omega
    try simp only [Nat.zero_mul, Nat.add_zero, Nat.zero_add, Nat.reduceMul] at ct_18_0
    have Hct_18_0 := Lib.hid ct_18_0
    replace ct_18_0 := cell_regrown ct_18_0
    replace H := let_hid H
    obtain ⟨t_21, ht_21, H⟩ := H
    replace H := bind_hid H
    obtain ⟨t_22, qt_22, H⟩ := H
    have nt_22 : ∀ d os, Calls Try.prog 88 #[.int .i64 col, .int .i64 0, .int .i64 t_21] (Go.Sort.grow (redrawn w_b_0 d) os) fun e w'' => e = .returned (.bool t_22) ∧ ∃ p : Regrown, w'' = Go.Sort.grow (redrawn w_b_0 p.d) p.os := fun d os => Calls.regrown_of (Go.Proofs.Ytpcdaoeijlifmaa.GiWithin.C (col) (0) (t_21)  _    qt_22)
    replace H := app_hid H
    replace H := join_hid H
    cases t_22 with
    | false =>
      replace H := ite_f H
      replace H := app_hid H
      refine wp_region_quiet_below (by kernel_rfl) (by kernel_rfl) ?_
      repeat (go_big_quiet_step (first | (go_at_call 88; with_reducible exact nt_9 _ _) | (go_at_call 88; with_reducible exact nt_22 _ _) | (go_at_call 88; exact nt_9 _ _) | (go_at_call 88; exact nt_22 _ _)))
      refine wpQuiet_nil ?_
      intro Y1 hY1
      replace hY1 := below_class hY1
      clear nt_9 nt_22
      replace kb_0_0 := Hkb_0_0.out
      clear Hkb_0_0
      replace ct_13_0 := Hct_13_0.out
      clear Hct_13_0
      replace ct_18_0 := Hct_18_0.out
      clear Hct_18_0
      have HBY1 := Lib.hid (Below.step HBw_b_0.out hY1)
      replace kb_0_0 := cell_below hY1 kb_0_0
      replace ct_13_0 := cell_below hY1 ct_13_0
      replace ct_18_0 := cell_below hY1 ct_18_0
      clear hY1
      obtain rfl := ret_hid H
      go_wp2_with fail
      go_ret
      exact ⟨rfl, HBY1.out⟩
    | true =>
      replace H := ite_t H
      replace H := bind_hid H
      obtain ⟨t_30, qt_30, H⟩ := H
      have nt_30 : ∀ d os, Calls Try.prog 97 #[.slice (some ⟨ab_t_13, ao_t_13, none⟩) sheet.length c0, .slice (some ⟨ab_t_18, ao_t_18, none⟩) b_rows.length c1_0, .int .i64 row_2, .int .i64 col] (Go.Sort.grow (redrawn w_b_0 d) os) fun e w'' => e = .returned (.bool t_30) ∧ ∃ p : Regrown, w'' = Go.Sort.grow (redrawn w_b_0 p.d) p.os := fun d os => Calls.regrown_of (Go.Proofs.Ytpcdaoeijlifmaa.GiAgree.C (sheet) (b_rows) (row_2) (col) (some ⟨ab_t_13, ao_t_13, none⟩) c0 (some ⟨ab_t_18, ao_t_18, none⟩) c1_0 _   (Lib.hid (Cells.below (Cells.below M0.out HBw_b_0.out) (below_regrown _ _ _))) N0 (Lib.hid (Cells.below (Cells.below M1_0.out HBw_b_0.out) (below_regrown _ _ _))) N1_0 qt_30)
      replace H := app_hid H
      refine wp_region_quiet_below (by kernel_rfl) (by kernel_rfl) ?_
      repeat (go_big_quiet_step (first | (go_at_call 88; with_reducible exact nt_9 _ _) | (go_at_call 88; with_reducible exact nt_22 _ _) | (go_at_call 88; exact nt_9 _ _) | (go_at_call 88; exact nt_22 _ _) | (go_at_call 97; exact nt_30 _ _)))
      refine wpQuiet_nil ?_
      intro Y1 hY1
      replace hY1 := below_class hY1
      clear nt_9 nt_22 nt_30
      replace kb_0_0 := Hkb_0_0.out
      clear Hkb_0_0
      replace ct_13_0 := Hct_13_0.out
      clear Hct_13_0
      replace ct_18_0 := Hct_18_0.out
      clear Hct_18_0
      have HBY1 := Lib.hid (Below.step HBw_b_0.out hY1)
      replace kb_0_0 := cell_below hY1 kb_0_0
      replace ct_13_0 := cell_below hY1 ct_13_0
      replace ct_18_0 := cell_below hY1 ct_18_0
      clear hY1
      obtain rfl := ret_hid H
      go_wp2_with fail
      go_ret
      exact ⟨rfl, HBY1.out⟩
end Go.Proofs.Ytpcdaoeijlifmaa.GiFits

/- loop.example/g01062/impl.placesOn as a plain function, and the contract of the program's: where the plain one has an answer, the program has it. Conditions: slices read as lists. -/
namespace Go.Proofs.Ytpcdaoeijlifmaa.GiPlacesOn
set_option linter.unusedVariables false
set_option linter.unusedSimpArgs false
open Go.RowKit
open Go.Proofs.Ytpcdaoeijlifmaa.Rowed Go.Proofs.Ytpcdaoeijlifmaa.Turn Go.Proofs.Ytpcdaoeijlifmaa.Aid Go.Proofs.Ytpcdaoeijlifmaa.GoP Go.Proofs.Ytpcdaoeijlifmaa.GoM

def l1 (sheet : (List ByteArray)) (b_rows : (List ByteArray)) (k0 : Nat) (k1 : Nat) (s : (List Go.Proofs.Ytpcdaoeijlifmaa.PIntA2.IntA2)) (nx1 bk1 : (List Go.Proofs.Ytpcdaoeijlifmaa.PIntA2.IntA2) → Option ((List Go.Proofs.Ytpcdaoeijlifmaa.PIntA2.IntA2))) : Option ((List Go.Proofs.Ytpcdaoeijlifmaa.PIntA2.IntA2)) :=
  letK s fun places_5l1 =>
  Option.bind (Go.Proofs.Ytpcdaoeijlifmaa.GiFits.P sheet b_rows (k0 : Int) (k1 : Int)) fun (t_23 : Bool) =>
  iteK t_23
  (guardK (places_5l1.length ≤ 1099511627776) <|
  letK (places_5l1 ++ [(Go.Proofs.Ytpcdaoeijlifmaa.PIntA2.IntA2.mk (k0 : Int) (k1 : Int))]) fun (t_29 : (List Go.Proofs.Ytpcdaoeijlifmaa.PIntA2.IntA2)) =>
  appK nx1 (t_29))
  (appK nx1 (places_5l1))

def e1 (nx0 : ((List Go.Proofs.Ytpcdaoeijlifmaa.PIntA2.IntA2)) → Option ((List Go.Proofs.Ytpcdaoeijlifmaa.PIntA2.IntA2))) (s : (List Go.Proofs.Ytpcdaoeijlifmaa.PIntA2.IntA2)) : Option ((List Go.Proofs.Ytpcdaoeijlifmaa.PIntA2.IntA2)) :=
  letK s fun places_5l1 =>
  appK nx0 (places_5l1)

def l0 (sheet : (List ByteArray)) (b_rows : (List ByteArray)) (k0 : Nat) (s : (List Go.Proofs.Ytpcdaoeijlifmaa.PIntA2.IntA2)) (nx0 bk0 : (List Go.Proofs.Ytpcdaoeijlifmaa.PIntA2.IntA2) → Option ((List Go.Proofs.Ytpcdaoeijlifmaa.PIntA2.IntA2))) : Option ((List Go.Proofs.Ytpcdaoeijlifmaa.PIntA2.IntA2)) :=
  letK s fun places_5l0 =>
  Option.bind (idx sheet (k0 : Int)) fun (yt_12 : ByteArray) =>
  guardK (yt_12.size ≤ 9223372036854775807) <|
  cntK (l1 sheet b_rows k0) (yt_12.size) 0 (places_5l0) (e1 nx0)

def e0  (s : (List Go.Proofs.Ytpcdaoeijlifmaa.PIntA2.IntA2)) : Option ((List Go.Proofs.Ytpcdaoeijlifmaa.PIntA2.IntA2)) :=
  letK s fun places_5l0 =>
  some places_5l0

def P (sheet : (List ByteArray)) (b_rows : (List ByteArray)) : Option ((List Go.Proofs.Ytpcdaoeijlifmaa.PIntA2.IntA2)) :=
  cntK (l0 sheet b_rows) (sheet.length) 0 (([] : List Go.Proofs.Ytpcdaoeijlifmaa.PIntA2.IntA2)) (e0 )

set_option maxRecDepth 100000 in
set_option maxHeartbeats 2000000 in
theorem C (sheet : (List ByteArray)) (b_rows : (List ByteArray)) (A0 : Option Addr) (c0 : Nat) (A1_0 : Option Addr) (c1_0 : Nat)  (w : World) (M0 : Hid (Cells w 1 A0 sheet.length (sheet.map Value.string))) (N0 : Hid (sheet.length ≤ 9223372036854775807)) (M1_0 : Hid (Cells w 1 A1_0 b_rows.length (b_rows.map Value.string))) (N1_0 : Hid (b_rows.length ≤ 9223372036854775807))  {r : (List Go.Proofs.Ytpcdaoeijlifmaa.PIntA2.IntA2)} (H : Hid (P sheet b_rows = some r)) :
    Calls Try.prog 64 #[.slice A0 sheet.length c0, .agg #[.slice A1_0 b_rows.length c1_0]] w (fun e w' => ∃ A_r c_r, e = .returned (.slice A_r r.length c_r) ∧ w'.ownsRow w.heap.size 90 2 (.slice A_r r.length c_r) r.length (Go.Proofs.Ytpcdaoeijlifmaa.PIntA2.flat r) ∧ Below w.heap.size w w') := by
  have HB := Lib.hid (Below.refl w.heap.size w)
  unfold P at H
  have N0o := N0.out
  have N1_0o := N1_0.out
  obtain ⟨i0_90, hi_90, hz0_90, hz1_90, hz2_90⟩ := Aid.info_parts (P := Try.prog) (T := 90) (z := .agg #[.int .i64 0, .int .i64 0]) (s := 2) (b := 16) (by kernel_rfl)
  go_enter Try.func64, Try.ntmps64
  obtain ⟨w_b_0, hw_b_0⟩ : ∃ x, w.alloc (.cells #[.slice A1_0 b_rows.length c1_0] 43) = x := ⟨_, rfl⟩
  have bw_b_0 : Below w.heap.size w w_b_0 := by rw [← hw_b_0]; exact (Below.refl _ _).alloc (Nat.le_refl _) _
  have HBw_b_0 := Lib.hid (Below.step HB.out bw_b_0)
  clear bw_b_0
  have kb_0_0 : w_b_0.cell? ⟨w.heap.size, 0, none⟩ = some (.slice A1_0 b_rows.length c1_0) := by rw [← hw_b_0]; exact box_new _ _ _ 0 _ rfl
  obtain ⟨w_t_2, hw_t_2⟩ : ∃ x, w_b_0.alloc (.cells #[] 90) = x := ⟨_, rfl⟩
  have bw_t_2 : Below w_b_0.heap.size w_b_0 w_t_2 := by rw [← hw_t_2]; exact (Below.refl _ _).alloc (Nat.le_refl _) _
  have Ot_2 : Hid (w_t_2.ownsRow w.heap.size 90 2 (.slice (some ⟨w_b_0.heap.size, 0, none⟩) 0 0) 0 []) := Lib.hid (by rw [← hw_t_2]; exact own_empty HBw_b_0.out.size)
  have Dt_2_b_0 := Lib.hid (apart_box kb_0_0)
  have HBw_t_2 := Lib.hid (Below.step HBw_b_0.out bw_t_2)
  have kb_0_0__19 := cell_below bw_t_2 kb_0_0
  clear bw_t_2
  go_wp2_with fail
  clear kb_0_0
  go_loopg [11, 5] (sheet.length) (fun m_ v11_ v5_ wr => ∃ (k0 : Nat) (places_5l0 : (List Go.Proofs.Ytpcdaoeijlifmaa.PIntA2.IntA2)) (Aplaces_5l0 : Option Addr) (cplaces_5l0 : Nat), k0 + m_ = sheet.length ∧ v11_ = .int .i64 (k0 : Int) ∧ v5_ = .slice Aplaces_5l0 places_5l0.length cplaces_5l0 ∧ Hid (cntK (l0 sheet b_rows) m_ k0 (places_5l0) (e0 ) = some r) ∧ Hid (Below w.heap.size w wr) ∧ wr.cell? ⟨w.heap.size, 0, none⟩ = some (.slice A1_0 b_rows.length c1_0) ∧ Hid (wr.ownsRow w.heap.size 90 2 (.slice Aplaces_5l0 places_5l0.length cplaces_5l0) places_5l0.length (Go.Proofs.Ytpcdaoeijlifmaa.PIntA2.flat places_5l0)) ∧ Hid (Apart Aplaces_5l0 (some ⟨w.heap.size, 0, none⟩)))
  case atStart => exact ⟨0, _, _, _, by omega, rfl, rfl, H, HBw_t_2, kb_0_0__19, Ot_2, Lib.hid Dt_2_b_0.out⟩
  case round =>
    obtain ⟨k0, places_5l0, Aplaces_5l0, cplaces_5l0, hkm0, rfl, rfl, H, HBwr0, kb_0_0__19, Oplaces_5l0, Dplaces_5l0_b_0⟩ := hrel
    rename World => wr0
    cases gk with
    | zero =>
      obtain rfl : k0 = sheet.length := by omega
      have hc0 : decide (((sheet.length : Nat) : Int) < ((sheet.length : Nat) : Int)) = false := by simp
      replace H := cnt_zero H
      unfold e0 at H
      replace H := let_hid H
      obtain ⟨_, rfl, H⟩ := H
      obtain rfl := ret_hid H
      go_wp2_with fail
      go_ret
      exact ⟨Aplaces_5l0, cplaces_5l0, rfl, Oplaces_5l0.out, HBwr0.out⟩
    | succ m0 =>
      have hlt0 : k0 < sheet.length := by omega
      have hc0 : decide ((k0 : Int) < ((sheet.length : Nat) : Int)) = true := by simp; omega
      replace H := cnt_succ H
      unfold l0 at H
      replace H := let_hid H
      obtain ⟨_, rfl, H⟩ := H
      replace H := idx_hid H
      obtain ⟨nt_12, yt_12, et_12, lt_12, gt_12, H⟩ := H
      obtain rfl : k0 = nt_12 := by omega
      clear et_12
      obtain ⟨ab_t_12, ao_t_12, zt_12, At_12, z_t_12, ct_12_0⟩ := strs_at M0.out lt_12
      obtain rfl := Option.some.inj (gt_12.out.symm.trans z_t_12)
      subst At_12
      have ltt_12 := cell_lt ct_12_0
      replace ct_12_0 := cell_below HBwr0.out ct_12_0
      clear z_t_12
      have b0t_12 : (0 : Int) ≤ (k0 : Int) := by omega
      have b1t_12 : (k0 : Int) < ((sheet.length : Nat) : Int) := by omega
      have b2t_12 : ((k0 : Int)).toNat = k0 := by omega
      replace H := guard_hid H
      obtain ⟨hg1, H⟩ := H
      go_wp2_with fail
      go_loopg [19, 5] (yt_12.size) (fun m_ v19_ v5_ wr => ∃ (k1 : Nat) (places_5l1 : (List Go.Proofs.Ytpcdaoeijlifmaa.PIntA2.IntA2)) (Aplaces_5l1 : Option Addr) (cplaces_5l1 : Nat), k1 + m_ = yt_12.size ∧ v19_ = .int .i64 (k1 : Int) ∧ v5_ = .slice Aplaces_5l1 places_5l1.length cplaces_5l1 ∧ Hid (cntK (l1 sheet b_rows k0) m_ k1 (places_5l1) (e1 (fun s' => cntK (l0 sheet b_rows) m0 (k0 + 1) s' (e0 ))) = some r) ∧ Hid (Below w.heap.size w wr) ∧ wr.cell? ⟨w.heap.size, 0, none⟩ = some (.slice A1_0 b_rows.length c1_0) ∧ Hid (wr.ownsRow w.heap.size 90 2 (.slice Aplaces_5l1 places_5l1.length cplaces_5l1) places_5l1.length (Go.Proofs.Ytpcdaoeijlifmaa.PIntA2.flat places_5l1)) ∧ Hid (Apart Aplaces_5l1 (some ⟨w.heap.size, 0, none⟩)))
      case atStart => exact ⟨0, _, _, _, by omega, rfl, rfl, H, HBwr0, kb_0_0__19, Oplaces_5l0, Lib.hid Dplaces_5l0_b_0.out⟩
      case round =>
        obtain ⟨k1, places_5l1, Aplaces_5l1, cplaces_5l1, hkm1, rfl, rfl, H, HBwr1, kb_0_0__19, Oplaces_5l1, Dplaces_5l1_b_0⟩ := hrel
        rename World => wr1
        cases gk with
        | zero =>
          obtain rfl : k1 = yt_12.size := by omega
          have hc1 : decide (((yt_12.size : Nat) : Int) < ((yt_12.size : Nat) : Int)) = false := by simp
          replace H := cnt_zero H
          unfold e1 at H
          replace H := let_hid H
          obtain ⟨_, rfl, H⟩ := H
          replace H := app_hid H
          go_wp2_with fail
          go_roundg m0
          case measure => omega
          case rel => exact ⟨k0 + 1, _, _, _, by omega, by go_num, rfl, H, HBwr1, kb_0_0__19, Oplaces_5l1, Lib.hid Dplaces_5l1_b_0.out⟩
        | succ m1 =>
          have hlt1 : k1 < yt_12.size := by omega
          have hc1 : decide ((k1 : Int) < ((yt_12.size : Nat) : Int)) = true := by simp; omega
          replace H := cnt_succ H
          unfold l1 at H
          replace H := let_hid H
          obtain ⟨_, rfl, H⟩ := H
          replace H := bind_hid H
          obtain ⟨t_23, qt_23, H⟩ := H
          go_wp2_with fail
          go_at_call 69
          refine (Go.Proofs.Ytpcdaoeijlifmaa.GiFits.C (sheet) (b_rows) ((k0 : Int)) ((k1 : Int)) (some ⟨ab_t_12, ao_t_12, none⟩) c0 A1_0 c1_0 _   (Lib.hid (Cells.below M0.out HBwr1.out)) N0 (Lib.hid (Cells.below M1_0.out HBwr1.out)) N1_0 qt_23).mono ?_
          rintro e_t_23 wt_23 ⟨rfl, bt_23⟩
          have HBwt_23 := Lib.hid (Below.step HBwr1.out bt_23)
          replace kb_0_0__19 := cell_below bt_23 kb_0_0__19
          replace Oplaces_5l1 := Lib.hid (own_below Oplaces_5l1.out bt_23)
          clear bt_23
          cases t_23 with
          | false =>
            replace H := ite_f H
            replace H := app_hid H
            go_wp2_with fail
            go_roundg m1
            case measure => omega
            case rel => exact ⟨k1 + 1, _, _, _, by omega, by go_num, rfl, H, HBwt_23, kb_0_0__19, Oplaces_5l1, Lib.hid Dplaces_5l1_b_0.out⟩
          | true =>
            replace H := ite_t H
            obtain ⟨w_t_28, hw_t_28⟩ : ∃ x, wt_23.alloc (.cells #[.int .i64 (k0 : Int), .int .i64 (k1 : Int)] 90) = x := ⟨_, rfl⟩
            have bw_t_28 : Below wt_23.heap.size wt_23 w_t_28 := by rw [← hw_t_28]; exact (Below.refl _ _).alloc (Nat.le_refl _) _
            have HBw_t_28 := Lib.hid (Below.step HBwt_23.out bw_t_28)
            have kb_0_0__20 := cell_below bw_t_28 kb_0_0__19
            replace Oplaces_5l1 := Lib.hid (own_below Oplaces_5l1.out bw_t_28)
            clear bw_t_28
            replace H := guard_hid H
            obtain ⟨hlt_29, H⟩ := H
            replace H := let_hid H
            obtain ⟨t_29, ht_29, H⟩ := H
            have hht_29 := Lib.hid ht_29
            clear ht_29
            have hst_29 := HBw_t_28.out.size
            go_wp2_with (at_builtin; refine wpList_append_own_at _ rfl _ _ 39 rfl w.heap.size 90 i0_90 (.agg #[.int .i64 0, .int .i64 0]) 2 16 Try.underlying39 hi_90 hz0_90 hz1_90 hz2_90 rfl (by decide) _ _ _ rfl Oplaces_5l1.out ⟨wt_23.heap.size, 0, none⟩ 1 1 [.int .i64 (k0 : Int), .int .i64 (k1 : Int)] rfl rfl (news_new hw_t_28) (one_cells rfl) (by unfold maxLen; omega) (by omega) hst_29 ?_; intro vt_29 wt_29 ot_29 gt_29 zt_29 yt_29; clear zt_29; obtain ⟨qt_29, ct_29, rfl, pt_29⟩ := own_push hht_29.out (Go.Proofs.Ytpcdaoeijlifmaa.PIntA2.flat_snoc _ _) rfl ot_29; have Pt_29 := Lib.hid pt_29; have Yt_29 := Lib.hid yt_29; have Gt_29 := Lib.hid gt_29; clear ot_29 gt_29 pt_29 yt_29; refine stop_in ?_)
            refine stop_out ?_
            have HBwt_29 := Lib.hid (HBw_t_28.out.grown Gt_29.out hst_29 (fun q hq => (Oplaces_5l1.out.lt q hq).1))
            clear hst_29
            have Dt_29_b_0 : Hid (Apart (some ⟨qt_29, 0, none⟩) _) := Lib.hid (apart_app Dplaces_5l1_b_0.out (fun a_ ha_ => by cases ha_; exact cell_lt kb_0_0__20) Yt_29.out)
            replace kb_0_0__20 := cell_other kb_0_0__20 Gt_29.out Dplaces_5l1_b_0.out
            clear kb_0_0__19
            clear Oplaces_5l1 Yt_29 Gt_29
            replace H := app_hid H
            go_wp2_with fail
            go_roundg m1
            case measure => omega
            case rel => exact ⟨k1 + 1, _, _, _, by omega, by go_num, rfl, H, HBwt_29, kb_0_0__20, Pt_29, Lib.hid Dt_29_b_0.out⟩
end Go.Proofs.Ytpcdaoeijlifmaa.GiPlacesOn

/- loop.example/g01062/impl.IsBlock as a plain function, and the contract of the program's: where the plain one has an answer, the program has it. Conditions: slices read as lists. -/
namespace Go.Proofs.Ytpcdaoeijlifmaa.GiIsBlock
set_option linter.unusedVariables false
set_option linter.unusedSimpArgs false
open Go.RowKit
open Go.Proofs.Ytpcdaoeijlifmaa.Rowed Go.Proofs.Ytpcdaoeijlifmaa.Turn Go.Proofs.Ytpcdaoeijlifmaa.Aid Go.Proofs.Ytpcdaoeijlifmaa.GoP Go.Proofs.Ytpcdaoeijlifmaa.GoM

def P (b_rows : (List ByteArray)) : Option (Bool) :=
  Option.bind (Go.Proofs.Ytpcdaoeijlifmaa.GiAreRows.P b_rows 3) fun (t_4 : Bool) =>
  some t_4

set_option maxRecDepth 100000 in
set_option maxHeartbeats 2000000 in
theorem C (b_rows : (List ByteArray)) (A0_0 : Option Addr) (c0_0 : Nat)  (w : World) (M0_0 : Hid (Cells w 1 A0_0 b_rows.length (b_rows.map Value.string))) (N0_0 : Hid (b_rows.length ≤ 9223372036854775807))  {r : Bool} (H : Hid (P b_rows = some r)) :
    Calls Try.prog 63 #[.agg #[.slice A0_0 b_rows.length c0_0]] w (Gives (.bool r) w) := by
  have HB := Lib.hid (Below.refl w.heap.size w)
  unfold P at H
  have N0_0o := N0_0.out
  go_enter Try.func63, Try.ntmps63
  obtain ⟨w_b_0, hw_b_0⟩ : ∃ x, w.alloc (.cells #[.slice A0_0 b_rows.length c0_0] 43) = x := ⟨_, rfl⟩
  have bw_b_0 : Below w.heap.size w w_b_0 := by rw [← hw_b_0]; exact (Below.refl _ _).alloc (Nat.le_refl _) _
  have HBw_b_0 := Lib.hid (Below.step HB.out bw_b_0)
  clear bw_b_0
  have kb_0_0 : w_b_0.cell? ⟨w.heap.size, 0, none⟩ = some (.slice A0_0 b_rows.length c0_0) := by rw [← hw_b_0]; exact box_new _ _ _ 0 _ rfl
  replace H := bind_hid H
  obtain ⟨t_4, qt_4, H⟩ := H
  go_wp2_with fail
  go_at_call 96
  refine (Go.Proofs.Ytpcdaoeijlifmaa.GiAreRows.C (b_rows) (3) A0_0 c0_0 _   (Lib.hid (Cells.below M0_0.out HBw_b_0.out)) N0_0 qt_4).mono ?_
  rintro e_t_4 wt_4 ⟨rfl, bt_4⟩
  have HBwt_4 := Lib.hid (Below.step HBw_b_0.out bt_4)
  replace kb_0_0 := cell_below bt_4 kb_0_0
  clear bt_4
  obtain rfl := ret_hid H
  go_wp2_with fail
  go_ret
  exact ⟨rfl, HBwt_4.out⟩
end Go.Proofs.Ytpcdaoeijlifmaa.GiIsBlock

/- loop.example/g01062/impl.PlacesFor as a plain function, and the contract of the program's: where the plain one has an answer, the program has it. Conditions: slices read as lists. -/
namespace Go.Proofs.Ytpcdaoeijlifmaa.GiPlacesFor
set_option linter.unusedVariables false
set_option linter.unusedSimpArgs false
open Go.RowKit
open Go.Proofs.Ytpcdaoeijlifmaa.Rowed Go.Proofs.Ytpcdaoeijlifmaa.Turn Go.Proofs.Ytpcdaoeijlifmaa.Aid Go.Proofs.Ytpcdaoeijlifmaa.GoP Go.Proofs.Ytpcdaoeijlifmaa.GoM

def P (sheet : (List ByteArray)) (b_rows : (List ByteArray)) : Option ((List Go.Proofs.Ytpcdaoeijlifmaa.PIntA2.IntA2) × Bool) :=
  Option.bind (Go.Proofs.Ytpcdaoeijlifmaa.GiIsSheet.P sheet) fun (t_4 : Bool) =>
  letK (!t_4) fun (t_5 : Bool) =>
  joinK (fun (t_10 : Bool) =>
  iteK t_10
  (some (([] : List Go.Proofs.Ytpcdaoeijlifmaa.PIntA2.IntA2), false))
  (Option.bind (Go.Proofs.Ytpcdaoeijlifmaa.GiPlacesOn.P sheet b_rows) fun (t_16 : (List Go.Proofs.Ytpcdaoeijlifmaa.PIntA2.IntA2)) =>
  some (t_16, true))) fun jt_10 => iteK t_5 (appK jt_10 true) (Option.bind (Go.Proofs.Ytpcdaoeijlifmaa.GiIsBlock.P b_rows) fun (t_8 : Bool) =>
  letK (!t_8) fun (t_9 : Bool) =>
  appK jt_10 t_9)

set_option maxRecDepth 100000 in
set_option maxHeartbeats 2000000 in
theorem C (sheet : (List ByteArray)) (b_rows : (List ByteArray)) (A0 : Option Addr) (c0 : Nat) (A1_0 : Option Addr) (c1_0 : Nat)  (w : World) (M0 : Hid (Cells w 1 A0 sheet.length (sheet.map Value.string))) (N0 : Hid (sheet.length ≤ 9223372036854775807)) (M1_0 : Hid (Cells w 1 A1_0 b_rows.length (b_rows.map Value.string))) (N1_0 : Hid (b_rows.length ≤ 9223372036854775807))  {r0 : (List Go.Proofs.Ytpcdaoeijlifmaa.PIntA2.IntA2)} {r1 : Bool} (H : Hid (P sheet b_rows = some (r0, r1))) :
    Calls Try.prog 23 #[.slice A0 sheet.length c0, .agg #[.slice A1_0 b_rows.length c1_0]] w (fun e w' => ∃ A_r0 c_r0, e = .returned (.tuple #[.slice A_r0 r0.length c_r0, .bool r1]) ∧ w'.ownsRow w.heap.size 90 2 (.slice A_r0 r0.length c_r0) r0.length (Go.Proofs.Ytpcdaoeijlifmaa.PIntA2.flat r0) ∧ Below w.heap.size w w') := by
  have HB := Lib.hid (Below.refl w.heap.size w)
  unfold P at H
  have N0o := N0.out
  have N1_0o := N1_0.out
  go_enter Try.func23, Try.ntmps23
  obtain ⟨w_b_0, hw_b_0⟩ : ∃ x, w.alloc (.cells #[.slice A1_0 b_rows.length c1_0] 43) = x := ⟨_, rfl⟩
  have bw_b_0 : Below w.heap.size w w_b_0 := by rw [← hw_b_0]; exact (Below.refl _ _).alloc (Nat.le_refl _) _
  have HBw_b_0 := Lib.hid (Below.step HB.out bw_b_0)
  clear bw_b_0
  have kb_0_0 : w_b_0.cell? ⟨w.heap.size, 0, none⟩ = some (.slice A1_0 b_rows.length c1_0) := by rw [← hw_b_0]; exact box_new _ _ _ 0 _ rfl
  replace H := bind_hid H
  obtain ⟨t_4, qt_4, H⟩ := H
  go_wp2_with fail
  go_at_call 62
  refine (Go.Proofs.Ytpcdaoeijlifmaa.GiIsSheet.C (sheet) A0 c0 _   (Lib.hid (Cells.below M0.out HBw_b_0.out)) N0 qt_4).mono ?_
  rintro e_t_4 wt_4 ⟨rfl, bt_4⟩
  have HBwt_4 := Lib.hid (Below.step HBw_b_0.out bt_4)
  replace kb_0_0 := cell_below bt_4 kb_0_0
  clear bt_4
  cases t_4 with
  | false =>
    replace H := let_hid H
    obtain ⟨t_5, ht_5, H⟩ := H
    obtain rfl : t_5 = true := ht_5.symm
    replace H := join_hid H
    replace H := ite_t H
    replace H := app_hid H
    replace H := ite_t H
    obtain ⟨w_t_11, hw_t_11⟩ : ∃ x, wt_4.alloc (.cells #[] 90) = x := ⟨_, rfl⟩
    have bw_t_11 : Below wt_4.heap.size wt_4 w_t_11 := by rw [← hw_t_11]; exact (Below.refl _ _).alloc (Nat.le_refl _) _
    have Ot_11 : Hid (w_t_11.ownsRow w.heap.size 90 2 (.slice (some ⟨wt_4.heap.size, 0, none⟩) 0 0) 0 []) := Lib.hid (by rw [← hw_t_11]; exact own_empty HBwt_4.out.size)
    have Dt_11_b_0 := Lib.hid (apart_box kb_0_0)
    have HBw_t_11 := Lib.hid (Below.step HBwt_4.out bw_t_11)
    have kb_0_0__21 := cell_below bw_t_11 kb_0_0
    clear bw_t_11
    cases ret_hid H
    go_wp2_with fail
    go_ret2
    exact ⟨(some ⟨wt_4.heap.size, 0, none⟩), 0, rfl, Ot_11.out, HBw_t_11.out⟩
  | true =>
    replace H := let_hid H
    obtain ⟨t_5, ht_5, H⟩ := H
    obtain rfl : t_5 = false := ht_5.symm
    replace H := join_hid H
    replace H := ite_f H
    replace H := bind_hid H
    obtain ⟨t_8, qt_8, H⟩ := H
    go_wp2_with fail
    go_at_call 63
    refine (Go.Proofs.Ytpcdaoeijlifmaa.GiIsBlock.C (b_rows) A1_0 c1_0 _   (Lib.hid (Cells.below M1_0.out HBwt_4.out)) N1_0 qt_8).mono ?_
    rintro e_t_8 wt_8 ⟨rfl, bt_8⟩
    have HBwt_8 := Lib.hid (Below.step HBwt_4.out bt_8)
    replace kb_0_0 := cell_below bt_8 kb_0_0
    clear bt_8
    cases t_8 with
    | false =>
      replace H := let_hid H
      obtain ⟨t_9, ht_9, H⟩ := H
      obtain rfl : t_9 = true := ht_9.symm
      replace H := app_hid H
      replace H := ite_t H
      obtain ⟨w_t_11, hw_t_11⟩ : ∃ x, wt_8.alloc (.cells #[] 90) = x := ⟨_, rfl⟩
      have bw_t_11 : Below wt_8.heap.size wt_8 w_t_11 := by rw [← hw_t_11]; exact (Below.refl _ _).alloc (Nat.le_refl _) _
      have Ot_11 : Hid (w_t_11.ownsRow w.heap.size 90 2 (.slice (some ⟨wt_8.heap.size, 0, none⟩) 0 0) 0 []) := Lib.hid (by rw [← hw_t_11]; exact own_empty HBwt_8.out.size)
      have Dt_11_b_0 := Lib.hid (apart_box kb_0_0)
      have HBw_t_11 := Lib.hid (Below.step HBwt_8.out bw_t_11)
      have kb_0_0__22 := cell_below bw_t_11 kb_0_0
      clear bw_t_11
      cases ret_hid H
      go_wp2_with fail
      go_ret2
      exact ⟨(some ⟨wt_8.heap.size, 0, none⟩), 0, rfl, Ot_11.out, HBw_t_11.out⟩
    | true =>
      replace H := let_hid H
      obtain ⟨t_9, ht_9, H⟩ := H
      obtain rfl : t_9 = false := ht_9.symm
      replace H := app_hid H
      replace H := ite_f H
      replace H := bind_hid H
      obtain ⟨t_16, qt_16, H⟩ := H
      go_wp2_with fail
      go_at_call 64
      refine (Go.Proofs.Ytpcdaoeijlifmaa.GiPlacesOn.C (sheet) (b_rows) A0 c0 A1_0 c1_0 _   (Lib.hid (Cells.below M0.out HBwt_8.out)) N0 (Lib.hid (Cells.below M1_0.out HBwt_8.out)) N1_0 qt_16).mono ?_
      rintro e_t_16 wt_16 ⟨At_16, ct_16, rfl, ot_16, bt_16⟩
      have Dt_16_b_0 := Lib.hid (apart_callbox ot_16 kb_0_0)
      have Ot_16 := Lib.hid (own_lower ot_16 HBwt_8.out.size)
      clear ot_16
      have HBwt_16 := Lib.hid (Below.step HBwt_8.out bt_16)
      replace kb_0_0 := cell_below bt_16 kb_0_0
      clear bt_16
      cases ret_hid H
      go_wp2_with fail
      go_ret2
      exact ⟨At_16, ct_16, rfl, Ot_16.out, HBwt_16.out⟩
end Go.Proofs.Ytpcdaoeijlifmaa.GiPlacesFor

/- How a struct of one-cell fields that comes in as data is opened, whatever the number of its fields; lists by their members. No condition. -/
namespace Go.Proofs.Ytpcdaoeijlifmaa.OpenAny
set_option linter.unusedVariables false
open Go.Joins Go.ChangeShapes Go.WideShapes Go.RowKit Go.Deep

theorem add_none (b o n : Nat) : (⟨b, o, none⟩ : Addr).add n = ⟨b, o + n, none⟩ := by
  unfold Addr.add; split
  · rename_i h; subst h; rfl
  · rfl
section
variable {H : Type} {enc : TypeId × Value → H} {P : Program} {w : World} {base : Nat} {spare : Nat → Bool} {held : Bool}
/-- each field reads on its own -/
theorem read_fields {t : TypeId} {fs : Array Field} {fuel : Nat} {cs : List Value} {x : DataW H × List MemPlace} (hs : P.underlying t = some (.struct fs)) (hone : oneCellFields P fs = true) (hC : P.cellsOf t = fs.size)
    (h : DataW.trod enc P w base spare held fuel t cs = some x) :
    cs.length = P.cellsOf t ∧ ∀ (j : Nat) (f : Field), fs[j]? = some f → ∃ (u : Value) (n : Nat) (y : DataW H × List MemPlace), cs[j]? = some u ∧ DataW.trod enc P w base spare held n f.type [u] = some y := by
  obtain ⟨xs, n, _, _, hlen, hxl, hg⟩ := DataW.trod_struct hs h
  refine ⟨hlen, fun j f hj => ?_⟩
  obtain ⟨ho, hk⟩ := hone_of hone j f hj
  have hjl : j < fs.size := (Array.getElem?_eq_some_iff.1 hj).1
  have h1 := hg j f hj
  rw [ho, hk, List.getElem?_eq_getElem (by omega : j < xs.length)] at h1
  have hc : j < cs.length := by omega
  rw [List.drop_eq_getElem_cons hc] at h1
  exact ⟨cs[j], n, _, List.getElem?_eq_getElem hc, h1⟩
/-- an aggregate that comes in reads as its cells do -/
theorem agg_any {r : Reach} {b0 : Nat} {t : TypeId} {fs : Array Field} {v : Value} {d : DataW H} {p : List MemPlace} (hs : P.underlying t = some (.struct fs)) (hv : Value.okWide P w r b0 t v) (h : DataW.Trod enc P w base spare held t v d p) :
    ∃ (cs : Array Value) (n : Nat) (x : DataW H × List MemPlace), v = .agg cs ∧ DataW.trod enc P w base spare held n t cs.toList = some x := by
  obtain ⟨cs, rfl, _⟩ := okWide_struct hs hv
  obtain ⟨fuel, hf⟩ := h
  exact ⟨cs, fuel, _, rfl, hf⟩
end
/-- a list by its members -/
theorem list_of {α : Type} (p : Nat → α → Prop) : ∀ (n : Nat), (∀ k, k < n → ∃ a, p k a) → ∃ l : List α, l.length = n ∧ ∀ k a, l[k]? = some a → p k a
  | 0, _ => ⟨[], rfl, fun k a h => by simp at h⟩
  | n + 1, h => by
    obtain ⟨l, hl, hp⟩ := list_of p n (fun k hk => h k (by omega))
    obtain ⟨a, ha⟩ := h n (by omega)
    refine ⟨l ++ [a], by simp [hl], fun k b hb => ?_⟩
    by_cases hk : k < n
    · rw [List.getElem?_append_left (by omega)] at hb; exact hp k b hb
    · have hk' : k < (l ++ [a]).length := (List.getElem?_eq_some_iff.1 hb).1
      simp [hl] at hk'
      obtain rfl : k = n := by omega
      rw [List.getElem?_append_right (by omega), hl, Nat.sub_self] at hb
      obtain rfl : a = b := by simpa using hb
      exact ha
end Go.Proofs.Ytpcdaoeijlifmaa.OpenAny

/- An array of 2 numbers in a row of them. No condition. -/
namespace Go.Proofs.Ytpcdaoeijlifmaa.OIntA2
set_option linter.unusedVariables false
set_option maxRecDepth 100000
open Go.Joins Go.ChangeShapes Go.WideShapes Go.RowKit Go.Deep
open Go.Proofs.Ytpcdaoeijlifmaa.Rowed Go.Proofs.Ytpcdaoeijlifmaa.OpenAny Go.Proofs.Ytpcdaoeijlifmaa.PIntA2
theorem at_ {w : World} {A : Option Addr} {n k : Nat} {l : List IntA2} (h : Cells w 2 A n (flat l)) (hk : k < n) :
    ∃ (b o : Nat) (s : IntA2), A = some ⟨b, o, none⟩ ∧ l[k]? = some s ∧ w.cell? ⟨b, o + k * 2, none⟩ = some (.int .i64 s.x0) ∧ w.cell? ⟨b, o + k * 2 + 1, none⟩ = some (.int .i64 s.x1) := by
  have hl : k < l.length := by have := h.1; rw [flat_len] at this; omega
  obtain ⟨⟨b, o, sp⟩, e, hc⟩ := h.2 (by rw [flat_len]; omega)
  have h0 := hc 0 _ (flat_at l 0 l[0] (List.getElem?_eq_getElem (by omega)) 0 (by omega))
  obtain rfl : sp = none := cell_spot (b := b) (o := o) h0
  have hs := List.getElem?_eq_getElem hl
  have f := flat_at l k _ hs
  have g := fun j u hu => add_none b o j ▸ hc j u hu
  exact ⟨b, o, l[k], e, hs, g _ _ (f 0 (by omega)), g _ _ (f 1 (by omega))⟩
end Go.Proofs.Ytpcdaoeijlifmaa.OIntA2

/- loop.example/g01062/laws.eqIntA2 as a plain function, and the contract of the program's: where the plain one has an answer, the program has it. Conditions: slices read as lists. -/
namespace Go.Proofs.Ytpcdaoeijlifmaa.GlEqIntA2
set_option linter.unusedVariables false
set_option linter.unusedSimpArgs false
open Go.RowKit
open Go.Proofs.Ytpcdaoeijlifmaa.Rowed Go.Proofs.Ytpcdaoeijlifmaa.Turn Go.Proofs.Ytpcdaoeijlifmaa.Aid Go.Proofs.Ytpcdaoeijlifmaa.GoP Go.Proofs.Ytpcdaoeijlifmaa.GoM

def l0 (a_x0 : Int) (a_x1 : Int) (b_x0 : Int) (b_x1 : Int) (k0 : Nat) (s : Unit) (nx0 bk0 : Unit → Option (Bool)) : Option (Bool) :=
  
  Option.bind (idx [a_x0, a_x1] (k0 : Int)) fun (yt_7 : Int) =>
  Option.bind (idx [b_x0, b_x1] (k0 : Int)) fun (yt_10 : Int) =>
  letK (yt_7 != yt_10) fun (t_12 : Bool) =>
  iteK t_12
  (some false)
  (appK nx0 ())

def e0  (s : Unit) : Option (Bool) :=
  
  some true

def P (a : Go.Proofs.Ytpcdaoeijlifmaa.PIntA2.IntA2) (b : Go.Proofs.Ytpcdaoeijlifmaa.PIntA2.IntA2) : Option (Bool) :=
  unIntA2 a fun (a_x0 : Int) (a_x1 : Int) =>
  unIntA2 b fun (b_x0 : Int) (b_x1 : Int) =>
  cntK (l0 a_x0 a_x1 b_x0 b_x1) (2) 0 () (e0 )

set_option maxRecDepth 100000 in
set_option maxHeartbeats 2000000 in
theorem C (a : Go.Proofs.Ytpcdaoeijlifmaa.PIntA2.IntA2) (b : Go.Proofs.Ytpcdaoeijlifmaa.PIntA2.IntA2)   (w : World)   {r : Bool} (H : Hid (P a b = some r)) :
    Calls Try.prog 65 #[a.val, b.val] w (Gives (.bool r) w) := by
  have HB := Lib.hid (Below.refl w.heap.size w)
  unfold P at H
  obtain ⟨a_x0, a_x1⟩ := a
  replace H := unIntA2_hid H
  obtain ⟨b_x0, b_x1⟩ := b
  replace H := unIntA2_hid H
  unfold Go.Proofs.Ytpcdaoeijlifmaa.PIntA2.IntA2.val
  go_enter Try.func65, Try.ntmps65
  obtain ⟨w_a_0, hw_a_0⟩ : ∃ x, w.alloc (.cells #[.int .i64 a_x0, .int .i64 a_x1] 90) = x := ⟨_, rfl⟩
  have bw_a_0 : Below w.heap.size w w_a_0 := by rw [← hw_a_0]; exact (Below.refl _ _).alloc (Nat.le_refl _) _
  have HBw_a_0 := Lib.hid (Below.step HB.out bw_a_0)
  clear bw_a_0
  have ka_0_0 : w_a_0.cell? ⟨w.heap.size, 0, none⟩ = some (.int .i64 a_x0) := by rw [← hw_a_0]; exact box_new _ _ _ 0 _ rfl
  have ka_0_1 : w_a_0.cell? ⟨w.heap.size, 1, none⟩ = some (.int .i64 a_x1) := by rw [← hw_a_0]; exact box_new _ _ _ 1 _ rfl
  obtain ⟨w_b_1, hw_b_1⟩ : ∃ x, w_a_0.alloc (.cells #[.int .i64 b_x0, .int .i64 b_x1] 90) = x := ⟨_, rfl⟩
  have bw_b_1 : Below w_a_0.heap.size w_a_0 w_b_1 := by rw [← hw_b_1]; exact (Below.refl _ _).alloc (Nat.le_refl _) _
  have HBw_b_1 := Lib.hid (Below.step HBw_a_0.out bw_b_1)
  have ka_0_0__23 := cell_below bw_b_1 ka_0_0
  have ka_0_1__24 := cell_below bw_b_1 ka_0_1
  clear bw_b_1
  have kb_1_0 : w_b_1.cell? ⟨w_a_0.heap.size, 0, none⟩ = some (.int .i64 b_x0) := by rw [← hw_b_1]; exact box_new _ _ _ 0 _ rfl
  have kb_1_1 : w_b_1.cell? ⟨w_a_0.heap.size, 1, none⟩ = some (.int .i64 b_x1) := by rw [← hw_b_1]; exact box_new _ _ _ 1 _ rfl
  go_wp2_with fail
  clear ka_0_0 ka_0_1
  go_loopg [5] (2) (fun m_ v5_ wr => ∃ (k0 : Nat) , k0 + m_ = 2 ∧ v5_ = .int .i64 (k0 : Int) ∧ Hid (cntK (l0 a_x0 a_x1 b_x0 b_x1) m_ k0 () (e0 ) = some r) ∧ Hid (Below w.heap.size w wr) ∧ wr.cell? ⟨w.heap.size, 0, none⟩ = some (.int .i64 a_x0) ∧ wr.cell? ⟨w.heap.size, 1, none⟩ = some (.int .i64 a_x1) ∧ wr.cell? ⟨w_a_0.heap.size, 0, none⟩ = some (.int .i64 b_x0) ∧ wr.cell? ⟨w_a_0.heap.size, 1, none⟩ = some (.int .i64 b_x1))
  case atStart => exact ⟨0, by omega, rfl, H, HBw_b_1, ka_0_0__23, ka_0_1__24, kb_1_0, kb_1_1⟩
  case round =>
    obtain ⟨k0, hkm0, rfl, H, HBwr0, ka_0_0__23, ka_0_1__24, kb_1_0, kb_1_1⟩ := hrel
    rename World => wr0
    cases gk with
    | zero =>
      obtain rfl : k0 = 2 := by omega
      have hc0 : decide (((2 : Nat) : Int) < ((2 : Nat) : Int)) = false := by simp
      replace H := cnt_zero H
      unfold e0 at H
      obtain rfl := ret_hid H
      go_wp2_with fail
      go_ret
      exact ⟨rfl, HBwr0.out⟩
    | succ m0 =>
      have hlt0 : k0 < 2 := by omega
      have hc0 : decide ((k0 : Int) < ((2 : Nat) : Int)) = true := by simp; omega
      replace H := cnt_succ H
      unfold l0 at H
      go_wp2_with fail
      have Hka_0_0__23 := Lib.hid ka_0_0__23
      replace ka_0_0__23 := cell_regrown ka_0_0__23
      have Hka_0_1__24 := Lib.hid ka_0_1__24
      replace ka_0_1__24 := cell_regrown ka_0_1__24
      have Hkb_1_0 := Lib.hid kb_1_0
      replace kb_1_0 := cell_regrown kb_1_0
      have Hkb_1_1 := Lib.hid kb_1_1
      replace kb_1_1 := cell_regrown kb_1_1
      replace H := idx_hid H
      obtain ⟨nt_7, yt_7, et_7, lt_7, gt_7, H⟩ := H
      obtain rfl : k0 = nt_7 := by omega
      clear et_7
      have b0t_7 : (0 : Int) ≤ (k0 : Int) := by omega
      have b1t_7 : (k0 : Int) < (((2 : Nat) : Nat) : Int) := by have h_ : k0 < 2 := lt_7; omega
      have b3t_7 : k0 < 2 := lt_7
      have b4t_7 : (k0 : Int) < (2 : Int) := by omega
      have b2t_7 : ((k0 : Int)).toNat = k0 := by omega
      have cat_7 := Go.Proofs.Ytpcdaoeijlifmaa.PIntA2.cell_at Hka_0_0__23.out Hka_0_1__24.out gt_7.out
      rw [Nat.zero_add] at cat_7
      have Hcat_7 := Lib.hid cat_7
      replace cat_7 := cell_regrown cat_7
      replace H := idx_hid H
      obtain ⟨nt_10, yt_10, et_10, lt_10, gt_10, H⟩ := H
      obtain rfl : k0 = nt_10 := by omega
      clear et_10
      have b0t_10 : (0 : Int) ≤ (k0 : Int) := by omega
      have b1t_10 : (k0 : Int) < (((2 : Nat) : Nat) : Int) := by have h_ : k0 < 2 := lt_10; omega
      have b3t_10 : k0 < 2 := lt_10
      have b4t_10 : (k0 : Int) < (2 : Int) := by omega
      have b2t_10 : ((k0 : Int)).toNat = k0 := by omega
      have cat_10 := Go.Proofs.Ytpcdaoeijlifmaa.PIntA2.cell_at Hkb_1_0.out Hkb_1_1.out gt_10.out
      rw [Nat.zero_add] at cat_10
      have Hcat_10 := Lib.hid cat_10
      replace cat_10 := cell_regrown cat_10
      replace H := let_hid H
      obtain ⟨t_12, ht_12, H⟩ := H
      refine wp_region_quiet_below (by kernel_rfl) (by kernel_rfl) ?_
      repeat (go_big_quiet_step (fail))
      refine wpQuiet_nil ?_
      intro Y4 hY4
      replace hY4 := below_class hY4
      replace ka_0_0__23 := Hka_0_0__23.out
      clear Hka_0_0__23
      replace ka_0_1__24 := Hka_0_1__24.out
      clear Hka_0_1__24
      replace kb_1_0 := Hkb_1_0.out
      clear Hkb_1_0
      replace kb_1_1 := Hkb_1_1.out
      clear Hkb_1_1
      replace cat_7 := Hcat_7.out
      clear Hcat_7
      replace cat_10 := Hcat_10.out
      clear Hcat_10
      have HBY4 := Lib.hid (Below.step HBwr0.out hY4)
      replace ka_0_0__23 := cell_below hY4 ka_0_0__23
      replace ka_0_1__24 := cell_below hY4 ka_0_1__24
      replace kb_1_0 := cell_below hY4 kb_1_0
      replace kb_1_1 := cell_below hY4 kb_1_1
      replace cat_7 := cell_below hY4 cat_7
      replace cat_10 := cell_below hY4 cat_10
      clear hY4
      cases t_12 with
      | false =>
        replace H := ite_f H
        replace H := app_hid H
        go_wp2_with fail
        go_roundg m0
        case measure => omega
        case rel => exact ⟨k0 + 1, by omega, by go_num, H, HBY4, ka_0_0__23, ka_0_1__24, kb_1_0, kb_1_1⟩
      | true =>
        replace H := ite_t H
        obtain rfl := ret_hid H
        go_wp2_with fail
        go_ret
        exact ⟨rfl, HBY4.out⟩
end Go.Proofs.Ytpcdaoeijlifmaa.GlEqIntA2

/- loop.example/g01062/laws.eqIntA2S as a plain function, and the contract of the program's: where the plain one has an answer, the program has it. Conditions: slices read as lists. -/
namespace Go.Proofs.Ytpcdaoeijlifmaa.GlEqIntA2S
set_option linter.unusedVariables false
set_option linter.unusedSimpArgs false
open Go.RowKit
open Go.Proofs.Ytpcdaoeijlifmaa.Rowed Go.Proofs.Ytpcdaoeijlifmaa.Turn Go.Proofs.Ytpcdaoeijlifmaa.Aid Go.Proofs.Ytpcdaoeijlifmaa.GoP Go.Proofs.Ytpcdaoeijlifmaa.GoM

def l0 (a : (List Go.Proofs.Ytpcdaoeijlifmaa.PIntA2.IntA2)) (b : (List Go.Proofs.Ytpcdaoeijlifmaa.PIntA2.IntA2)) (k0 : Nat) (s : Unit) (nx0 bk0 : Unit → Option (Bool)) : Option (Bool) :=
  
  Option.bind (idx a (k0 : Int)) fun (yt_14 : Go.Proofs.Ytpcdaoeijlifmaa.PIntA2.IntA2) =>
  unIntA2 yt_14 fun (t_14_x0 : Int) (t_14_x1 : Int) =>
  Option.bind (idx b (k0 : Int)) fun (yt_18 : Go.Proofs.Ytpcdaoeijlifmaa.PIntA2.IntA2) =>
  unIntA2 yt_18 fun (t_18_x0 : Int) (t_18_x1 : Int) =>
  Option.bind (Go.Proofs.Ytpcdaoeijlifmaa.GlEqIntA2.P (Go.Proofs.Ytpcdaoeijlifmaa.PIntA2.IntA2.mk t_14_x0 t_14_x1) (Go.Proofs.Ytpcdaoeijlifmaa.PIntA2.IntA2.mk t_18_x0 t_18_x1)) fun (t_20 : Bool) =>
  letK (!t_20) fun (t_21 : Bool) =>
  iteK t_21
  (some false)
  (appK nx0 ())

def e0  (s : Unit) : Option (Bool) :=
  
  some true

def P (a : (List Go.Proofs.Ytpcdaoeijlifmaa.PIntA2.IntA2)) (b : (List Go.Proofs.Ytpcdaoeijlifmaa.PIntA2.IntA2)) : Option (Bool) :=
  letK ((a.length : Int) != (b.length : Int)) fun (t_5 : Bool) =>
  iteK t_5
  (some false)
  (cntK (l0 a b) (a.length) 0 () (e0 ))

set_option maxRecDepth 100000 in
set_option maxHeartbeats 2000000 in
theorem C (a : (List Go.Proofs.Ytpcdaoeijlifmaa.PIntA2.IntA2)) (b : (List Go.Proofs.Ytpcdaoeijlifmaa.PIntA2.IntA2)) (A0 : Option Addr) (c0 : Nat) (A1 : Option Addr) (c1 : Nat)  (w : World) (M0 : Hid (Cells w 2 A0 a.length (Go.Proofs.Ytpcdaoeijlifmaa.PIntA2.flat a))) (N0 : Hid (a.length ≤ 9223372036854775807)) (M1 : Hid (Cells w 2 A1 b.length (Go.Proofs.Ytpcdaoeijlifmaa.PIntA2.flat b))) (N1 : Hid (b.length ≤ 9223372036854775807))  {r : Bool} (H : Hid (P a b = some r)) :
    Calls Try.prog 24 #[.slice A0 a.length c0, .slice A1 b.length c1] w (Gives (.bool r) w) := by
  have HB := Lib.hid (Below.refl w.heap.size w)
  unfold P at H
  have N0o := N0.out
  have N1o := N1.out
  go_enter Try.func24, Try.ntmps24
  replace H := let_hid H
  obtain ⟨t_5, ht_5, H⟩ := H
  cases t_5 with
  | false =>
    have Hht_5 : Hid (a.length = b.length) := Lib.hid (by have := bne_eq_false_iff_eq.1 ht_5; omega)
    have nht_5 : (a.length == b.length) = true := beq_iff_eq.2 Hht_5.out
    replace H := ite_f H
    go_wp2_with fail
    go_loopg [5] (a.length) (fun m_ v5_ wr => ∃ (k0 : Nat) , k0 + m_ = a.length ∧ v5_ = .int .i64 (k0 : Int) ∧ Hid (cntK (l0 a b) m_ k0 () (e0 ) = some r) ∧ Hid (Below w.heap.size w wr))
    case atStart => exact ⟨0, by omega, rfl, H, HB⟩
    case round =>
      obtain ⟨k0, hkm0, rfl, H, HBwr0⟩ := hrel
      rename World => wr0
      cases gk with
      | zero =>
        obtain rfl : k0 = a.length := by omega
        have hc0 : decide (((a.length : Nat) : Int) < ((a.length : Nat) : Int)) = false := by simp
        replace H := cnt_zero H
        unfold e0 at H
        obtain rfl := ret_hid H
        go_wp2_with fail
        go_ret
        exact ⟨rfl, HBwr0.out⟩
      | succ m0 =>
        have hlt0 : k0 < a.length := by omega
        have hc0 : decide ((k0 : Int) < ((a.length : Nat) : Int)) = true := by simp; omega
        replace H := cnt_succ H
        unfold l0 at H
        go_wp2_with fail
        replace H := idx_hid H
        obtain ⟨nt_14, yt_14, et_14, lt_14, gt_14, H⟩ := H
        obtain rfl : k0 = nt_14 := by omega
        clear et_14
        obtain ⟨t_14_x0, t_14_x1⟩ := yt_14
        replace H := unIntA2_hid H
        obtain ⟨ab_t_14, ao_t_14, zt_14, At_14, z_t_14, ct_14_0, ct_14_1⟩ := Go.Proofs.Ytpcdaoeijlifmaa.OIntA2.at_ M0.out lt_14
        obtain rfl := Option.some.inj (gt_14.out.symm.trans z_t_14)
        subst At_14
        have ltt_14 := cell_lt ct_14_0
        replace ct_14_0 := cell_below HBwr0.out ct_14_0
        replace ct_14_1 := cell_below HBwr0.out ct_14_1
        clear z_t_14
        have b0t_14 : (0 : Int) ≤ (k0 : Int) := by omega
        have b1t_14 : (k0 : Int) < ((a.length : Nat) : Int) := by omega
        have b2t_14 : ((k0 : Int)).toNat = k0 := by omega
        have Hct_14_0 := Lib.hid ct_14_0
        replace ct_14_0 := cell_regrown ct_14_0
        have Hct_14_1 := Lib.hid ct_14_1
        replace ct_14_1 := cell_regrown ct_14_1
        replace H := idx_hid H
        obtain ⟨nt_18, yt_18, et_18, lt_18, gt_18, H⟩ := H
        obtain rfl : k0 = nt_18 := by omega
        clear et_18
        obtain ⟨t_18_x0, t_18_x1⟩ := yt_18
        replace H := unIntA2_hid H
        obtain ⟨ab_t_18, ao_t_18, zt_18, At_18, z_t_18, ct_18_0, ct_18_1⟩ := Go.Proofs.Ytpcdaoeijlifmaa.OIntA2.at_ M1.out lt_18
        obtain rfl := Option.some.inj (gt_18.out.symm.trans z_t_18)
        subst At_18
        have ltt_18 := cell_lt ct_18_0
        replace ct_18_0 := cell_below HBwr0.out ct_18_0
        replace ct_18_1 := cell_below HBwr0.out ct_18_1
        clear z_t_18
        have b0t_18 : (0 : Int) ≤ (k0 : Int) := by omega
        have b1t_18 : (k0 : Int) < ((b.length : Nat) : Int) := by omega
        have b2t_18 : ((k0 : Int)).toNat = k0 := by omega
        have Hct_18_0 := Lib.hid ct_18_0
        replace ct_18_0 := cell_regrown ct_18_0
        have Hct_18_1 := Lib.hid ct_18_1
        replace ct_18_1 := cell_regrown ct_18_1
        replace H := bind_hid H
        obtain ⟨t_20, qt_20, H⟩ := H
        have nt_20 : ∀ d os, Calls Try.prog 65 #[.agg #[.int .i64 t_14_x0, .int .i64 t_14_x1], .agg #[.int .i64 t_18_x0, .int .i64 t_18_x1]] (Go.Sort.grow (redrawn wr0 d) os) fun e w'' => e = .returned (.bool t_20) ∧ ∃ p : Regrown, w'' = Go.Sort.grow (redrawn wr0 p.d) p.os := fun d os => Calls.regrown_of (Go.Proofs.Ytpcdaoeijlifmaa.GlEqIntA2.C ((Go.Proofs.Ytpcdaoeijlifmaa.PIntA2.IntA2.mk t_14_x0 t_14_x1)) ((Go.Proofs.Ytpcdaoeijlifmaa.PIntA2.IntA2.mk t_18_x0 t_18_x1))  _    qt_20)
        cases t_20 with
        | false =>
          replace H := let_hid H
          obtain ⟨t_21, ht_21, H⟩ := H
          obtain rfl : t_21 = true := ht_21.symm
          refine wp_region_quiet_below (by kernel_rfl) (by kernel_rfl) ?_
          repeat (go_big_quiet_step (first | (go_at_call 65; exact nt_20 _ _)))
          refine wpQuiet_nil ?_
          intro Y6 hY6
          replace hY6 := below_class hY6
          clear nt_20
          replace ct_14_0 := Hct_14_0.out
          clear Hct_14_0
          replace ct_14_1 := Hct_14_1.out
          clear Hct_14_1
          replace ct_18_0 := Hct_18_0.out
          clear Hct_18_0
          replace ct_18_1 := Hct_18_1.out
          clear Hct_18_1
          have HBY6 := Lib.hid (Below.step HBwr0.out hY6)
          replace ct_14_0 := cell_below hY6 ct_14_0
          replace ct_14_1 := cell_below hY6 ct_14_1
          replace ct_18_0 := cell_below hY6 ct_18_0
          replace ct_18_1 := cell_below hY6 ct_18_1
          clear hY6
          replace H := ite_t H
          obtain rfl := ret_hid H
          go_wp2_with fail
          go_ret
          exact ⟨rfl, HBY6.out⟩
        | true =>
          replace H := let_hid H
          obtain ⟨t_21, ht_21, H⟩ := H
          obtain rfl : t_21 = false := ht_21.symm
          refine wp_region_quiet_below (by kernel_rfl) (by kernel_rfl) ?_
          repeat (go_big_quiet_step (first | (go_at_call 65; exact nt_20 _ _)))
          refine wpQuiet_nil ?_
          intro Y6 hY6
          replace hY6 := below_class hY6
          clear nt_20
          replace ct_14_0 := Hct_14_0.out
          clear Hct_14_0
          replace ct_14_1 := Hct_14_1.out
          clear Hct_14_1
          replace ct_18_0 := Hct_18_0.out
          clear Hct_18_0
          replace ct_18_1 := Hct_18_1.out
          clear Hct_18_1
          have HBY6 := Lib.hid (Below.step HBwr0.out hY6)
          replace ct_14_0 := cell_below hY6 ct_14_0
          replace ct_14_1 := cell_below hY6 ct_14_1
          replace ct_18_0 := cell_below hY6 ct_18_0
          replace ct_18_1 := cell_below hY6 ct_18_1
          clear hY6
          replace H := ite_f H
          replace H := app_hid H
          go_wp2_with fail
          go_roundg m0
          case measure => omega
          case rel => exact ⟨k0 + 1, by omega, by go_num, H, HBY6⟩
  | true =>
    have nht_5 : ¬ (a.length = b.length) := by have := bne_iff_ne.1 ht_5; omega
    replace H := ite_t H
    obtain rfl := ret_hid H
    go_wp2_with fail
    go_ret
    exact ⟨rfl, HB.out⟩
end Go.Proofs.Ytpcdaoeijlifmaa.GlEqIntA2S

/- loop.example/g01062/laws.eqStringS as a plain function, and the contract of the program's: where the plain one has an answer, the program has it. Conditions: slices read as lists. -/
namespace Go.Proofs.Ytpcdaoeijlifmaa.GlEqStringS
set_option linter.unusedVariables false
set_option linter.unusedSimpArgs false
open Go.RowKit
open Go.Proofs.Ytpcdaoeijlifmaa.Rowed Go.Proofs.Ytpcdaoeijlifmaa.Turn Go.Proofs.Ytpcdaoeijlifmaa.Aid Go.Proofs.Ytpcdaoeijlifmaa.GoP Go.Proofs.Ytpcdaoeijlifmaa.GoM

def l0 (a : (List ByteArray)) (b : (List ByteArray)) (k0 : Nat) (s : Unit) (nx0 bk0 : Unit → Option (Bool)) : Option (Bool) :=
  
  Option.bind (idx a (k0 : Int)) fun (yt_14 : ByteArray) =>
  Option.bind (idx b (k0 : Int)) fun (yt_18 : ByteArray) =>
  letK (!(yt_14.toList == yt_18.toList)) fun (t_20 : Bool) =>
  iteK t_20
  (some false)
  (appK nx0 ())

def e0  (s : Unit) : Option (Bool) :=
  
  some true

def P (a : (List ByteArray)) (b : (List ByteArray)) : Option (Bool) :=
  letK ((a.length : Int) != (b.length : Int)) fun (t_5 : Bool) =>
  iteK t_5
  (some false)
  (cntK (l0 a b) (a.length) 0 () (e0 ))

set_option maxRecDepth 100000 in
set_option maxHeartbeats 2000000 in
theorem C (a : (List ByteArray)) (b : (List ByteArray)) (A0 : Option Addr) (c0 : Nat) (A1 : Option Addr) (c1 : Nat)  (w : World) (M0 : Hid (Cells w 1 A0 a.length (a.map Value.string))) (N0 : Hid (a.length ≤ 9223372036854775807)) (M1 : Hid (Cells w 1 A1 b.length (b.map Value.string))) (N1 : Hid (b.length ≤ 9223372036854775807))  {r : Bool} (H : Hid (P a b = some r)) :
    Calls Try.prog 25 #[.slice A0 a.length c0, .slice A1 b.length c1] w (Gives (.bool r) w) := by
  have HB := Lib.hid (Below.refl w.heap.size w)
  unfold P at H
  have N0o := N0.out
  have N1o := N1.out
  go_enter Try.func25, Try.ntmps25
  replace H := let_hid H
  obtain ⟨t_5, ht_5, H⟩ := H
  cases t_5 with
  | false =>
    have Hht_5 : Hid (a.length = b.length) := Lib.hid (by have := bne_eq_false_iff_eq.1 ht_5; omega)
    have nht_5 : (a.length == b.length) = true := beq_iff_eq.2 Hht_5.out
    replace H := ite_f H
    go_wp2_with fail
    go_loopg [5] (a.length) (fun m_ v5_ wr => ∃ (k0 : Nat) , k0 + m_ = a.length ∧ v5_ = .int .i64 (k0 : Int) ∧ Hid (cntK (l0 a b) m_ k0 () (e0 ) = some r) ∧ Hid (Below w.heap.size w wr))
    case atStart => exact ⟨0, by omega, rfl, H, HB⟩
    case round =>
      obtain ⟨k0, hkm0, rfl, H, HBwr0⟩ := hrel
      rename World => wr0
      cases gk with
      | zero =>
        obtain rfl : k0 = a.length := by omega
        have hc0 : decide (((a.length : Nat) : Int) < ((a.length : Nat) : Int)) = false := by simp
        replace H := cnt_zero H
        unfold e0 at H
        obtain rfl := ret_hid H
        go_wp2_with fail
        go_ret
        exact ⟨rfl, HBwr0.out⟩
      | succ m0 =>
        have hlt0 : k0 < a.length := by omega
        have hc0 : decide ((k0 : Int) < ((a.length : Nat) : Int)) = true := by simp; omega
        replace H := cnt_succ H
        unfold l0 at H
        go_wp2_with fail
        replace H := idx_hid H
        obtain ⟨nt_14, yt_14, et_14, lt_14, gt_14, H⟩ := H
        obtain rfl : k0 = nt_14 := by omega
        clear et_14
        obtain ⟨ab_t_14, ao_t_14, zt_14, At_14, z_t_14, ct_14_0⟩ := strs_at M0.out lt_14
        obtain rfl := Option.some.inj (gt_14.out.symm.trans z_t_14)
        subst At_14
        have ltt_14 := cell_lt ct_14_0
        replace ct_14_0 := cell_below HBwr0.out ct_14_0
        clear z_t_14
        have b0t_14 : (0 : Int) ≤ (k0 : Int) := by omega
        have b1t_14 : (k0 : Int) < ((a.length : Nat) : Int) := by omega
        have b2t_14 : ((k0 : Int)).toNat = k0 := by omega
        have Hct_14_0 := Lib.hid ct_14_0
        replace ct_14_0 := cell_regrown ct_14_0
        replace H := idx_hid H
        obtain ⟨nt_18, yt_18, et_18, lt_18, gt_18, H⟩ := H
        obtain rfl : k0 = nt_18 := by omega
        clear et_18
        obtain ⟨ab_t_18, ao_t_18, zt_18, At_18, z_t_18, ct_18_0⟩ := strs_at M1.out lt_18
        obtain rfl := Option.some.inj (gt_18.out.symm.trans z_t_18)
        subst At_18
        have ltt_18 := cell_lt ct_18_0
        replace ct_18_0 := cell_below HBwr0.out ct_18_0
        clear z_t_18
        have b0t_18 : (0 : Int) ≤ (k0 : Int) := by omega
        have b1t_18 : (k0 : Int) < ((b.length : Nat) : Int) := by omega
        have b2t_18 : ((k0 : Int)).toNat = k0 := by omega
        have Hct_18_0 := Lib.hid ct_18_0
        replace ct_18_0 := cell_regrown ct_18_0
        replace H := let_hid H
        obtain ⟨t_20, ht_20, H⟩ := H
        refine wp_region_quiet_below (by kernel_rfl) (by kernel_rfl) ?_
        repeat (go_big_quiet_step (fail))
        refine wpQuiet_nil ?_
        intro Y6 hY6
        replace hY6 := below_class hY6
        replace ct_14_0 := Hct_14_0.out
        clear Hct_14_0
        replace ct_18_0 := Hct_18_0.out
        clear Hct_18_0
        have HBY6 := Lib.hid (Below.step HBwr0.out hY6)
        replace ct_14_0 := cell_below hY6 ct_14_0
        replace ct_18_0 := cell_below hY6 ct_18_0
        clear hY6
        cases t_20 with
        | false =>
          replace H := ite_f H
          replace H := app_hid H
          go_wp2_with fail
          go_roundg m0
          case measure => omega
          case rel => exact ⟨k0 + 1, by omega, by go_num, H, HBY6⟩
        | true =>
          replace H := ite_t H
          obtain rfl := ret_hid H
          go_wp2_with fail
          go_ret
          exact ⟨rfl, HBY6.out⟩
  | true =>
    have nht_5 : ¬ (a.length = b.length) := by have := bne_iff_ne.1 ht_5; omega
    replace H := ite_t H
    obtain rfl := ret_hid H
    go_wp2_with fail
    go_ret
    exact ⟨rfl, HB.out⟩
end Go.Proofs.Ytpcdaoeijlifmaa.GlEqStringS

/- loop.example/g01062/laws.eqBlock as a plain function, and the contract of the program's: where the plain one has an answer, the program has it. Conditions: slices read as lists. -/
namespace Go.Proofs.Ytpcdaoeijlifmaa.GlEqBlock
set_option linter.unusedVariables false
set_option linter.unusedSimpArgs false
open Go.RowKit
open Go.Proofs.Ytpcdaoeijlifmaa.Rowed Go.Proofs.Ytpcdaoeijlifmaa.Turn Go.Proofs.Ytpcdaoeijlifmaa.Aid Go.Proofs.Ytpcdaoeijlifmaa.GoP Go.Proofs.Ytpcdaoeijlifmaa.GoM

def P (a_rows : (List ByteArray)) (b_rows : (List ByteArray)) : Option (Bool) :=
  Option.bind (Go.Proofs.Ytpcdaoeijlifmaa.GlEqStringS.P a_rows b_rows) fun (t_7 : Bool) =>
  letK (!t_7) fun (t_8 : Bool) =>
  iteK t_8
  (some false)
  (some true)

set_option maxRecDepth 100000 in
set_option maxHeartbeats 2000000 in
theorem C (a_rows : (List ByteArray)) (b_rows : (List ByteArray)) (A0_0 : Option Addr) (c0_0 : Nat) (A1_0 : Option Addr) (c1_0 : Nat)  (w : World) (M0_0 : Hid (Cells w 1 A0_0 a_rows.length (a_rows.map Value.string))) (N0_0 : Hid (a_rows.length ≤ 9223372036854775807)) (M1_0 : Hid (Cells w 1 A1_0 b_rows.length (b_rows.map Value.string))) (N1_0 : Hid (b_rows.length ≤ 9223372036854775807))  {r : Bool} (H : Hid (P a_rows b_rows = some r)) :
    Calls Try.prog 26 #[.agg #[.slice A0_0 a_rows.length c0_0], .agg #[.slice A1_0 b_rows.length c1_0]] w (Gives (.bool r) w) := by
  have HB := Lib.hid (Below.refl w.heap.size w)
  unfold P at H
  have N0_0o := N0_0.out
  have N1_0o := N1_0.out
  go_enter Try.func26, Try.ntmps26
  obtain ⟨w_a_0, hw_a_0⟩ : ∃ x, w.alloc (.cells #[.slice A0_0 a_rows.length c0_0] 43) = x := ⟨_, rfl⟩
  have bw_a_0 : Below w.heap.size w w_a_0 := by rw [← hw_a_0]; exact (Below.refl _ _).alloc (Nat.le_refl _) _
  have HBw_a_0 := Lib.hid (Below.step HB.out bw_a_0)
  clear bw_a_0
  have ka_0_0 : w_a_0.cell? ⟨w.heap.size, 0, none⟩ = some (.slice A0_0 a_rows.length c0_0) := by rw [← hw_a_0]; exact box_new _ _ _ 0 _ rfl
  obtain ⟨w_b_1, hw_b_1⟩ : ∃ x, w_a_0.alloc (.cells #[.slice A1_0 b_rows.length c1_0] 43) = x := ⟨_, rfl⟩
  have bw_b_1 : Below w_a_0.heap.size w_a_0 w_b_1 := by rw [← hw_b_1]; exact (Below.refl _ _).alloc (Nat.le_refl _) _
  have HBw_b_1 := Lib.hid (Below.step HBw_a_0.out bw_b_1)
  have ka_0_0__25 := cell_below bw_b_1 ka_0_0
  clear bw_b_1
  have kb_1_0 : w_b_1.cell? ⟨w_a_0.heap.size, 0, none⟩ = some (.slice A1_0 b_rows.length c1_0) := by rw [← hw_b_1]; exact box_new _ _ _ 0 _ rfl
  replace H := bind_hid H
  obtain ⟨t_7, qt_7, H⟩ := H
  go_wp2_with fail
  clear ka_0_0
  go_at_call 25
  refine (Go.Proofs.Ytpcdaoeijlifmaa.GlEqStringS.C (a_rows) (b_rows) A0_0 c0_0 A1_0 c1_0 _   (Lib.hid (Cells.below M0_0.out HBw_b_1.out)) N0_0 (Lib.hid (Cells.below M1_0.out HBw_b_1.out)) N1_0 qt_7).mono ?_
  rintro e_t_7 wt_7 ⟨rfl, bt_7⟩
  have HBwt_7 := Lib.hid (Below.step HBw_b_1.out bt_7)
  replace ka_0_0__25 := cell_below bt_7 ka_0_0__25
  replace kb_1_0 := cell_below bt_7 kb_1_0
  clear bt_7
  cases t_7 with
  | false =>
    replace H := let_hid H
    obtain ⟨t_8, ht_8, H⟩ := H
    obtain rfl : t_8 = true := ht_8.symm
    replace H := ite_t H
    obtain rfl := ret_hid H
    go_wp2_with fail
    go_ret
    exact ⟨rfl, HBwt_7.out⟩
  | true =>
    replace H := let_hid H
    obtain ⟨t_8, ht_8, H⟩ := H
    obtain rfl : t_8 = false := ht_8.symm
    replace H := ite_f H
    obtain rfl := ret_hid H
    go_wp2_with fail
    go_ret
    exact ⟨rfl, HBwt_7.out⟩
end Go.Proofs.Ytpcdaoeijlifmaa.GlEqBlock

