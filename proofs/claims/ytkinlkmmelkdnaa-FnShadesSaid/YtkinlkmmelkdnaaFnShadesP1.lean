/- The texts on which the proof of FnShades stands, one behind the other (1 of 6). No condition of their own. -/
import Derived.Lib.Hide
import Derived.Below
import Derived.Laws.OwnMore
import Derived.Laws.World
import Derived.Deep.Draws
import Derived.Lib.QuietBelow
import Derived.Lib.Strings
import Derived.OwnWalk
import Derived.Laws.Strings3
import Derived.Laws.AppendOwnNone
import Derived.Laws.DeepStrings4
import Derived.Laws.Slices
import Derived.Deep.Slices
import Derived.Laws.MakeOwn
import Derived.Maps.AppendAt
import Derived.Lib.LaidU8
import Derived.WalkKit
import Derived.WalkSpells
import Derived.Test.YtkinlkmmelkdnaaChecked
import Derived.BigQuiet
import Derived.Deep.QuietTactic
import Derived.Laws.AppendOwn
import Derived.IntWalk
import Derived.Laws.Bits64
import Derived.Outline
import Derived.Lib.SliceRun
import Derived.Lib.SmallJoins
import Derived.Deep.Fields
import Derived.ChangeSame
import Derived.WalkLawsBesides
import Derived.Deep.LoopGhost
import Derived.Deep.AppendLies
/- Words in which a Go function is written as a plain function that either has an answer or has none (a panic, or a loop that does not end in time); and how such a sentence is taken apart. No condition. -/
namespace Go.Proofs.Ytkinlkmmelkdnaa.GoP
set_option linter.unusedVariables false
open Go.RowKit

def idx {α : Type} (l : List α) (i : Int) : Option α := if 0 ≤ i then l[i.toNat]? else none
def letK {α ρ : Type} (x : α) (f : α → Option ρ) : Option ρ := f x
def iteK {ρ : Type} (c : Bool) (a b : Option ρ) : Option ρ := match c with | true => a | false => b
def joinK {γ : Type} {ρ : Type} (rest : γ) (f : γ → Option ρ) : Option ρ := f rest
def appK {α ρ : Type} (j : α → Option ρ) (x : α) : Option ρ := j x
def guardK {ρ : Type} (p : Prop) [Decidable p] (a : Option ρ) : Option ρ := if p then a else none
def bind2 {α β ρ : Type} (x : Option (α × β)) (f : α → β → Option ρ) : Option ρ := match x with | none => none | some (a, b) => f a b
def bind3 {α β γ ρ : Type} (x : Option (α × β × γ)) (f : α → β → γ → Option ρ) : Option ρ := match x with | none => none | some (a, b, c) => f a b c
def bind4 {α β γ δ ρ : Type} (x : Option (α × β × γ × δ)) (f : α → β → γ → δ → Option ρ) : Option ρ := match x with | none => none | some (a, b, c, d) => f a b c d
def unp2 {α β ρ : Type} (s : α × β) (f : α → β → Option ρ) : Option ρ := f s.1 s.2
def unp3 {α β γ ρ : Type} (s : α × β × γ) (f : α → β → γ → Option ρ) : Option ρ := f s.1 s.2.1 s.2.2
def unp4 {α β γ δ ρ : Type} (s : α × β × γ × δ) (f : α → β → γ → δ → Option ρ) : Option ρ := f s.1 s.2.1 s.2.2.1 s.2.2.2
/-- m rounds, counted from k on -/
def cntK {σ ρ : Type} (f : Nat → σ → (σ → Option ρ) → (σ → Option ρ) → Option ρ) : Nat → Nat → σ → (σ → Option ρ) → Option ρ
  | 0, _, s, fin => fin s
  | m + 1, k, s, fin => f k s (fun s' => cntK f m (k + 1) s' fin) fin
/-- rounds until one ends the loop, n at most -/
def loopK {σ ρ : Type} (f : σ → (σ → Option ρ) → (σ → Option ρ) → Option ρ) : Nat → σ → (σ → Option ρ) → Option ρ
  | 0, _, _ => none
  | n + 1, s, fin => f s (fun s' => loopK f n s' fin) fin

theorem let_hid {α ρ : Type} {x : α} {f : α → Option ρ} {r : ρ} (H : Hid (letK x f = some r)) : ∃ y, x = y ∧ Hid (f y = some r) := ⟨x, rfl, H⟩
theorem bind_hid {α ρ : Type} {x : Option α} {f : α → Option ρ} {r : ρ} (H : Hid (x.bind f = some r)) : ∃ y, Hid (x = some y) ∧ Hid (f y = some r) := by
  have h : x.bind f = some r := H
  cases x with
  | none => simp at h
  | some y => exact ⟨y, rfl, h⟩
theorem bind2_hid {α β ρ : Type} {x : Option (α × β)} {f : α → β → Option ρ} {r : ρ} (H : Hid (bind2 x f = some r)) : ∃ a b, Hid (x = some (a, b)) ∧ Hid (f a b = some r) := by
  have h : bind2 x f = some r := H
  cases x with
  | none => simp [bind2] at h
  | some y => exact ⟨y.1, y.2, rfl, h⟩
theorem bind3_hid {α β γ ρ : Type} {x : Option (α × β × γ)} {f : α → β → γ → Option ρ} {r : ρ} (H : Hid (bind3 x f = some r)) : ∃ a b c, Hid (x = some (a, b, c)) ∧ Hid (f a b c = some r) := by
  have h : bind3 x f = some r := H
  cases x with
  | none => simp [bind3] at h
  | some y => exact ⟨y.1, y.2.1, y.2.2, rfl, h⟩
theorem bind4_hid {α β γ δ ρ : Type} {x : Option (α × β × γ × δ)} {f : α → β → γ → δ → Option ρ} {r : ρ} (H : Hid (bind4 x f = some r)) : ∃ a b c d, Hid (x = some (a, b, c, d)) ∧ Hid (f a b c d = some r) := by
  have h : bind4 x f = some r := H
  cases x with
  | none => simp [bind4] at h
  | some y => exact ⟨y.1, y.2.1, y.2.2.1, y.2.2.2, rfl, h⟩
theorem ite_t {ρ : Type} {a b : Option ρ} {r : ρ} (H : Hid (iteK true a b = some r)) : Hid (a = some r) := H
theorem ite_f {ρ : Type} {a b : Option ρ} {r : ρ} (H : Hid (iteK false a b = some r)) : Hid (b = some r) := H
theorem join_hid {γ ρ : Type} {j : γ} {f : γ → Option ρ} {r : ρ} (H : Hid (joinK j f = some r)) : Hid (f j = some r) := H
theorem app_hid {α ρ : Type} {j : α → Option ρ} {x : α} {r : ρ} (H : Hid (appK j x = some r)) : Hid (j x = some r) := H
theorem guard_hid {ρ : Type} {p : Prop} [Decidable p] {a : Option ρ} {r : ρ} (H : Hid (guardK p a = some r)) : p ∧ Hid (a = some r) := by
  have h : guardK p a = some r := H
  unfold guardK at h
  by_cases hp : p
  · rw [if_pos hp] at h; exact ⟨hp, h⟩
  · rw [if_neg hp] at h; simp at h
theorem unp2_hid {α β ρ : Type} {a : α} {b : β} {f : α → β → Option ρ} {r : ρ} (H : Hid (unp2 (a, b) f = some r)) : Hid (f a b = some r) := H
theorem unp3_hid {α β γ ρ : Type} {a : α} {b : β} {c : γ} {f : α → β → γ → Option ρ} {r : ρ} (H : Hid (unp3 (a, b, c) f = some r)) : Hid (f a b c = some r) := H
theorem unp4_hid {α β γ δ ρ : Type} {a : α} {b : β} {c : γ} {d : δ} {f : α → β → γ → δ → Option ρ} {r : ρ} (H : Hid (unp4 (a, b, c, d) f = some r)) : Hid (f a b c d = some r) := H
theorem cnt_zero {σ ρ : Type} {f : Nat → σ → (σ → Option ρ) → (σ → Option ρ) → Option ρ} {k : Nat} {s : σ} {fin : σ → Option ρ} {r : ρ} (H : Hid (cntK f 0 k s fin = some r)) : Hid (fin s = some r) := H
theorem cnt_succ {σ ρ : Type} {f : Nat → σ → (σ → Option ρ) → (σ → Option ρ) → Option ρ} {m k : Nat} {s : σ} {fin : σ → Option ρ} {r : ρ} (H : Hid (cntK f (m + 1) k s fin = some r)) :
    Hid (f k s (fun s' => cntK f m (k + 1) s' fin) fin = some r) := H
theorem loop_zero {σ ρ : Type} {f : σ → (σ → Option ρ) → (σ → Option ρ) → Option ρ} {s : σ} {fin : σ → Option ρ} {r : ρ} (H : Hid (loopK f 0 s fin = some r)) : False := by
  have h : loopK f 0 s fin = some r := H
  simp [loopK] at h
theorem loop_succ {σ ρ : Type} {f : σ → (σ → Option ρ) → (σ → Option ρ) → Option ρ} {n : Nat} {s : σ} {fin : σ → Option ρ} {r : ρ} (H : Hid (loopK f (n + 1) s fin = some r)) :
    Hid (f s (fun s' => loopK f n s' fin) fin = some r) := H
theorem ret_hid {ρ : Type} {v r : ρ} (H : Hid (some v = some r)) : v = r := Option.some.inj H
theorem none_hid {ρ : Type} {r : ρ} (H : Hid ((none : Option ρ) = some r)) : False := by
  have h : (none : Option ρ) = some r := H
  simp at h
theorem idx_hid {α ρ : Type} {l : List α} {i : Int} {f : α → Option ρ} {r : ρ} (H : Hid ((idx l i).bind f = some r)) :
    ∃ (k : Nat) (x : α), i = (k : Int) ∧ k < l.length ∧ Hid (l[k]? = some x) ∧ Hid (f x = some r) := by
  have h : (idx l i).bind f = some r := H
  unfold idx at h
  by_cases hi : 0 ≤ i
  · rw [if_pos hi] at h
    cases hx : l[i.toNat]? with
    | none => rw [hx] at h; simp at h
    | some x =>
      rw [hx] at h
      exact ⟨i.toNat, x, (Int.toNat_of_nonneg hi).symm, (List.getElem?_eq_some_iff.1 hx).1, hx, h⟩
  · rw [if_neg hi] at h; simp at h
theorem idx_nat {α : Type} (l : List α) (k : Nat) : idx l (k : Int) = l[k]? := by unfold idx; rw [if_pos (by omega)]; simp
end Go.Proofs.Ytkinlkmmelkdnaa.GoP

/- Words for a slice that reads as a list of values, nil and empty let in; for slices of strings; and what becomes of them in later worlds. No condition. -/
namespace Go.Proofs.Ytkinlkmmelkdnaa.Rowed
set_option linter.unusedVariables false
open Go.RowKit

theorem add_block (a : Addr) (n : Nat) : (a.add n).block = a.block := by unfold Addr.add; split <;> rfl
theorem cell_lt {w : World} {a : Addr} {v : Value} (h : w.cell? a = some v) : a.block < w.heap.size := World.block_lt_of_cell? w a h
theorem cell_below {w w' : World} (hb : Below w.heap.size w w') {a : Addr} {v : Value} (hc : w.cell? a = some v) : w'.cell? a = some v := (hb.cell (cell_lt hc)).trans hc
theorem below_drewN (w : World) (m : Nat) : Below w.heap.size w (w.drewN m) := ⟨rfl, rfl, rfl, Nat.le_refl _, fun _ _ => rfl⟩
theorem Below.step {a b c : World} (h : Below a.heap.size a b) (k : Below b.heap.size b c) : Below a.heap.size a c := h.trans (k.mono h.size)

/-- the world has drawn, and nothing else has turned -/
def DrawnTo (w w' : World) : Prop := ∃ m, w' = w.drewN m
theorem DrawnTo.refl (w : World) : DrawnTo w w := ⟨0, rfl⟩
theorem DrawnTo.more {w w' : World} (h : DrawnTo w w') (n : Nat) : DrawnTo w (w'.drewN n) := let ⟨m, e⟩ := h; ⟨m + n, by rw [e, World.drewN_drewN]⟩
theorem DrawnTo.trans {a b c : World} (h : DrawnTo a b) (k : DrawnTo b c) : DrawnTo a c := by
  obtain ⟨m, rfl⟩ := h
  obtain ⟨n, rfl⟩ := k
  exact ⟨m + n, World.drewN_drewN ..⟩
theorem DrawnTo.cell {w w' : World} (h : DrawnTo w w') {a : Addr} {v : Value} (hc : w.cell? a = some v) : w'.cell? a = some v := by
  obtain ⟨m, rfl⟩ := h; exact hc
theorem DrawnTo.below {w w' : World} (h : DrawnTo w w') : Below w.heap.size w w' := by
  obtain ⟨m, rfl⟩ := h; exact below_drewN w m

/-- the slice 'A, n' reads as the cells xs (size cells each element) -/
def Cells (w : World) (size : Nat) (A : Option Addr) (n : Nat) (xs : List Value) : Prop :=
  xs.length = n * size ∧ (0 < xs.length → ∃ ad : Addr, A = some ad ∧ ∀ j u, xs[j]? = some u → w.cell? (ad.add j) = some u)

theorem Cells.below {w w' : World} {size n : Nat} {A : Option Addr} {xs : List Value} (h : Cells w size A n xs) (hb : Below w.heap.size w w') : Cells w' size A n xs :=
  ⟨h.1, fun hn => let ⟨ad, e, hc⟩ := h.2 hn; ⟨ad, e, fun j u hu => cell_below hb (hc j u hu)⟩⟩
theorem Cells.drewN {w : World} {size n : Nat} {A : Option Addr} {xs : List Value} (h : Cells w size A n xs) (m : Nat) : Cells (w.drewN m) size A n xs := h
theorem Cells.nil_ (w : World) (size : Nat) (A : Option Addr) : Cells w size A 0 [] := ⟨by simp, fun h => by simp at h⟩
theorem Cells.at_ {w : World} {n k : Nat} {A : Option Addr} {xs : List Value} (h : Cells w 1 A n xs) (hk : k < n) : ∃ ad u, A = some ad ∧ xs[k]? = some u ∧ w.cell? (ad.add k) = some u := by
  have hl : k < xs.length := by have := h.1; omega
  obtain ⟨ad, e, hc⟩ := h.2 (by omega)
  exact ⟨ad, xs[k], e, List.getElem?_eq_getElem hl, hc k _ (List.getElem?_eq_getElem hl)⟩
theorem Cells.of_own {w : World} {base size n c g : Nat} {e : TypeId} {xs : List Value} (h : w.ownsRow base e size (.slice (some ⟨g, 0, none⟩) n c) n xs) : Cells w size (some ⟨g, 0, none⟩) n xs :=
  ⟨h.1, fun _ => ⟨_, rfl, fun j u hu => h.cells (g := g) rfl j u hu⟩⟩

/-- a row that is filled from the left -/
def fill (a ys : List Value) (k : Nat) : List Value := a.take k ++ ys.drop k
theorem fill_zero (a ys : List Value) : fill a ys 0 = ys := by simp [fill]
theorem fill_all (a ys : List Value) (h : ys.length = a.length) : fill a ys a.length = a := by
  unfold fill; rw [List.take_of_length_le (Nat.le_refl _), ← h, List.drop_of_length_le (Nat.le_refl _), List.append_nil]
theorem fill_set (a ys : List Value) (k : Nat) (u : Value) (hk : k < ys.length) (hu : a[k]? = some u) : (fill a ys k).set k u = fill a ys (k + 1) := by
  have ha := (List.getElem?_eq_some_iff.1 hu).1
  have hau := (List.getElem?_eq_some_iff.1 hu).2
  unfold fill
  have hl : (a.take k).length = k := by rw [List.length_take]; omega
  rw [List.set_append_right _ _ (by omega), hl, Nat.sub_self, List.take_succ_eq_append_getElem ha, hau, List.drop_eq_getElem_cons hk, List.set_cons_zero, List.append_assoc]
  rfl
theorem fill_len (a ys : List Value) (k : Nat) (h : ys.length = a.length) : (fill a ys k).length = ys.length := by
  unfold fill; rw [List.length_append, List.length_take, List.length_drop]; omega

/-- the slice 'A, n' reads as the strings l -/
def Strs (w : World) (A : Option Addr) (n : Nat) (l : List ByteArray) : Prop := Cells w 1 A n (l.map Value.string)
theorem Strs.len {w : World} {A : Option Addr} {n : Nat} {l : List ByteArray} (h : Strs w A n l) : l.length = n := by have := h.1; simpa using this
theorem Strs.below {w w' : World} {A : Option Addr} {n : Nat} {l : List ByteArray} (h : Strs w A n l) (hb : Below w.heap.size w w') : Strs w' A n l := Cells.below h hb
theorem Strs.at_ {w : World} {A : Option Addr} {n k : Nat} {l : List ByteArray} (h : Strs w A n l) (hk : k < n) : ∃ ad x, A = some ad ∧ l[k]? = some x ∧ w.cell? (ad.add k) = some (.string x) := by
  obtain ⟨ad, u, e, hx, hc⟩ := Cells.at_ h hk
  rw [List.getElem?_map] at hx
  cases hl : l[k]? with
  | none => rw [hl] at hx; simp at hx
  | some x => rw [hl] at hx; obtain rfl : Value.string x = u := by simpa using hx
              exact ⟨ad, x, e, rfl, hc⟩

end Go.Proofs.Ytkinlkmmelkdnaa.Rowed

/- Words on what may turn between two worlds: only the blocks of one span; and on rows that lie in a span of blocks, read or owned. No condition. -/
namespace Go.Proofs.Ytkinlkmmelkdnaa.Turn
set_option linter.unusedVariables false
open Go.RowKit
open Go.Proofs.Ytkinlkmmelkdnaa.Rowed

/-- of what was there, only blocks from lo on and below hi may have turned -/
structure Turned (lo hi : Nat) (w w' : World) : Prop where
  os : w'.os = w.os
  tape : w'.tape = w.tape
  output : w'.output = w.output
  size : w.heap.size ≤ w'.heap.size
  block : ∀ k, k < w.heap.size → ¬ (lo ≤ k ∧ k < hi) → w'.heap[k]? = w.heap[k]?
theorem Turned.of_grown {w w' : World} {lo hi : Nat} {r : Option Nat} (h : w.grownBy w' r) (hr : ∀ k, r = some k → lo ≤ k ∧ k < hi) : Turned lo hi w w' :=
  ⟨h.os, h.tape, h.output, h.size, fun k hk hn => h.block k hk (fun e => hn (hr k e.symm))⟩
theorem below_turned {w wr w' : World} {lo hi : Nat} (h : Below w.heap.size w wr) (t : Turned lo hi wr w') (hl : w.heap.size ≤ lo) : Below w.heap.size w w' :=
  ⟨t.os.trans h.os, t.tape.trans h.tape, t.output.trans h.output, Nat.le_trans h.size t.size, fun k hk => (t.block k (Nat.lt_of_lt_of_le hk h.size) (by omega)).trans (h.block k hk)⟩

/-- the slice 'A, n' reads as the cells xs, and they lie in blocks from lo on and below hi -/
structure Rd (w : World) (size lo hi : Nat) (A : Option Addr) (n : Nat) (xs : List Value) : Prop where
  cells : Cells w size A n xs
  span : ∀ ad, A = some ad → 0 < xs.length → lo ≤ ad.block ∧ ad.block < hi
  top : hi ≤ w.heap.size
theorem Rd.below {w w' : World} {size lo hi n : Nat} {A : Option Addr} {xs : List Value} (h : Rd w size lo hi A n xs) (hb : Below w.heap.size w w') : Rd w' size lo hi A n xs :=
  ⟨h.cells.below hb, h.span, Nat.le_trans h.top hb.size⟩
theorem Rd.turned {w w' : World} {size lo hi a b n : Nat} {A : Option Addr} {xs : List Value} (h : Rd w size lo hi A n xs) (t : Turned a b w w') (hd : hi ≤ a ∨ b ≤ lo) : Rd w' size lo hi A n xs :=
  ⟨⟨h.cells.1, fun hn => by
    obtain ⟨ad, e, hc⟩ := h.cells.2 hn
    have hs := h.span ad e hn
    have ht := h.top
    exact ⟨ad, e, fun j u hu => (World.cell?_of_block (by rw [add_block]; exact t.block _ (by omega) (by omega))).trans (hc j u hu)⟩⟩, h.span, Nat.le_trans h.top t.size⟩
/-- cells that came in -/
theorem Rd.came {w : World} {size n : Nat} {A : Option Addr} {xs : List Value} (h : Cells w size A n xs) : Rd w size 0 w.heap.size A n xs :=
  ⟨h, fun ad e hn => by
    obtain ⟨ad', e', hc⟩ := h.2 hn
    obtain rfl : ad = ad' := by rw [e] at e'; exact Option.some.inj e'
    have h0 := cell_lt (hc 0 _ (List.getElem?_eq_getElem hn))
    rw [add_block] at h0
    exact ⟨Nat.zero_le _, h0⟩, Nat.le_refl _⟩

/-- the slice 'A, n, c' is a row of the call's own with the cells xs, in a block from lo on and below hi -/
structure Ow (w : World) (T : TypeId) (size lo hi : Nat) (A : Option Addr) (n c : Nat) (xs : List Value) : Prop where
  own : w.ownsRow lo T size (.slice A n c) n xs
  span : ∀ q, (Value.slice A n c).ownBlock = some q → q < hi
  top : hi ≤ w.heap.size
theorem Ow.of {w : World} {T : TypeId} {size lo n c : Nat} {A : Option Addr} {xs : List Value} (h : w.ownsRow lo T size (.slice A n c) n xs) : Ow w T size lo w.heap.size A n c xs :=
  ⟨h, fun q hq => (h.lt q hq).2, Nat.le_refl _⟩
theorem Ow.kept {w w' : World} {T : TypeId} {size lo hi a b n c : Nat} {A : Option Addr} {xs : List Value} (h : Ow w T size lo hi A n c xs) (t : Turned a b w w') (hd : hi ≤ a ∨ b ≤ lo) : w'.ownsRow lo T size (.slice A n c) n xs := by
  refine ⟨h.own.1, ?_⟩
  rcases h.own.2 with h0 | ⟨g, cap, cur, hv, hb, hh, rest⟩
  · exact .inl h0
  · have hg : g < hi := h.span g (by rw [hv]; rfl)
    have ht := h.top
    exact .inr ⟨g, cap, cur, hv, hb, (t.block g (by omega) (by omega)).trans hh, rest⟩
theorem Ow.turned {w w' : World} {T : TypeId} {size lo hi a b n c : Nat} {A : Option Addr} {xs : List Value} (h : Ow w T size lo hi A n c xs) (t : Turned a b w w') (hd : hi ≤ a ∨ b ≤ lo) : Ow w' T size lo hi A n c xs :=
  ⟨h.kept t hd, h.span, Nat.le_trans h.top t.size⟩
theorem Turned.of_below {w w' : World} (h : Below w.heap.size w w') : Turned 0 0 w w' := ⟨h.os, h.tape, h.output, h.size, fun k hk _ => h.block k hk⟩
theorem Ow.below {w w' : World} {T : TypeId} {size lo hi n c : Nat} {A : Option Addr} {xs : List Value} (h : Ow w T size lo hi A n c xs) (hb : Below w.heap.size w w') : Ow w' T size lo hi A n c xs :=
  h.turned (Turned.of_below hb) (.inr (Nat.zero_le _))
theorem own_cells {w : World} {base n c size : Nat} {A : Option Addr} {e : TypeId} {xs : List Value} (h : w.ownsRow base e size (.slice A n c) n xs) : Cells w size A n xs := by
  rcases h.2 with ⟨hv, h0⟩ | ⟨g, cap, cur, hv, _⟩
  · subst h0
    have := h.1
    exact ⟨this, fun hn => by rw [Nat.zero_mul] at this; omega⟩
  · injection hv with e1 e2 e3
    subst e1
    exact Cells.of_own h
theorem Ow.cells {w : World} {T : TypeId} {size lo hi n c : Nat} {A : Option Addr} {xs : List Value} (h : Ow w T size lo hi A n c xs) : Cells w size A n xs := own_cells h.own
/-- what is read only -/
theorem Ow.rd {w : World} {T : TypeId} {size lo hi n c : Nat} {A : Option Addr} {xs : List Value} (h : Ow w T size lo hi A n c xs) : Rd w size lo hi A n xs :=
  ⟨h.cells, fun ad e hn => by
    rcases h.own.2 with ⟨hv, h0⟩ | ⟨g, cap, cur, hv, hb, _⟩
    · have := h.own.1
      rw [h0, Nat.zero_mul] at this
      omega
    · have hg : g < hi := h.span g (by rw [hv]; rfl)
      injection hv with e1 e2 e3
      subst e1
      obtain rfl := Option.some.inj e
      exact ⟨hb, hg⟩, h.top⟩
/-- a mark, or another writing of one row -/
theorem Ow.writes {w w' : World} {T : TypeId} {size lo hi n c : Nat} {A : Option Addr} {xs : List Value} (h : Ow w T size lo hi A n c xs) (hg : w.grownBy w' (Value.slice A n c).ownBlock) : Turned lo hi w w' :=
  Turned.of_grown hg (fun k hk => ⟨(h.own.lt k hk).1, h.span k hk⟩)
theorem Ow.written {w w' : World} {T : TypeId} {size lo hi n c : Nat} {A : Option Addr} {xs ys : List Value} (h : Ow w T size lo hi A n c xs) (hs : w.heap.size ≤ w'.heap.size) (ho : w'.ownsRow lo T size (.slice A n c) n ys) : Ow w' T size lo hi A n c ys :=
  ⟨ho, h.span, Nat.le_trans h.top hs⟩

/-- the answer has no memory, and nothing has turned -/
def Gives (v : Value) (w : World) (e : Ending) (w' : World) : Prop := e = .returned v ∧ Below w.heap.size w w'
end Go.Proofs.Ytkinlkmmelkdnaa.Turn

/- Small words on types' facts, on classes of worlds, and on rows that are written. No condition. -/
namespace Go.Proofs.Ytkinlkmmelkdnaa.Aid
set_option linter.unusedVariables false
open Go.RowKit
open Go.Proofs.Ytkinlkmmelkdnaa.Rowed Go.Proofs.Ytkinlkmmelkdnaa.Turn

theorem info_parts {P : Program} {T : TypeId} {z : Value} {s b : Nat} (h : (P.info? T).map (fun i => (i.zero, i.size, i.bytes)) = some (some z, s, b)) : ∃ i, P.info? T = some i ∧ i.zero = some z ∧ i.size = s ∧ i.bytes = b := by
  cases hi : P.info? T with
  | none => rw [hi] at h; simp at h
  | some i => rw [hi] at h; simp at h; exact ⟨i, rfl, h.1, h.2.1, h.2.2⟩
theorem below_class {X Y : World} (h : ∃ p : Regrown, Y = Go.Sort.grow (redrawn X p.d) p.os) : Below X.heap.size X Y := by
  obtain ⟨⟨d, os⟩, rfl⟩ := h; exact below_regrown _ _ _
theorem grown_of {W W' : World} (h : Below W.heap.size W W') : W.grownBy W' none := ⟨h.os, h.tape, h.output, h.size, fun k hk _ => h.block k hk⟩
theorem grown_weak {W W' : World} (h : W.grownBy W' none) (g : Nat) : W.grownBy W' (some g) := ⟨h.os, h.tape, h.output, h.size, fun k hk _ => h.block k hk (by simp)⟩
theorem grown_tr {a b c : World} {r : Option Nat} (h : a.grownBy b r) (k : b.grownBy c r) : a.grownBy c r :=
  ⟨k.os.trans h.os, k.tape.trans h.tape, k.output.trans h.output, Nat.le_trans h.size k.size, fun i hi hr => (k.block i (Nat.lt_of_lt_of_le hi h.size) hr).trans (h.block i hi hr)⟩
theorem grown_refl (w : World) (r : Option Nat) : w.grownBy w r := ⟨rfl, rfl, rfl, Nat.le_refl _, fun _ _ _ => rfl⟩
theorem ret_int {k : IntKind} {a b : Int} (h : a = b) : Ending.returned (.int k a) = .returned (.int k b) := by rw [h]
theorem ret_bool {a b : Bool} (h : a = b) : Ending.returned (.bool a) = .returned (.bool b) := by rw [h]
end Go.Proofs.Ytkinlkmmelkdnaa.Aid

/- Words on memory for the contracts of plain functions. No condition. -/
namespace Go.Proofs.Ytkinlkmmelkdnaa.GoM
set_option linter.unusedVariables false
open Go.RowKit
open Go.Proofs.Ytkinlkmmelkdnaa.Rowed Go.Proofs.Ytkinlkmmelkdnaa.Turn

theorem box_new (w : World) (cs : List Value) (T : TypeId) (j : Nat) (u : Value) (h : cs[j]? = some u) : (w.alloc (.cells ⟨cs⟩ T)).cell? ⟨w.heap.size, j, none⟩ = some u := by
  have hb : (w.alloc (.cells ⟨cs⟩ T)).heap[w.heap.size]? = some (.cells ⟨cs⟩ T) := heap_alloc_new w _
  unfold World.cell?
  rw [hb]
  simpa using h
theorem size_list (s : ByteArray) : s.toList.length = s.size := by rw [Lib.toList_data]; rfl
theorem byte_rule {s : ByteArray} {n : Nat} {y : UInt8} (l : n < s.toList.length) (g : s.toList[n]? = some y) : ∀ h : n < s.size, s[n]'h = y := by
  intro h
  have e := List.getElem?_eq_getElem l
  rw [g] at e
  have := Option.some.inj e
  rw [this]
  simp [Lib.toList_data]
  rfl
theorem own_empty {w wc : World} {T K : Nat} (h : w.heap.size ≤ wc.heap.size) : (wc.alloc (.cells #[] T)).ownsRow w.heap.size T K (.slice (some ⟨wc.heap.size, 0, none⟩) 0 0) 0 [] :=
  ⟨by simp, .inr ⟨wc.heap.size, 0, #[], rfl, h, heap_alloc_new wc _, Nat.le_refl _, by unfold maxLen; omega, by simp, by simp⟩⟩
theorem own_laid {w wc : World} {T K n : Nat} {cs : List Value} {xs : List Value} (h : w.heap.size ≤ wc.heap.size) (hx : cs = xs) (hl : cs.length = n * K) (hn : n ≤ maxLen) : (wc.alloc (.cells ⟨cs⟩ T)).ownsRow w.heap.size T K (.slice (some ⟨wc.heap.size, 0, none⟩) n n) n xs := by
  subst hx
  exact ⟨hl, .inr ⟨wc.heap.size, n, ⟨cs⟩, rfl, h, heap_alloc_new wc _, Nat.le_refl _, hn, by simpa using hl, by rw [← hl]; simp⟩⟩
theorem add_flat (b o n : Nat) : (⟨b, o, none⟩ : Addr).add n = ⟨b, o + n, none⟩ := by
  unfold Addr.add; split
  · rename_i h; subst h; rfl
  · rfl
theorem strs_at {w : World} {A : Option Addr} {n k : Nat} {l : List ByteArray} (h : Cells w 1 A n (l.map Value.string)) (hk : k < n) : ∃ (b o : Nat) (x : ByteArray), A = some ⟨b, o, none⟩ ∧ l[k]? = some x ∧ w.cell? ⟨b, o + k, none⟩ = some (.string x) := by
  have hl : k < l.length := by have := h.1; rw [List.length_map] at this; omega
  obtain ⟨⟨b, o, sp⟩, e, hc⟩ := h.2 (by rw [List.length_map]; omega)
  have h0 := hc 0 (.string l[0]) (by rw [List.getElem?_map, List.getElem?_eq_getElem (show 0 < l.length by omega)]; rfl)
  obtain rfl : sp = none := cell_spot (b := b) (o := o) h0
  have hs := List.getElem?_eq_getElem hl
  have := hc k (.string l[k]) (by rw [List.getElem?_map, hs]; rfl)
  rw [add_flat] at this
  exact ⟨b, o, l[k], e, hs, this⟩
theorem bools_at {w : World} {A : Option Addr} {n k : Nat} {l : List Bool} (h : Cells w 1 A n (l.map Value.bool)) (hk : k < n) : ∃ (b o : Nat) (x : Bool), A = some ⟨b, o, none⟩ ∧ l[k]? = some x ∧ w.cell? ⟨b, o + k, none⟩ = some (.bool x) := by
  have hl : k < l.length := by have := h.1; rw [List.length_map] at this; omega
  obtain ⟨⟨b, o, sp⟩, e, hc⟩ := h.2 (by rw [List.length_map]; omega)
  have h0 := hc 0 (.bool l[0]) (by rw [List.getElem?_map, List.getElem?_eq_getElem (show 0 < l.length by omega)]; rfl)
  obtain rfl : sp = none := cell_spot (b := b) (o := o) h0
  have hs := List.getElem?_eq_getElem hl
  have := hc k (.bool l[k]) (by rw [List.getElem?_map, hs]; rfl)
  rw [add_flat] at this
  exact ⟨b, o, l[k], e, hs, this⟩
theorem own_nil {w : World} {b T K : Nat} : w.ownsRow b T K (.slice none 0 0) 0 [] := ⟨by simp, .inl ⟨rfl, rfl⟩⟩
theorem own_lower {w : World} {b base n size : Nat} {v : Value} {e : TypeId} {xs : List Value} (h : w.ownsRow base e size v n xs) (hb : b ≤ base) : w.ownsRow b e size v n xs :=
  ⟨h.1, by
    rcases h.2 with h0 | ⟨g, cap, cur, hv, hb', rest⟩
    · exact .inl h0
    · exact .inr ⟨g, cap, cur, hv, Nat.le_trans hb hb', rest⟩⟩
theorem own_below {w w' : World} {base n size : Nat} {v : Value} {e : TypeId} {xs : List Value} (h : w.ownsRow base e size v n xs) (hb : Below w.heap.size w w') : w'.ownsRow base e size v n xs :=
  h.kept (Aid.grown_of hb) (by cases v.ownBlock <;> simp)
theorem own_push {α : Type} {f : List α → List Value} {cx : List Value} {l t : List α} {x : α} {w' : World} {b T K : Nat} {v' : Value} {n : Nat} (ht : l ++ [x] = t) (hf : f (l ++ [x]) = f l ++ cx) (hn : l.length = n) (h : w'.ownsRow b T K v' (n + 1) (f l ++ cx)) :
    ∃ g cap, v' = .slice (some ⟨g, 0, none⟩) t.length cap ∧ w'.ownsRow b T K (.slice (some ⟨g, 0, none⟩) t.length cap) t.length (f t) := by
  subst ht
  subst hn
  have el : (l ++ [x]).length = l.length + 1 := by simp
  obtain ⟨g, cap, rfl⟩ : ∃ g cap, v' = .slice (some ⟨g, 0, none⟩) (l.length + 1) cap := by
    rcases h.2 with ⟨_, h⟩ | ⟨g3, cap3, _, h, _⟩
    · omega
    · exact ⟨g3, cap3, h⟩
  exact ⟨g, cap, by rw [el], by rw [el, hf]; exact h⟩
theorem news_new {w w2 : World} {cs : List Value} {T : TypeId} (h : w.alloc (.cells ⟨cs⟩ T) = w2) : ∀ j u, cs[j]? = some u → w2.cell? ((⟨w.heap.size, 0, none⟩ : Addr).add j) = some u := by
  intro j u hu
  subst h
  have : (⟨w.heap.size, 0, none⟩ : Addr).add j = ⟨w.heap.size, j, none⟩ := by
    unfold Addr.add; split
    · rename_i hj; subst hj; rfl
    · simp
  rw [this]
  exact box_new w cs T j u hu
theorem one_cells {l : List Value} (h : l.all (fun u => u.oneCell') = true) : ∀ u ∈ l, u.oneCell' = true := fun u hu => List.all_eq_true.1 h u hu
theorem cat_rule {P : Program} {a b c : ByteArray} (h : a ++ b = c) (hl : a.size + b.size ≤ maxLen) : ∀ W, (Op.stringOp .add a b).run P W = .ok (.string c) W := by
  intro W
  rw [run_string_add_sum]
  · subst h; rfl
  · unfold maxLen at hl; omega
theorem slice_both {P : Program} {t : TypeId} {s c : ByteArray} {k k' : IntKind} {i j : Int} (hu : P.underlying t = some .string) (h : s.extract i.toNat j.toNat = c) (hl : 0 ≤ i ∧ i ≤ j ∧ j ≤ (s.size : Int)) :
    ∀ W, (Instr.slice t (.string s) (some (.int k i)) (some (.int k' j)) none).run P W = .ok (.string c) W := by
  intro W
  rw [run_slice_string_if _ _ _ _ _ _ _ hu, if_pos ⟨by omega, hl.2.2⟩, if_pos ⟨hl.1, hl.2.1⟩, h]
theorem slice_from {P : Program} {t : TypeId} {s c : ByteArray} {k : IntKind} {i : Int} (hu : P.underlying t = some .string) (h : s.extract i.toNat s.size = c) (hl : 0 ≤ i ∧ i ≤ (s.size : Int)) :
    ∀ W, (Instr.slice t (.string s) (some (.int k i)) none none).run P W = .ok (.string c) W := by
  intro W
  rw [run_slice_string_from_if _ _ _ _ _ hu, if_pos hl, h]
theorem slice_to {P : Program} {t : TypeId} {s c : ByteArray} {k : IntKind} {j : Int} (hu : P.underlying t = some .string) (h : s.extract 0 j.toNat = c) (hl : 0 ≤ j ∧ j ≤ (s.size : Int)) :
    ∀ W, (Instr.slice t (.string s) none (some (.int k j)) none).run P W = .ok (.string c) W := by
  intro W
  rw [run_slice_string_to_if _ _ _ _ _ hu, if_pos hl, h]
theorem results_tmp4 {fn : Func} {t u v x : Tmp} (h : fn.results = #[.tmp t, .tmp u, .tmp v, .tmp x]) (tmps : Array Value) (P : Program) (w : World) :
    (results fn tmps).run P w = .ok (.tuple #[tmps.getD t undef, tmps.getD u undef, tmps.getD v undef, tmps.getD x undef]) w := by
  simp [results, h]
/-- the walk stands here -/
def Stop (p : Prop) : Prop := p
theorem stop_in {p : Prop} (h : Stop p) : p := h
theorem stop_out {p : Prop} (h : p) : Stop p := h
/-- two rows lie in different blocks -/
def Apart (A B : Option Addr) : Prop := ∀ a b, A = some a → B = some b → a.block ≠ b.block
theorem Apart.symm {A B : Option Addr} (h : Apart A B) : Apart B A := fun a b ha hb e => h b a hb ha e.symm
theorem own_lt {w : World} {b T K n m c : Nat} {A : Option Addr} {xs : List Value} (h : w.ownsRow b T K (.slice A m c) n xs) (a : Addr) (ha : A = some a) : b ≤ a.block ∧ a.block < w.heap.size := by
  subst ha
  exact h.lt a.block rfl
theorem apart_fresh {w : World} {b T K n m c : Nat} {A : Option Addr} {xs : List Value} (h : w.ownsRow b T K (.slice A m c) n xs) : Apart (some ⟨w.heap.size, 0, none⟩) A := by
  intro a a' ha ha' e
  have := (own_lt h a' ha').2
  injection ha with ha
  subst ha
  simp at e
  omega
theorem apart_call {w w1 : World} {b T K n m c T' K' n' m' c' : Nat} {A B : Option Addr} {xs ys : List Value} (h1 : w1.ownsRow w.heap.size T K (.slice A m c) n xs) (h : w.ownsRow b T' K' (.slice B m' c') n' ys) : Apart A B := by
  intro a a' ha ha' e
  have := (own_lt h a' ha').2
  have := (own_lt h1 a ha).1
  omega
theorem apart_box {w : World} {g j : Nat} {v : Value} (h : w.cell? ⟨g, j, none⟩ = some v) : Apart (some ⟨w.heap.size, 0, none⟩) (some ⟨g, 0, none⟩) := by
  intro a a' ha ha' e
  have hl : g < w.heap.size := cell_lt h
  injection ha with ha
  injection ha' with ha'
  subst ha
  subst ha'
  simp at e
  omega
theorem apart_callbox {w w1 : World} {T K n m c g j : Nat} {A : Option Addr} {xs : List Value} {v : Value} (h1 : w1.ownsRow w.heap.size T K (.slice A m c) n xs) (h : w.cell? ⟨g, j, none⟩ = some v) : Apart A (some ⟨g, 0, none⟩) := by
  intro a a' ha ha' e
  have hl : g < w.heap.size := cell_lt h
  have := (own_lt h1 a ha).1
  injection ha' with ha'
  subst ha'
  simp at e
  omega
theorem apart_app {w : World} {n c n' c' : Nat} {A A' B : Option Addr} (hD : Apart A B) (hB : ∀ a, B = some a → a.block < w.heap.size) (h : (Value.slice A' n' c').ownBlock = (Value.slice A n c).ownBlock ∨ (Value.slice A' n' c').ownBlock = some w.heap.size) : Apart A' B := by
  intro a a' ha ha' e
  have hl := hB a' ha'
  subst ha
  rcases h with h | h
  · cases A with
    | none => simp [Value.ownBlock] at h
    | some x => simp only [Value.ownBlock, Option.some.injEq] at h; exact hD x a' rfl ha' (h ▸ e)
  · simp only [Value.ownBlock, Option.some.injEq] at h; omega
theorem own_other {w w' : World} {b T K n m c n' c' : Nat} {A B : Option Addr} {ys : List Value} (h : w.ownsRow b T K (.slice B m c) n ys) (hg : w.grownBy w' (Value.slice A n' c').ownBlock) (hD : Apart A B) : w'.ownsRow b T K (.slice B m c) n ys := by
  refine h.kept hg ?_
  cases B with
  | none => exact .inl rfl
  | some y =>
    refine .inr ?_
    cases A with
    | none => simp [Value.ownBlock]
    | some x => simp only [Value.ownBlock, ne_eq, Option.some.injEq]; exact fun e => hD x y rfl rfl e.symm
theorem cell_other {w w' : World} {n' c' : Nat} {A : Option Addr} {a : Addr} {v : Value} (h : w.cell? a = some v) (hg : w.grownBy w' (Value.slice A n' c').ownBlock) (hD : Apart A (some ⟨a.block, 0, none⟩)) : w'.cell? a = some v := by
  rw [World.cell?_of_block (hg.block a.block (cell_lt h) ?_)]
  · exact h
  · cases A with
    | none => simp [Value.ownBlock]
    | some x => simp only [Value.ownBlock, ne_eq, Option.some.injEq]; exact fun e => hD x _ rfl rfl e.symm
theorem apart_old {wr : World} {b T K n m c g : Nat} {A : Option Addr} {xs : List Value} (h : wr.ownsRow b T K (.slice A m c) n xs) (hg : g < b) : Apart A (some ⟨g, 0, none⟩) := by
  intro a a' ha ha' e
  have := (own_lt h a ha).1
  injection ha' with ha'
  subst ha'
  simp at e
  omega
theorem own_len {w : World} {b T K n m c : Nat} {A : Option Addr} {xs : List Value} (h : m = n) (hO : w.ownsRow b T K (.slice A n c) n xs) : w.ownsRow b T K (.slice A m c) m xs := by subst h; exact hO
theorem own_max {w : World} {b T K n c : Nat} {A : Option Addr} {xs : List Value} (h : w.ownsRow b T K (.slice A n c) n xs) : n ≤ 9223372036854775807 := by
  rcases h.2 with ⟨_, h0⟩ | ⟨g, cap, cur, hv, _, _, h1, h2, _⟩
  · omega
  · unfold maxLen at h2; omega
theorem grown_below {w wr w2 : World} {q : Option Nat} (h : w.grownBy wr q) (hb : Below wr.heap.size wr w2) : w.grownBy w2 q :=
  Aid.grown_tr h ⟨hb.os, hb.tape, hb.output, hb.size, fun k hk _ => hb.block k hk⟩
theorem own_some {w : World} {b T K n c : Nat} {A : Option Addr} {xs : List Value} (h : w.ownsRow b T K (.slice A n c) n xs) (hn : 0 < n) : ∃ g, A = some ⟨g, 0, none⟩ := by
  rcases h.2 with ⟨_, h0⟩ | ⟨g, cap, cur, hv, _⟩
  · omega
  · injection hv with e1; exact ⟨g, e1⟩
theorem own_stores {b T K n c g : Nat} (ps : List (Nat × Value)) : ∀ {w : World} {xs : List Value}, w.ownsRow b T K (.slice (some ⟨g, 0, none⟩) n c) n xs →
    (ps.foldl (fun w p => w.setCell ⟨g, p.1, none⟩ p.2) w).ownsRow b T K (.slice (some ⟨g, 0, none⟩) n c) n (ps.foldl (fun xs p => xs.set p.1 p.2) xs) ∧ w.grownBy (ps.foldl (fun w p => w.setCell ⟨g, p.1, none⟩ p.2) w) (some g) := by
  induction ps with
  | nil => intro w xs h; exact ⟨h, Aid.grown_refl _ _⟩
  | cons p ps ih =>
    intro w xs h
    have h1 := h.stored p.1 p.2
    have h2 := ih h1.1
    exact ⟨h2.1, Aid.grown_tr h1.2 h2.2⟩
theorem flat_set {α : Type} (f : α → List Value) (K : Nat) (hK : ∀ x, (f x).length = K) : ∀ (l : List α) (k j : Nat) (s1 s2 : α) (v : Value), k < l.length → j < K → (f s1).set j v = f s2 → ((l.set k s1).flatMap f).set (k * K + j) v = (l.set k s2).flatMap f := by
  intro l
  induction l with
  | nil => intro k j s1 s2 v hk; simp at hk
  | cons x l ih =>
    intro k j s1 s2 v hk hj hc
    cases k with
    | zero =>
      simp only [List.set_cons_zero, List.flatMap_cons, Nat.zero_mul, Nat.zero_add]
      rw [List.set_append_left _ _ (by rw [hK]; exact hj), hc]
    | succ k =>
      simp only [List.set_cons_succ, List.flatMap_cons]
      rw [List.set_append_right _ _ (by rw [hK, Nat.add_mul]; omega), hK, show (k + 1) * K + j - K = k * K + j by rw [Nat.add_mul]; omega, ih k j s1 s2 v (by simpa using hk) hj hc]
theorem set_self {α : Type} {l : List α} {k : Nat} {x : α} (h : l[k]? = some x) : l.set k x = l := by
  obtain ⟨hk, e⟩ := List.getElem?_eq_some_iff.1 h
  rw [← e]; simp
theorem map_flat {α : Type} (g : α → Value) (l : List α) : l.map g = l.flatMap (fun x => [g x]) := by
  induction l with
  | nil => rfl
  | cons x l ih => simp [List.flatMap_cons, ih]
theorem made_flat {α : Type} (f : α → List Value) (x0 : α) (z : Value) (K n : Nat) (hz : z.cells.toList = f x0) (hK : z.cells.size = K) (hp : 0 < K) : (madeCells z.cells (n * K)).toList = (List.replicate n x0).flatMap f := by
  have hl : (f x0).length = K := by rw [← hz, ← hK]; simp
  have hr : ∀ n, (List.range (n * K)).map (fun i => z.cells[i % z.cells.size]!) = (List.replicate n x0).flatMap f := by
    intro n
    induction n with
    | zero => simp
    | succ n ih =>
      rw [List.replicate_succ', List.flatMap_append, ← ih, Nat.add_mul, Nat.one_mul, List.range_add, List.map_append]
      congr 1
      simp only [List.map_map, List.flatMap_cons, List.flatMap_nil, List.append_nil]
      apply List.ext_getElem
      · simp [hl]
      · intro i h1 h2
        have hi : i < K := by simpa using h1
        simp only [List.getElem_map, List.getElem_range, Function.comp]
        rw [hK, Nat.add_comm, Nat.add_mul_mod_self_right, Nat.mod_eq_of_lt hi]
        have h3 : i < z.cells.size := by omega
        rw [getElem!_pos z.cells i h3]
        have : z.cells.toList[i]'(by simpa using h3) = z.cells[i] := by simp
        rw [← this]
        congr 1
  unfold madeCells
  rw [← hr n]
  simp
/-- a row is no longer than its room; nil has none -/
def Room (A : Option Addr) (n c : Nat) : Prop := n ≤ c ∧ (A = none → c = 0)
theorem own_room {w : World} {b T K n c : Nat} {A : Option Addr} {xs : List Value} (h : w.ownsRow b T K (.slice A n c) n xs) : Room A n c := by
  rcases h.2 with ⟨h1, h2⟩ | ⟨g, cap, cur, h1, _, _, hr, _⟩
  · simp only [Value.slice.injEq] at h1
    exact ⟨by omega, fun _ => by omega⟩
  · simp only [Value.slice.injEq] at h1
    exact ⟨by omega, fun e => by rw [h1.1] at e; simp at e⟩
theorem flat_drop {α : Type} (f : α → List Value) (K : Nat) (hK : ∀ x, (f x).length = K) : ∀ (l : List α) (j : Nat), (l.flatMap f).drop (j * K) = (l.drop j).flatMap f := by
  intro l
  induction l with
  | nil => intro j; simp
  | cons x l ih =>
    intro j
    cases j with
    | zero => simp
    | succ j =>
      have e : (j + 1) * K = (f x).length + j * K := by rw [hK x, Nat.add_mul]; omega
      rw [List.flatMap_cons, e, List.drop_append, List.drop_of_length_le (by omega), List.drop_succ_cons, ← ih j]
      simp
/-- s[lo:] of a row that came in -/
theorem slice_tail {P : Program} {t e : TypeId} {i : TypeInfo} {k : IntKind} {K n c : Nat} {A : Option Addr} {lo : Int} {w : World} {xs ys : List Value} {m : Nat}
    (ht : P.underlying t = some (.slice (P.elem t))) (he : P.elem t = e) (hi : P.info? e = some i) (hs : i.size = K) (hc : Cells w K A n xs) (hR : Room A n c) (hl : 0 ≤ lo ∧ lo ≤ (n : Int)) (hm : n - lo.toNat = m) (hd : xs.drop (lo.toNat * K) = ys) :
    ∃ A' c', (∀ W, (Instr.slice t (.slice A n c) (some (.int k lo)) none none).run P W = .ok (.slice A' m c') W) ∧ Cells w K A' m ys ∧ Room A' m c' := by
  subst hm; subst hd
  have hr := hR.1
  have hsz : ∀ W, (sizeOf (P.elem t)).run P W = .ok K W := by intro W; subst he; simp [sizeOf, typeInfo, hi, hs]
  refine ⟨if c = lo.toNat then A else A.map (·.add (lo.toNat * K)), c - lo.toNat, ?_, ?_, ⟨by omega, fun e => by
    have : A = none := by
      by_cases h : c = lo.toNat
      · rw [if_pos h] at e; exact e
      · rw [if_neg h] at e; simpa using e
    have := hR.2 this; omega⟩⟩
  · intro W
    rw [run_slice_l (P := P) W t A n c ht k lo hl.1 hl.2, hsz W]
    rfl
  · refine ⟨by rw [List.length_drop, hc.1, Nat.sub_mul], fun h0 => ?_⟩
    rw [List.length_drop] at h0
    obtain ⟨ad, rfl, h⟩ := hc.2 (by omega)
    have h1 := hc.1
    have hne : ¬ c = lo.toNat := by
      intro e2
      have : n = lo.toNat := by omega
      rw [h1, this] at h0; omega
    refine ⟨ad.add (lo.toNat * K), by rw [if_neg hne]; rfl, fun j u hu => ?_⟩
    rw [List.getElem?_drop] at hu
    have := h _ u hu
    rwa [Go.Deep.add_add]
theorem flat_take {α : Type} (f : α → List Value) (K : Nat) (hK : ∀ x, (f x).length = K) : ∀ (l : List α) (j : Nat), (l.flatMap f).take (j * K) = (l.take j).flatMap f := by
  intro l
  induction l with
  | nil => intro j; simp
  | cons x l ih =>
    intro j
    cases j with
    | zero => simp
    | succ j =>
      have e : (j + 1) * K = (f x).length + j * K := by rw [hK x, Nat.add_mul]; omega
      rw [List.flatMap_cons, e, List.take_append, List.take_of_length_le (by omega), List.take_succ_cons, List.flatMap_cons, ← ih j]
      simp
/-- s[:hi] of a row of its own -/
theorem slice_head {P : Program} {t e : TypeId} {i : TypeInfo} {k : IntKind} {K n c b : Nat} {A : Option Addr} {hi : Int} {w : World} {xs ys : List Value} {m : Nat}
    (ht : P.underlying t = some (.slice (P.elem t))) (he : P.elem t = e) (hi_ : P.info? e = some i) (hs : i.size = K) (h : w.ownsRow b e K (.slice A n c) n xs) (hl : 0 ≤ hi ∧ hi ≤ (n : Int)) (hm : hi.toNat = m) (hd : xs.take (hi.toNat * K) = ys) :
    (∀ W, (Instr.slice t (.slice A n c) none (some (.int k hi)) none).run P W = .ok (.slice A m c) W) ∧ w.ownsRow b e K (.slice A m c) m ys := by
  subst hm; subst hd
  have hR := own_room h
  have hsz : ∀ W, (sizeOf (P.elem t)).run P W = .ok K W := by intro W; subst he; simp [sizeOf, typeInfo, hi_, hs]
  have hz : ∀ a : Addr, a.add 0 = a := by intro a; unfold Addr.add; simp
  refine ⟨fun W => ?_, ?_, ?_⟩
  · rw [run_slice_h (P := P) W t A n c ht k hi hl.1 (by have := hR.1; omega), hsz W]
    cases A <;> simp [Result.andThen, sliced, hz]
  · rw [List.length_take, h.1]
    exact Nat.min_eq_left (Nat.mul_le_mul_right K (by omega))
  · rcases h.2 with ⟨h1, h2⟩ | ⟨g, cap, cur, h1, h2, h3, h4, h5, h6, h7⟩
    · simp only [Value.slice.injEq] at h1
      left
      have : hi.toNat = 0 := by omega
      exact ⟨by rw [h1.1, h1.2.2, this], this⟩
    · simp only [Value.slice.injEq] at h1
      right
      refine ⟨g, cap, cur, by rw [h1.1, h1.2.2], h2, h3, by omega, h5, h6, ?_⟩
      rw [← h7, List.take_take, Nat.min_eq_left (Nat.mul_le_mul_right K (by omega))]
/-- s[:hi] of a row that came in -/
theorem slice_headB {P : Program} {t e : TypeId} {i : TypeInfo} {k : IntKind} {K n c : Nat} {A : Option Addr} {hi : Int} {w : World} {xs ys : List Value} {m : Nat}
    (ht : P.underlying t = some (.slice (P.elem t))) (he : P.elem t = e) (hi_ : P.info? e = some i) (hs : i.size = K) (h : Cells w K A n xs) (hR : Room A n c) (hl : 0 ≤ hi ∧ hi ≤ (n : Int)) (hm : hi.toNat = m) (hd : xs.take (hi.toNat * K) = ys) :
    (∀ W, (Instr.slice t (.slice A n c) none (some (.int k hi)) none).run P W = .ok (.slice A m c) W) ∧ Cells w K A m ys ∧ Room A m c := by
  subst hm; subst hd
  have hsz : ∀ W, (sizeOf (P.elem t)).run P W = .ok K W := by intro W; subst he; simp [sizeOf, typeInfo, hi_, hs]
  have hz : ∀ a : Addr, a.add 0 = a := by intro a; unfold Addr.add; simp
  refine ⟨fun W => ?_, ⟨?_, fun h0 => ?_⟩, ⟨by have := hR.1; omega, hR.2⟩⟩
  · rw [run_slice_h (P := P) W t A n c ht k hi hl.1 (by have := hR.1; omega), hsz W]
    cases A <;> simp [Result.andThen, sliced, hz]
  · rw [List.length_take, h.1]
    exact Nat.min_eq_left (Nat.mul_le_mul_right K (by omega))
  · rw [List.length_take] at h0
    obtain ⟨ad, e, hc⟩ := h.2 (by omega)
    refine ⟨ad, e, fun j u hu => hc j u ?_⟩
    have := List.getElem?_take (l := xs) (i := hi.toNat * K) (j := j)
    rw [this] at hu
    split at hu
    · exact hu
    · cases hu
/-- append(a, b...) onto a row of its own -/
theorem append_spread {P : Program} {w : World} {ops : Array Oper} {rest : List Oper} {o : Oper} {a : Act} {Q : Exit → Act → World → Prop} (hgd : o.guard = none) (s x : Operand) (t : TypeId)
    (ho : o.op = .call { callee := .builtin .append, args := #[s, x], argTypes := #[t, t] })
    (base : Nat) (e : TypeId) (i : TypeInfo) (z : Value) (size bytes : Nat) (ht : P.underlying t = some (.slice e)) (hi : P.info? e = some i) (hz : i.zero = some z)
    (hsize : i.size = size) (hby : i.bytes = bytes) (hzs : z.cells.size = size) (hsz : 0 < size)
    (A1 : Option Addr) (c1 n : Nat) (xs : List Value) (hs : a.eval s = .slice A1 n c1) (hown : w.ownsRow base e size (.slice A1 n c1) n xs)
    (A : Option Addr) (m c : Nat) (news : List Value) (hx : a.eval x = .slice A m c) (hN : Room A m c) (hc : Cells w size A m news) (h1 : ∀ u ∈ news, u.oneCell' = true)
    (h63 : n + m ≤ maxLen) (hbytes : (n + m) * bytes ≤ 140737488355328) (hbase : base ≤ w.heap.size)
    (h : ∀ v' w', w'.ownsRow base e size v' (n + m) (xs ++ news) → w.grownBy w' (Value.slice A1 n c1).ownBlock → (v'.ownBlock = (Value.slice A1 n c1).ownBlock ∨ v'.ownBlock = some w.heap.size) → wpList P ops Q rest (a.put o.dst v') w') :
    wpList P ops Q (o :: rest) a w := by
  cases A with
  | some ad =>
    refine wpList_append_own_at w hgd s x t ho base e i z size bytes ht hi hz hsize hby hzs hsz _ n xs hs hown ad m c news hx hc.1 (fun j u hu => ?_) h1 h63 hbytes hbase (fun v' w' o1 g1 _ y1 => h v' w' o1 g1 y1)
    obtain ⟨ad', e', hcell⟩ := hc.2 (by have := (List.getElem?_eq_some_iff.1 hu).1; omega)
    obtain rfl : ad = ad' := Option.some.inj e'
    exact hcell j u hu
  | none =>
    have hm : m = 0 := by
      cases news with
      | nil =>
        have h0 : ([] : List Value).length = m * size := hc.1
        rw [List.length_nil] at h0
        rcases Nat.mul_eq_zero.1 h0.symm with h1 | h1 <;> omega
      | cons y l => obtain ⟨ad, e', _⟩ := hc.2 (by simp); simp at e'
    obtain rfl : c = 0 := hN.2 rfl
    subst hm
    have hn : news = [] := List.eq_nil_of_length_eq_zero (by have := hc.1; simpa using this)
    subst hn
    refine Go.wpList_append_own_none hgd s x t ho base e i size ht hi _ n xs hs hown hx ?_
    exact h _ w (by simpa using hown) (World.grownBy.refl w _) (.inl rfl)
theorem own_pushS {α : Type} {f : List α → List Value} {l b t : List α} {w' : World} {bs T K : Nat} {v' : Value} {n : Nat} (ht : l ++ b = t) (hf : f (l ++ b) = f l ++ f b) (hn : l.length = n) (h : w'.ownsRow bs T K v' (n + b.length) (f l ++ f b)) :
    ∃ A cap, v' = .slice A t.length cap ∧ w'.ownsRow bs T K (.slice A t.length cap) t.length (f t) := by
  subst ht
  subst hn
  rw [← List.length_append, ← hf] at h
  rcases h.2 with ⟨h1, h2⟩ | ⟨g3, cap3, _, h2, _⟩
  · have hv : v' = .slice none (l ++ b).length 0 := by rw [h1, h2]
    exact ⟨none, 0, hv, hv ▸ h⟩
  · exact ⟨_, _, h2, h2 ▸ h⟩
/-- w' is w but for two rows and for new blocks -/
structure Grown2 (w w' : World) (A1 A2 : Option Addr) : Prop where
  os : w'.os = w.os
  tape : w'.tape = w.tape
  output : w'.output = w.output
  size : w.heap.size ≤ w'.heap.size
  block : ∀ k, k < w.heap.size → (∀ a, A1 = some a → a.block ≠ k) → (∀ a, A2 = some a → a.block ≠ k) → w'.heap[k]? = w.heap[k]?
theorem grown2_refl (w : World) (A1 A2 : Option Addr) : Grown2 w w A1 A2 := ⟨rfl, rfl, rfl, Nat.le_refl _, fun _ _ _ _ => rfl⟩
theorem grown2_below {w wr w2 : World} {A1 A2 : Option Addr} (h : Grown2 w wr A1 A2) (hb : Below wr.heap.size wr w2) : Grown2 w w2 A1 A2 :=
  ⟨hb.os.trans h.os, hb.tape.trans h.tape, hb.output.trans h.output, Nat.le_trans h.size hb.size, fun k hk h1 h2 => (hb.block k (Nat.lt_of_lt_of_le hk h.size)).trans (h.block k hk h1 h2)⟩
theorem grown2_l {w wr w2 : World} {A1 A2 : Option Addr} {n c : Nat} (h : Grown2 w wr A1 A2) (hg : wr.grownBy w2 (Value.slice A1 n c).ownBlock) : Grown2 w w2 A1 A2 :=
  ⟨hg.os.trans h.os, hg.tape.trans h.tape, hg.output.trans h.output, Nat.le_trans h.size hg.size, fun k hk h1 h2 => (hg.block k (Nat.lt_of_lt_of_le hk h.size) (by
    cases A1 with
    | none => simp [Value.ownBlock]
    | some a => simp only [Value.ownBlock, ne_eq, Option.some.injEq]; exact fun e => h1 a rfl e.symm)).trans (h.block k hk h1 h2)⟩
theorem grown2_r {w wr w2 : World} {A1 A2 : Option Addr} {n c : Nat} (h : Grown2 w wr A1 A2) (hg : wr.grownBy w2 (Value.slice A2 n c).ownBlock) : Grown2 w w2 A1 A2 :=
  ⟨hg.os.trans h.os, hg.tape.trans h.tape, hg.output.trans h.output, Nat.le_trans h.size hg.size, fun k hk h1 h2 => (hg.block k (Nat.lt_of_lt_of_le hk h.size) (by
    cases A2 with
    | none => simp [Value.ownBlock]
    | some a => simp only [Value.ownBlock, ne_eq, Option.some.injEq]; exact fun e => h2 a rfl e.symm)).trans (h.block k hk h1 h2)⟩
theorem below2 {w wr w2 : World} {B : Nat} {A1 A2 : Option Addr} (h : Below B w wr) (hg : Grown2 wr w2 A1 A2) (hB : B ≤ wr.heap.size) (h1 : ∀ a, A1 = some a → B ≤ a.block) (h2 : ∀ a, A2 = some a → B ≤ a.block) : Below B w w2 :=
  ⟨hg.os.trans h.os, hg.tape.trans h.tape, hg.output.trans h.output, Nat.le_trans h.size hg.size, fun k hk => (hg.block k (Nat.lt_of_lt_of_le hk hB) (fun a e e2 => by have := h1 a e; omega) (fun a e e2 => by have := h2 a e; omega)).trans (h.block k hk)⟩
theorem own_other2 {w w' : World} {b T K n m c : Nat} {A1 A2 B : Option Addr} {ys : List Value} (h : w.ownsRow b T K (.slice B m c) n ys) (hg : Grown2 w w' A1 A2) (h1 : Apart A1 B) (h2 : Apart A2 B) : w'.ownsRow b T K (.slice B m c) n ys := by
  refine ⟨h.1, ?_⟩
  rcases h.2 with hn | ⟨g, cap, cur, hv, hb, hgg, rest⟩
  · exact .inl hn
  · have hlt := (h.lt g (by rw [hv]; rfl)).2
    have hB : B = some ⟨g, 0, none⟩ := by simp only [Value.slice.injEq] at hv; exact hv.1
    refine .inr ⟨g, cap, cur, hv, hb, ?_, rest⟩
    rw [hg.block g hlt (fun a e e2 => h1 a _ e hB e2) (fun a e e2 => h2 a _ e hB e2)]
    exact hgg
theorem cell_other2 {w w' : World} {A1 A2 : Option Addr} {a : Addr} {v : Value} (h : w.cell? a = some v) (hg : Grown2 w w' A1 A2) (h1 : Apart A1 (some ⟨a.block, 0, none⟩)) (h2 : Apart A2 (some ⟨a.block, 0, none⟩)) : w'.cell? a = some v := by
  rw [World.cell?_of_block (hg.block a.block (cell_lt h) (fun x e e2 => h1 x _ e rfl e2) (fun x e e2 => h2 x _ e rfl e2))]
  exact h
theorem own_ge2 {w : World} {b T K n m c : Nat} {A : Option Addr} {xs : List Value} (h : w.ownsRow b T K (.slice A m c) n xs) : ∀ a, A = some a → b ≤ a.block := fun a e => (own_lt h a e).1
end Go.Proofs.Ytkinlkmmelkdnaa.GoM

/- Plain words on the record Shade: its fields, its cells, a list of it as cells one after the other. No condition. -/
namespace Go.Proofs.Ytkinlkmmelkdnaa.PShade
set_option linter.unusedVariables false
set_option maxRecDepth 100000

structure Shade where
  name : ByteArray
  hue : Int
  width : Int
  dark : Int
  light : Int
def Shade.cells (s : Shade) : List Value := [.string s.name, .int .i64 s.hue, .int .i64 s.width, .int .i64 s.dark, .int .i64 s.light]
def Shade.val (s : Shade) : Value := .agg #[.string s.name, .int .i64 s.hue, .int .i64 s.width, .int .i64 s.dark, .int .i64 s.light]
/-- each field fits -/
def Shade.fits (s : Shade) : Prop := s.name.size ≤ maxLen ∧ (Lit.int .i64 s.hue).wf = true ∧ (Lit.int .i64 s.width).wf = true ∧ (Lit.int .i64 s.dark).wf = true ∧ (Lit.int .i64 s.light).wf = true
def zero : Shade := ⟨ByteArray.empty, 0, 0, 0, 0⟩
/-- the letters of its texts -/
def Shade.wt (s : Shade) : Nat := s.name.size
def wts (l : List Shade) : Nat := (l.map Shade.wt).sum
theorem wts_snoc (l : List Shade) (s : Shade) : wts (l ++ [s]) = wts l + s.wt := by unfold wts; simp [List.sum_append]
theorem wts_succ {l : List Shade} {k : Nat} {s : Shade} (h : l[k]? = some s) : wts (l.take (k + 1)) = wts (l.take k) + s.wt := by
  have hk := List.getElem?_eq_some_iff.1 h
  rw [List.take_succ_eq_append_getElem hk.1, hk.2, wts_snoc]
theorem wts_take (l : List Shade) (k : Nat) : wts (l.take k) ≤ wts l := by
  have : wts l = wts (l.take k) + wts (l.drop k) := by
    unfold wts; rw [← List.sum_append, ← List.map_append, List.take_append_drop]
  omega
theorem wts_all (l : List Shade) : wts (l.take l.length) = wts l := by rw [List.take_of_length_le (Nat.le_refl _)]

/-- the cells of a list of records, one after the other -/
def flat (l : List Shade) : List Value := l.flatMap Shade.cells
theorem flat_nil : flat [] = [] := rfl
theorem flat_cons (s : Shade) (l : List Shade) : flat (s :: l) = s.cells ++ flat l := by simp [flat]
theorem flat_snoc (l : List Shade) (s : Shade) : flat (l ++ [s]) = flat l ++ s.cells := by simp [flat]
theorem flat_len (l : List Shade) : (flat l).length = l.length * 5 := by
  induction l with
  | nil => rfl
  | cons s l ih => rw [flat_cons, List.length_append, ih]; simp [Shade.cells]; omega
theorem flat_at : ∀ (l : List Shade) (k : Nat) (s : Shade), l[k]? = some s → ∀ j, j < 5 → (flat l)[k * 5 + j]? = s.cells[j]?
  | [], k, s, h, _, _ => by simp at h
  | r :: l, 0, s, h, j, hj => by
    obtain rfl : r = s := by simpa using h
    rw [flat_cons, List.getElem?_append_left (by simp [Shade.cells]; omega)]; simp
  | r :: l, k + 1, s, h, j, hj => by
    rw [flat_cons, List.getElem?_append_right (by simp [Shade.cells]; omega), show (k + 1) * 5 + j - r.cells.length = k * 5 + j by simp [Shade.cells]; omega]
    exact flat_at l k s (by simpa using h) j hj
end Go.Proofs.Ytkinlkmmelkdnaa.PShade

/- A record Shade opened into its fields. No condition. -/
namespace Go.Proofs.Ytkinlkmmelkdnaa.GoP
set_option linter.unusedVariables false
open Go.RowKit
def unShade {ρ : Type} (s : Go.Proofs.Ytkinlkmmelkdnaa.PShade.Shade) (f : ByteArray → Int → Int → Int → Int → Option ρ) : Option ρ := f s.name s.hue s.width s.dark s.light
theorem unShade_hid {ρ : Type} {x0 : ByteArray} {x1 : Int} {x2 : Int} {x3 : Int} {x4 : Int} {f : ByteArray → Int → Int → Int → Int → Option ρ} {r : ρ} (H : Hid (unShade ⟨x0, x1, x2, x3, x4⟩ f = some r)) : Hid (f x0 x1 x2 x3 x4 = some r) := H
end Go.Proofs.Ytkinlkmmelkdnaa.GoP

/- The drawing cursor as a tape of numbers from 0 to 255: what it is in memory, and the contract of its method next. Conditions: its bytes read as bytes, and it has been asked fewer than 2^62 times. -/
namespace Go.Proofs.Ytkinlkmmelkdnaa.GoC
set_option linter.unusedVariables false
open Go.RowKit
open Go.Proofs.Ytkinlkmmelkdnaa.Rowed Go.Proofs.Ytkinlkmmelkdnaa.Turn Go.Proofs.Ytkinlkmmelkdnaa.GoM

/-- what a cursor will give, and how often it may be asked -/
structure Tape where
  vals : Nat → Int
  left : Nat
def Tape.tail (t : Tape) : Tape := ⟨fun i => t.vals (i + 1), t.left - 1⟩
def u8s (l : List Int) : List Value := l.map (fun z => Value.int .u8 z)
theorem u8s_len (l : List Int) : (u8s l).length = l.length := by simp [u8s]
theorem u8s_at (l : List Int) (k : Nat) : (u8s l)[k]? = (l[k]?).map (Value.int .u8) := by simp [u8s]
/-- the cell block of a cursor over the bytes 'A, c' -/
def At (w : World) (b g : Nat) (A : Option Addr) (c : Nat) (code : List Int) (k : Nat) (seed : Int) : Prop :=
  b ≤ g ∧ w.heap[g]? = some (.cells #[.slice A code.length c, .int .i64 k, .int .u64 seed] 103 (0, 0)) ∧ Cells w 1 A code.length (u8s code) ∧ (∀ a, A = some a → 0 < code.length → a.block < b)
/-- asked there, the cursor gives x, and its seed is then s -/
def Step (code : List Int) (k : Nat) (seed x s : Int) : Prop :=
  (0 ≤ x ∧ x ≤ 255) ∧ ∀ w b g A c, At w b g A c code k seed → Calls Try.prog 132 #[.pointer (some ⟨g, 0, none⟩)] w (fun e w' => e = .returned (.int .i64 x) ∧ At w' b g A c code (k + 1) s ∧ w.grownBy w' (some g))
def Emits (code : List Int) (k : Nat) (seed : Int) (t : Tape) : Prop :=
  k + t.left ≤ 4611686018427387904 ∧ ∃ seeds : Nat → Int, seeds 0 = seed ∧ ∀ i, i < t.left → Step code (k + i) (seeds i) (t.vals i) (seeds (i + 1))
/-- block g is a cursor that will give t -/
def CurIs (w : World) (b g : Nat) (A : Option Addr) (c : Nat) (t : Tape) : Prop := ∃ code k seed, At w b g A c code k seed ∧ Emits code k seed t

theorem cells3 {w : World} {g : Nat} {t : TypeId} {x y z : Value} (h : w.heap[g]? = some (.cells #[x, y, z] t (0, 0))) :
    w.cell? ⟨g, 0, none⟩ = some x ∧ w.cell? ⟨g, 1, none⟩ = some y ∧ w.cell? ⟨g, 2, none⟩ = some z ∧ (∀ i, w.frozen? ⟨g, i, none⟩ = false) :=
  ⟨by simp [World.cell?, h], by simp [World.cell?, h], by simp [World.cell?, h], fun i => by simp [World.frozen?, h]⟩
theorem stored {w W2 : World} {g n1 : Nat} {t : TypeId} {x y z u v : Value} (hb : w.heap[g]? = some (.cells #[x, y, z] t (0, 0)))
    (hW : ((w.drewN n1).setCell ⟨g, 1, none⟩ u).setCell ⟨g, 2, none⟩ v = W2) : W2.heap[g]? = some (.cells #[x, u, v] t (0, 0)) ∧ w.grownBy W2 (some g) := by
  subst hW
  refine ⟨by simp [World.setCell, Array.getElem?_modify, hb], ⟨rfl, rfl, rfl, by simp [World.setCell], fun k _ hk => ?_⟩⟩
  have hne : k ≠ g := fun e => hk (by rw [e])
  rw [Below.heap_setCell _ _ _ _ hne, Below.heap_setCell _ _ _ _ hne]
  rfl
theorem grown_drewN {w w' : World} {r : Option Nat} (h : w.grownBy w' r) (n : Nat) : w.grownBy (w'.drewN n) r := ⟨h.os, h.tape, h.output, h.size, h.block⟩
theorem add_block (a : Addr) (n : Nat) : (a.add n).block = a.block := by unfold Addr.add; split <;> rfl
theorem cells_kept {w w' : World} {K g n : Nat} {A : Option Addr} {xs : List Value} (h : Cells w K A n xs) (hg : w.grownBy w' (some g)) (hA : ∀ a, A = some a → 0 < xs.length → a.block ≠ g) : Cells w' K A n xs := by
  refine ⟨h.1, fun h0 => ?_⟩
  obtain ⟨ad, e, hc⟩ := h.2 h0
  refine ⟨ad, e, fun j u hu => ?_⟩
  have h1 := hc j u hu
  have hlt := cell_lt h1
  rw [World.cell?_of_block (w := w) (w' := w') (hg.block _ hlt (by rw [add_block]; intro e2; injection e2 with e3; exact hA ad e h0 e3))]
  exact h1
theorem and255 (y : Int) : 0 ≤ wrap64 (bits .and .u64 y 255) ∧ wrap64 (bits .and .u64 y 255) ≤ 255 := by
  have h : 0 ≤ bits .and .u64 y 255 ∧ bits .and .u64 y 255 ≤ 255 := by
    have h1 : (BitVec.ofInt 64 y &&& BitVec.ofInt 64 255).toNat ≤ 255 := by
      rw [BitVec.toNat_and]
      exact Nat.le_trans Nat.and_le_right (by decide)
    show 0 ≤ IntKind.u64.wrap ((BitVec.ofInt 64 y &&& BitVec.ofInt 64 255).toNat : Int) ∧ IntKind.u64.wrap ((BitVec.ofInt 64 y &&& BitVec.ofInt 64 255).toNat : Int) ≤ 255
    rw [IntKind.wrap_u64]
    omega
  rw [IntWalk.wrap64_in _ ⟨by omega, by omega⟩]
  exact h

set_option maxHeartbeats 1000000 in
theorem step_any (code : List Int) (hb : ∀ z ∈ code, 0 ≤ z ∧ z ≤ 255) (hn : code.length ≤ 9223372036854775807) (k : Nat) (seed : Int) (hm : k < 4611686018427387904) : ∃ x s, Step code k seed x s := by
  by_cases hlt : k < code.length
  · obtain ⟨z, hzz⟩ : ∃ z, code[k]? = some z := ⟨code[k], List.getElem?_eq_getElem hlt⟩
    have hz := hb z (List.mem_of_getElem? hzz)
    refine ⟨z, IntKind.u64.wrap (IntKind.u64.wrap (IntKind.u64.wrap (seed * 6364136223846793005) + z) + 381907), ⟨?h0, ?h1⟩, fun w b g A c h => ?walk⟩
    case walk =>
      obtain ⟨hbg, hb, hcs, hA⟩ := h
      obtain ⟨ad, rfl, hc⟩ := hcs.2 (by unfold u8s; rw [List.length_map]; omega)
      have hcell := hc k _ (by unfold u8s; rw [List.getElem?_map, hzz]; rfl)
      obtain ⟨c0, c1, c2, hf⟩ := cells3 hb
      have f1 := hf 1
      have f2 := hf 2
      have HB := Lib.hid hb
      have HK := Lib.hid hcs
      have b1 : 0 ≤ (k : Int) := by omega
      have b2 : (k : Int) < code.length := by omega
      clear hb hf hc hcs
      have HA := Lib.hid hA
      clear hA
      go_enter Try.func132, Try.ntmps132
      go_wp2_with fail
      go_quiet (fail)
      go_wp2_with fail
      go_quiet (fail)
      go_wp2_with fail
      generalize hW2 : (World.setCell (World.setCell (World.drewN w _) ⟨g, 1, none⟩ _) ⟨g, 2, none⟩ _) = W2
      obtain ⟨hb2, hg2⟩ := stored HB.out hW2
      obtain ⟨d0, d1, d2, df⟩ := cells3 hb2
      have HB2 := Lib.hid hb2
      have HG2 := Lib.hid hg2
      clear hb2 hg2 df hW2 HB c0 c1 c2 f1 f2
      go_quiet (fail)
      go_wp2_with fail
      go_ret
      exact ⟨rfl, ⟨hbg, by rw [show ((k + 1 : Nat) : Int) = (k : Int) + 1 by omega]; exact HB2.out, cells_kept HK.out (grown_drewN HG2.out _) (fun a e h0 e2 => by have := HA.out a e (by unfold u8s at h0; rwa [List.length_map] at h0); omega), HA.out⟩, grown_drewN HG2.out _⟩
    case h0 => exact hz.1
    case h1 => exact hz.2
  · refine ⟨wrap64 (bits .and .u64 (IntKind.u64.wrap (IntKind.u64.wrap (IntKind.u64.wrap (seed * 6364136223846793005)) + 381907) / 1099511627776) 255), IntKind.u64.wrap (IntKind.u64.wrap (IntKind.u64.wrap (seed * 6364136223846793005)) + 381907), ⟨?h0, ?h1⟩, fun w b g A c h => ?walk⟩
    case walk =>
      obtain ⟨hbg, hb, hcs, hA⟩ := h
      obtain ⟨c0, c1, c2, hf⟩ := cells3 hb
      have f1 := hf 1
      have f2 := hf 2
      have HB := Lib.hid hb
      have HK := Lib.hid hcs
      have HA := Lib.hid hA
      have b2 : (code.length : Int) ≤ k := by omega
      have b3 : ¬ ((k : Int) + 1 ≤ code.length) := by omega
      clear hb hf hcs hA
      go_enter Try.func132, Try.ntmps132
      go_wp2_with fail
      go_quiet (fail)
      go_wp2_with fail
      generalize hW2 : (World.setCell (World.setCell (World.drewN w _) ⟨g, 1, none⟩ _) ⟨g, 2, none⟩ _) = W2
      obtain ⟨hb2, hg2⟩ := stored HB.out hW2
      obtain ⟨d0, d1, d2, df⟩ := cells3 hb2
      have HB2 := Lib.hid hb2
      have HG2 := Lib.hid hg2
      clear hb2 hg2 df hW2 HB c0 c1 c2 f1 f2
      go_quiet (fail)
      go_wp2_with fail
      go_ret
      exact ⟨rfl, ⟨hbg, by rw [show ((k + 1 : Nat) : Int) = (k : Int) + 1 by omega]; exact HB2.out, cells_kept HK.out (grown_drewN HG2.out _) (fun a e h0 e2 => by have := HA.out a e (by unfold u8s at h0; rwa [List.length_map] at h0); omega), HA.out⟩, grown_drewN HG2.out _⟩
    case h0 => exact (and255 _).1
    case h1 => exact (and255 _).2
/-- a tape for each row of bytes -/
def Tells (tapes : List Int → Tape) : Prop := (∀ code, (tapes code).left = 4611686018427387904) ∧ (∀ code i, 0 ≤ (tapes code).vals i ∧ (tapes code).vals i ≤ 255) ∧
  ∀ code, (∀ z ∈ code, 0 ≤ z ∧ z ≤ 255) → code.length ≤ 9223372036854775807 → Emits code 0 0 (tapes code)
theorem tells_one (code : List Int) : ∃ t : Tape, t.left = 4611686018427387904 ∧ (∀ i, 0 ≤ t.vals i ∧ t.vals i ≤ 255) ∧ ((∀ z ∈ code, 0 ≤ z ∧ z ≤ 255) → code.length ≤ 9223372036854775807 → Emits code 0 0 t) := by
  by_cases hc : (∀ z ∈ code, 0 ≤ z ∧ z ≤ 255) ∧ code.length ≤ 9223372036854775807
  · have hs : ∀ (k : Nat) (seed : Int), ∃ p : Int × Int, (0 ≤ p.1 ∧ p.1 ≤ 255) ∧ (k < 4611686018427387904 → Step code k seed p.1 p.2) := by
      intro k seed
      by_cases hk : k < 4611686018427387904
      · obtain ⟨x, s, h⟩ := step_any code hc.1 hc.2 k seed hk
        exact ⟨(x, s), h.1, fun _ => h⟩
      · exact ⟨(0, 0), by omega, fun h => absurd h hk⟩
    have ⟨f, hf⟩ : ∃ f : Nat → Int → Int × Int, ∀ k seed, (0 ≤ (f k seed).1 ∧ (f k seed).1 ≤ 255) ∧ (k < 4611686018427387904 → Step code k seed (f k seed).1 (f k seed).2) :=
      ⟨fun k seed => Classical.choose (hs k seed), fun k seed => Classical.choose_spec (hs k seed)⟩
    obtain ⟨seeds, h0, h1⟩ : ∃ seeds : Nat → Int, seeds 0 = 0 ∧ ∀ i, seeds (i + 1) = (f i (seeds i)).2 := ⟨fun n => Nat.rec 0 (fun i s => (f i s).2) n, rfl, fun i => rfl⟩
    refine ⟨⟨fun i => (f i (seeds i)).1, 4611686018427387904⟩, rfl, fun i => (hf i (seeds i)).1, fun _ _ => ⟨by show 0 + 4611686018427387904 ≤ 4611686018427387904; omega, seeds, h0, fun i hi => ?_⟩⟩
    have := (hf i (seeds i)).2 hi
    rw [h1, Nat.zero_add]
    exact this
  · exact ⟨⟨fun _ => 0, 4611686018427387904⟩, rfl, fun _ => ⟨Int.le_refl 0, (by decide : (0 : Int) ≤ 255)⟩, fun h1 h2 => absurd ⟨h1, h2⟩ hc⟩
theorem tells : ∃ tapes, Tells tapes := by
  have ⟨f, hf⟩ : ∃ f : List Int → Tape, ∀ code, (f code).left = 4611686018427387904 ∧ (∀ i, 0 ≤ (f code).vals i ∧ (f code).vals i ≤ 255) ∧ ((∀ z ∈ code, 0 ≤ z ∧ z ≤ 255) → code.length ≤ 9223372036854775807 → Emits code 0 0 (f code)) :=
    ⟨fun code => Classical.choose (tells_one code), fun code => Classical.choose_spec (tells_one code)⟩
  exact ⟨f, fun code => (hf code).1, fun code => (hf code).2.1, fun code => (hf code).2.2⟩

theorem cur_lt {w : World} {b g c : Nat} {A : Option Addr} {t : Tape} (h : CurIs w b g A c t) : b ≤ g ∧ g < w.heap.size := by
  obtain ⟨code, k, seed, ⟨h1, h2, _⟩, _⟩ := h
  refine ⟨h1, ?_⟩
  rcases Nat.lt_or_ge g w.heap.size with hl | hl
  · exact hl
  · rw [Array.getElem?_eq_none hl] at h2; cases h2
theorem cells_lt {w : World} {K n : Nat} {a : Addr} {xs : List Value} (h : Cells w K (some a) n xs) (h0 : 0 < xs.length) : a.block < w.heap.size := by
  obtain ⟨ad, e, hc⟩ := h.2 h0
  obtain rfl := Option.some.inj e
  have := cell_lt (hc 0 xs[0] (List.getElem?_eq_getElem h0))
  rwa [add_block] at this
theorem cur_below {w w' : World} {b g c : Nat} {A : Option Addr} {t : Tape} (h : CurIs w b g A c t) (hb : Below w.heap.size w w') : CurIs w' b g A c t := by
  have hl := cur_lt h
  obtain ⟨code, k, seed, ⟨h1, h2, h3, h4⟩, hE⟩ := h
  exact ⟨code, k, seed, ⟨h1, by rw [hb.block g hl.2]; exact h2, Cells.below h3 hb, h4⟩, hE⟩
/-- another row is written, one that is younger than the bytes -/
theorem cur_other {w w' : World} {b g c n' c' : Nat} {A A' : Option Addr} {t : Tape} (h : CurIs w b g A c t) (hg : w.grownBy w' (Value.slice A' n' c').ownBlock) (hD : Apart A' (some ⟨g, 0, none⟩)) (ho : ∀ a, A' = some a → b ≤ a.block) : CurIs w' b g A c t := by
  have hl := cur_lt h
  obtain ⟨code, k, seed, ⟨h1, h2, h3, h4⟩, hE⟩ := h
  refine ⟨code, k, seed, ⟨h1, ?_, ?_, h4⟩, hE⟩
  · rw [hg.block g hl.2 ?_]
    · exact h2
    · cases A' with
      | none => simp [Value.ownBlock]
      | some x => simp only [Value.ownBlock, ne_eq, Option.some.injEq]; exact fun e => hD x _ rfl rfl e.symm
  · refine ⟨h3.1, fun h0 => ?_⟩
    obtain ⟨ad, e, hc⟩ := h3.2 h0
    refine ⟨ad, e, fun j u hu => ?_⟩
    have h5 := hc j u hu
    have hlt := cell_lt h5
    rw [World.cell?_of_block (w := w) (w' := w') (hg.block _ hlt ?_)]
    · exact h5
    · rw [add_block]
      cases A' with
      | none => simp [Value.ownBlock]
      | some x =>
        simp only [Value.ownBlock, ne_eq, Option.some.injEq]
        intro e2
        have := ho x rfl
        have := h4 ad e (by unfold u8s at h0; rwa [List.length_map] at h0)
        omega
/-- a cursor that is laid now -/
theorem cur_new {w : World} {b c : Nat} {A : Option Addr} {code : List Int} {t : Tape} (hb : b ≤ w.heap.size) (hc : Cells w 1 A code.length (u8s code)) (hA : ∀ a, A = some a → 0 < code.length → a.block < b) (hE : Emits code 0 0 t) :
    CurIs (w.alloc (.cells #[.slice A code.length c, .int .i64 0, .int .u64 0] 103)) b w.heap.size A c t :=
  ⟨code, 0, 0, ⟨hb, heap_alloc_new w _, Cells.below hc ((Below.refl _ _).alloc (Nat.le_refl _) _), hA⟩, hE⟩
theorem grown_new {w wr w2 : World} {r : Option Nat} {n c : Nat} {A : Option Addr} (h : w.grownBy wr r) (hg : wr.grownBy w2 (Value.slice A n c).ownBlock) (ho : ∀ a, A = some a → w.heap.size ≤ a.block) : w.grownBy w2 r :=
  ⟨hg.os.trans h.os, hg.tape.trans h.tape, hg.output.trans h.output, Nat.le_trans h.size hg.size, fun i hi hr => (hg.block i (Nat.lt_of_lt_of_le hi h.size) (by
    cases A with
    | none => simp [Value.ownBlock]
    | some x => simp only [Value.ownBlock, ne_eq, Option.some.injEq]; intro e; have := ho x rfl; omega)).trans (h.block i hi hr)⟩
theorem own_ge {w : World} {b T K n m c : Nat} {A : Option Addr} {xs : List Value} (h : w.ownsRow b T K (.slice A m c) n xs) : ∀ a, A = some a → b ≤ a.block := fun a e => (own_lt h a e).1
theorem cur_otherO {w w' : World} {b g c n' c' base T K n : Nat} {A A' : Option Addr} {t : Tape} {xs : List Value} (h : CurIs w b g A c t) (hg : w.grownBy w' (Value.slice A' n' c').ownBlock) (hD : Apart A' (some ⟨g, 0, none⟩)) (hb : b ≤ base) (ho : w.ownsRow base T K (.slice A' n' c') n xs) : CurIs w' b g A c t :=
  cur_other h hg hD (fun a e => Nat.le_trans hb (own_ge ho a e))
theorem u8_at {w : World} {A : Option Addr} {n k : Nat} {l : List Int} (h : Cells w 1 A n (u8s l)) (hk : k < n) : ∃ (b o : Nat) (x : Int), A = some ⟨b, o, none⟩ ∧ l[k]? = some x ∧ w.cell? ⟨b, o + k, none⟩ = some (.int .u8 x) := by
  have hl : k < l.length := by have := h.1; unfold u8s at this; rw [List.length_map] at this; omega
  obtain ⟨⟨b, o, sp⟩, e, hc⟩ := h.2 (by unfold u8s; rw [List.length_map]; omega)
  have h0 := hc 0 (.int .u8 l[0]) (by unfold u8s; rw [List.getElem?_map, List.getElem?_eq_getElem (show 0 < l.length by omega)]; rfl)
  obtain rfl : sp = none := cell_spot (b := b) (o := o) h0
  have hs := List.getElem?_eq_getElem hl
  have := hc k (.int .u8 l[k]) (by unfold u8s; rw [List.getElem?_map, hs]; rfl)
  rw [add_flat] at this
  exact ⟨b, o, l[k], e, hs, this⟩
theorem apart_cur {w : World} {b g c : Nat} {A : Option Addr} {t : Tape} (h : CurIs w b g A c t) : Apart (some ⟨w.heap.size, 0, none⟩) (some ⟨g, 0, none⟩) := by
  intro a a' ha ha' e
  have := (cur_lt h).2
  injection ha with ha
  injection ha' with ha'
  subst ha
  subst ha'
  simp at e
  omega
theorem apart_callcur {w w1 : World} {T K n m c b g c' : Nat} {A A' : Option Addr} {xs : List Value} {t : Tape} (h1 : w1.ownsRow w.heap.size T K (.slice A m c) n xs) (h : CurIs w b g A' c' t) : Apart A (some ⟨g, 0, none⟩) := by
  intro a a' ha ha' e
  have := (cur_lt h).2
  have := (own_lt h1 a ha).1
  injection ha' with ha'
  subst ha'
  simp at e
  omega
theorem apart_x {n g bb oo : Nat} (h : 0 < n → Apart (some ⟨bb, oo, none⟩) (some ⟨g, 0, none⟩)) (h0 : 0 < n) : Apart (some ⟨g, 0, none⟩) (some ⟨bb, 0, none⟩) := by
  intro a a' ha ha' e
  injection ha with ha
  injection ha' with ha'
  subst ha
  subst ha'
  exact h h0 ⟨bb, oo, none⟩ ⟨g, 0, none⟩ rfl rfl e.symm
theorem apart_curold {w : World} {b g c bb : Nat} {A : Option Addr} {t : Tape} (h : CurIs w b g A c t) (hl : bb < b) : Apart (some ⟨g, 0, none⟩) (some ⟨bb, 0, none⟩) := by
  intro a a' ha ha' e
  have := (cur_lt h).1
  injection ha with ha
  injection ha' with ha'
  subst ha
  subst ha'
  simp at e
  omega
theorem cells_io {w w' : World} {K n m g : Nat} {A : Option Addr} {xs : List Value} (h : Cells w K A n xs) (hg : w.grownBy w' (Value.slice (some ⟨g, 0, none⟩) 1 1).ownBlock) (hX : 0 < m → Apart A (some ⟨g, 0, none⟩)) (hm : 0 < xs.length → 0 < m := by intro h; first | exact h | (simp only [List.length_map] at h; exact h)) : Cells w' K A n xs :=
  cells_kept h hg (fun a e h0 e2 => hX (hm h0) a ⟨g, 0, none⟩ e rfl e2)
theorem below_cur {w wr w2 : World} {B g : Nat} (h : Below B w wr) (hg : wr.grownBy w2 (Value.slice (some ⟨g, 0, none⟩) 1 1).ownBlock) (hB : B ≤ wr.heap.size) (hk : B ≤ g) : Below B w w2 :=
  h.grown hg hB (fun q hq => by have hq' : some g = some q := hq; injection hq' with e; omega)
/-- next -/
def P (t : Tape) : Option (Int × Tape) := if 0 < t.left then some (t.vals 0, t.tail) else none
theorem C (t : Tape) (w : World) (b g : Nat) (A : Option Addr) (c : Nat) (K : Hid (CurIs w b g A c t)) {r : Int} {t' : Tape} (H : Hid (P t = some (r, t'))) :
    Calls Try.prog 132 #[.pointer (some ⟨g, 0, none⟩)] w (fun e w' => e = .returned (.int .i64 r) ∧ CurIs w' b g A c t' ∧ w.grownBy w' (some g)) := by
  have h : P t = some (r, t') := H
  obtain ⟨code, k, seed, hA, hl, seeds, h0, hs⟩ := K.out
  unfold P at h
  by_cases hk : 0 < t.left
  · rw [if_pos hk] at h
    simp only [Option.some.injEq, Prod.mk.injEq] at h
    obtain ⟨rfl, rfl⟩ := h
    have h1 := hs 0 hk
    rw [h0] at h1
    refine (h1.2 w b g A c hA).mono ?_
    rintro e w' ⟨rfl, a1, a2⟩
    refine ⟨rfl, ⟨code, k + 1, seeds 1, a1, by show k + 1 + (t.left - 1) ≤ _; omega, fun i => seeds (i + 1), rfl, fun i hi => ?_⟩, a2⟩
    have h2 := hs (i + 1) (by have : i < t.left - 1 := hi; omega)
    rw [show k + 1 + i = k + (i + 1) by omega]
    exact h2
  · rw [if_neg hk] at h; simp at h
end Go.Proofs.Ytkinlkmmelkdnaa.GoC

/- More words for the contracts of plain functions: a test against nil, a row that is handed over, a row whose end is cleared. No condition. -/
namespace Go.Proofs.Ytkinlkmmelkdnaa.GoK
set_option linter.unusedVariables false
open Go.RowKit
open Go.Proofs.Ytkinlkmmelkdnaa.Rowed Go.Proofs.Ytkinlkmmelkdnaa.Turn Go.Proofs.Ytkinlkmmelkdnaa.GoM

/-- a test of a row against nil: only an empty row can be nil, and then both ways have one answer -/
def nilK {α ρ : Type} (l : List α) (f : Bool → Option ρ) : Option ρ := f false
theorem nilK_hid {α ρ : Type} {l : List α} {f : Bool → Option ρ} {r : ρ} (H : Hid (nilK l f = some r)) (b : Bool) (hb : b = true → l = []) (he : l = [] → f true = f false) : Hid (f b = some r) := by
  have h : f false = some r := H
  cases b with
  | false => exact h
  | true => exact (he (hb rfl)).trans h
theorem nil_cells {w : World} {K n : Nat} {A : Option Addr} {α : Type} {l : List α} {cs : List Value} (h : Cells w K A n cs) (hl : cs = [] → l = []) : A.isNone = true → l = [] := by
  intro hA
  refine hl ?_
  cases hc : cs with
  | nil => rfl
  | cons y ys => obtain ⟨a, e, _⟩ := h.2 (by rw [hc]; simp); rw [e] at hA; simp at hA
/-- where a row lies that a function hands on: where another one lay, or behind all that was there -/
def From (w : World) (A A' : Option Addr) : Prop := ∀ a', A' = some a' → (∃ a, A = some a ∧ a.block = a'.block) ∨ w.heap.size ≤ a'.block
theorem from_self {w : World} {A : Option Addr} : From w A A := fun a h => .inl ⟨a, h, rfl⟩
theorem from_new {w : World} {A : Option Addr} {g : Nat} (h : w.heap.size ≤ g) : From w A (some ⟨g, 0, none⟩) := by
  intro a' e
  injection e with e
  subst e
  exact .inr h
theorem apart_from {w : World} {A A' B : Option Addr} (hD : Apart A B) (hB : ∀ a, B = some a → a.block < w.heap.size) (h : From w A A') : Apart A' B := by
  intro a a' ha ha' e
  have hl := hB a' ha'
  rcases h a ha with ⟨a2, h2, e2⟩ | h2
  · exact hD a2 a' h2 ha' (e2.trans e)
  · omega
theorem own_emptyB {b : Nat} {wc : World} {T K : Nat} (h : b ≤ wc.heap.size) : (wc.alloc (.cells #[] T)).ownsRow b T K (.slice (some ⟨wc.heap.size, 0, none⟩) 0 0) 0 [] :=
  ⟨by simp, .inr ⟨wc.heap.size, 0, #[], rfl, h, heap_alloc_new wc _, Nat.le_refl _, by unfold maxLen; omega, by simp, by simp⟩⟩
theorem own_setCells {b T K n c g : Nat} : ∀ (vs : List Value) (o : Nat) {w : World} {xs : List Value}, w.ownsRow b T K (.slice (some ⟨g, 0, none⟩) n c) n xs → o + vs.length ≤ xs.length →
    (w.setCells g o vs).ownsRow b T K (.slice (some ⟨g, 0, none⟩) n c) n (xs.take o ++ vs ++ xs.drop (o + vs.length)) ∧ w.grownBy (w.setCells g o vs) (some g) := by
  intro vs
  induction vs with
  | nil => intro o w xs h _; exact ⟨by simpa [World.setCells] using h, Aid.grown_refl _ _⟩
  | cons v vs ih =>
    intro o w xs h hl
    simp only [List.length_cons] at hl
    have h1 := h.stored o v
    have h2 := ih (o + 1) h1.1 (by rw [List.length_set]; omega)
    refine ⟨?_, Aid.grown_tr h1.2 h2.2⟩
    have e : (xs.set o v).take (o + 1) ++ vs ++ (xs.set o v).drop (o + 1 + vs.length) = xs.take o ++ (v :: vs) ++ xs.drop (o + (v :: vs).length) := by
      have ho : o < xs.length := by omega
      rw [List.drop_set_of_lt (by omega), List.take_add_one, List.getElem?_set_self ho, List.take_set_of_le (Nat.le_refl _)]
      simp [Nat.add_comm, Nat.add_left_comm]
    rw [← e]
    exact h2.1
/-- clear(s[lo:]) of a row of its own -/
theorem own_clear {P : Program} {t e : TypeId} {i : TypeInfo} {k : IntKind} {n c b : Nat} {A : Option Addr} {lo : Int} {w : World} {xs ys : List Value} {z : Value}
    (ht : P.underlying t = some (.slice (P.elem t))) (he : P.elem t = e) (hi : P.info? e = some i) (hs : i.size = 1) (hv : i.zero = some z) (hz : z.cells = #[z]) (h1 : z.oneCell' = true)
    (h : w.ownsRow b e 1 (.slice A n c) n xs) (hl : 0 ≤ lo ∧ lo ≤ (n : Int)) (hd : xs.take lo.toNat ++ List.replicate (n - lo.toNat) z = ys) :
    ∃ A' m c' w', (∀ W, (Instr.slice t (.slice A n c) (some (.int k lo)) none none).run P W = .ok (.slice A' m c') W) ∧ (∀ ty, (Builtin.clear_ #[t] ty #[.slice A' m c']).run P w = .ok (.tuple #[]) w') ∧
      w'.ownsRow b e 1 (.slice A n c) n ys ∧ w.grownBy w' (Value.slice A n c).ownBlock := by
  have hR := own_room h
  have hxs : xs.length = n := by have := h.1; omega
  have hsz : ∀ W, (sizeOf (P.elem t)).run P W = .ok 1 W := by intro W; subst he; simp [sizeOf, typeInfo, hi, hs]
  have hrun : ∀ W, (Instr.slice t (.slice A n c) (some (.int k lo)) none none).run P W = .ok (.slice (if c = lo.toNat then A else A.map (·.add (lo.toNat * 1))) (n - lo.toNat) (c - lo.toNat)) W := by
    intro W
    rw [run_slice_l (P := P) W t A n c ht k lo hl.1 hl.2, hsz W]
    rfl
  by_cases hm : n - lo.toNat = 0
  · refine ⟨_, _, _, w, hrun, ?_, ?_, Aid.grown_refl _ _⟩
    · intro ty
      rw [hm]
      generalize (if c = lo.toNat then A else A.map (·.add (lo.toNat * 1))) = A'
      cases A' <;> simp [Builtin.clear_, run_underlying ht]
    · rw [← hd, hm, List.replicate_zero, List.append_nil, List.take_of_length_le (by omega)]
      exact h
  · obtain ⟨g, rfl⟩ := own_some h (by omega)
    have hne : ¬ c = lo.toNat := by have := hR.1; omega
    have hcl := own_cells h
    have hget : ∀ j, j < n → (w.cell? ⟨g, j, none⟩).isSome = true := by
      intro j hj
      obtain ⟨ad, e0, hc⟩ := hcl.2 (by omega)
      obtain rfl := Option.some.inj e0
      have := hc j xs[j] (List.getElem?_eq_getElem (by omega))
      rw [add_flat, Nat.zero_add] at this
      rw [this]; rfl
    have hadd : (if c = lo.toNat then (some ⟨g, 0, none⟩ : Option Addr) else (some ⟨g, 0, none⟩ : Option Addr).map (·.add (lo.toNat * 1))) = some ⟨g, lo.toNat, none⟩ := by
      rw [if_neg hne, Option.map_some, add_flat, Nat.zero_add, Nat.mul_one]
    rw [hadd] at hrun
    have h2 := own_setCells (List.replicate (n - lo.toNat) z) lo.toNat h (by rw [List.length_replicate]; omega)
    refine ⟨_, _, _, _, hrun, fun ty => ?_, ?_, h2.2⟩
    · refine Lib.run_clear_slice w t e ty z (he ▸ ht) (fun w => by simp [zeroValue, typeInfo, hi, hv]) hz h1 g lo.toNat (n - lo.toNat) (c - lo.toNat) (by omega) (fun j hj => hget _ (by omega)) (fun j hj => h.frozenAt _)
    · have e2 : xs.take lo.toNat ++ List.replicate (n - lo.toNat) z ++ xs.drop (lo.toNat + (List.replicate (n - lo.toNat) z).length) = ys := by
        rw [List.length_replicate, List.drop_of_length_le (by omega), List.append_nil, hd]
      rw [← e2]
      exact h2.1
theorem apart_xio {n bb oo : Nat} {B : Option Addr} (h : 0 < n → Apart (some ⟨bb, oo, none⟩) B) (h0 : 0 < n) : Apart B (some ⟨bb, 0, none⟩) := by
  intro a a' ha ha' e
  injection ha' with ha'
  subst ha'
  exact h h0 ⟨bb, oo, none⟩ a rfl ha e.symm
/-- a row that came in, where another one was written -/
theorem cells_wr {w w' : World} {K n q c' : Nat} {A B : Option Addr} {xs : List Value} (h : Cells w K A n xs) (hg : w.grownBy w' (Value.slice B q c').ownBlock) (hX : 0 < n → Apart A B) : Cells w' K A n xs := by
  refine ⟨h.1, fun h0 => ?_⟩
  obtain ⟨a, e, hc⟩ := h.2 h0
  have hn : 0 < n := by
    rcases Nat.eq_zero_or_pos n with h1 | h1
    · have := h.1; rw [h1, Nat.zero_mul] at this; omega
    · exact h1
  refine ⟨a, e, fun j u hu => ?_⟩
  have hj := hc j u hu
  have hb : (a.add j).block = a.block := by unfold Addr.add; split <;> rfl
  rw [World.cell?_of_block (hg.block (a.add j).block (cell_lt hj) ?_)]
  · exact hj
  · cases hB : B with
    | none => simp [Value.ownBlock]
    | some y =>
      simp only [Value.ownBlock, ne_eq, Option.some.injEq]
      intro e2
      exact hX hn a y e hB (by rw [← hb]; exact e2)
/-- what came in lies apart from a row of one's own -/
theorem far_base {w w1 : World} {K n T K' m c n' : Nat} {A B : Option Addr} {cs xs : List Value} (hK : 0 < K) (h : Cells w K A n cs) (hO : w1.ownsRow w.heap.size T K' (.slice B m c) n' xs) : 0 < n → Apart A B := by
  intro hn a a' ha ha' e
  have h0 : 0 < cs.length := by rw [h.1]; exact Nat.mul_pos hn hK
  obtain ⟨a2, e2, hc⟩ := h.2 h0
  obtain rfl : a = a2 := by rw [ha] at e2; exact Option.some.inj e2
  have hl := cell_lt (hc 0 _ (List.getElem?_eq_getElem h0))
  have hb : (a.add 0).block = a.block := by unfold Addr.add; simp
  have := (own_lt hO a' ha').1
  rw [hb] at hl
  omega
end Go.Proofs.Ytkinlkmmelkdnaa.GoK

/- Rows of rows: a row of slices, each of which is a row of its own, all apart from each other. No condition. -/
namespace Go.Proofs.Ytkinlkmmelkdnaa.GoN
set_option linter.unusedVariables false
open Go.RowKit
open Go.Proofs.Ytkinlkmmelkdnaa.Rowed Go.Proofs.Ytkinlkmmelkdnaa.Turn Go.Proofs.Ytkinlkmmelkdnaa.GoM Go.Proofs.Ytkinlkmmelkdnaa.GoK

/-- the cells of a row of slices whose headers are hs -/
def heads {F : Type} (l : List (List F)) (hs : List (Option Addr × Nat)) : List Value := (l.zip hs).map fun p => Value.slice p.2.1 p.1.length p.2.2
/-- l, laid as rows of its own; B: where they lie -/
def OwnNest {F : Type} (w : World) (b T rT rK : Nat) (f : List F → List Value) (A : Option Addr) (c : Nat) (l : List (List F)) (B : List (Option Addr)) : Prop :=
  ∃ hs : List (Option Addr × Nat), hs.length = l.length ∧ w.ownsRow b T 1 (.slice A l.length c) l.length (heads l hs) ∧
    (∀ (i : Nat) x h, l[i]? = some x → hs[i]? = some h → w.ownsRow b rT rK (.slice h.1 x.length h.2) x.length (f x)) ∧ B = A :: hs.map (·.1) ∧ B.Pairwise Apart
/-- l reads as rows -/
def ReadNest {F : Type} (w : World) (rK : Nat) (f : List F → List Value) (A : Option Addr) (l : List (List F)) : Prop :=
  ∃ hs : List (Option Addr × Nat), hs.length = l.length ∧ Cells w 1 A l.length (heads l hs) ∧
    ∀ (i : Nat) x h, l[i]? = some x → hs[i]? = some h → Cells w rK h.1 x.length (f x) ∧ Room h.1 x.length h.2 ∧ x.length ≤ 9223372036854775807

section
variable {F : Type} {w w' : World} {b T rT rK c : Nat} {f : List F → List Value} {A : Option Addr} {l : List (List F)} {B : List (Option Addr)}

theorem nest_below (h : OwnNest w b T rT rK f A c l B) (hb : Below w.heap.size w w') : OwnNest w' b T rT rK f A c l B := by
  obtain ⟨hs, h1, h2, h3, h4, h5⟩ := h
  exact ⟨hs, h1, own_below h2 hb, fun i x h hx hh => own_below (h3 i x h hx hh) hb, h4, h5⟩
/-- another row is written -/
theorem nest_other {n' c' : Nat} {A' : Option Addr} (h : OwnNest w b T rT rK f A c l B) (hg : w.grownBy w' (Value.slice A' n' c').ownBlock) (hD : ∀ x ∈ B, Apart A' x) : OwnNest w' b T rT rK f A c l B := by
  obtain ⟨hs, h1, h2, h3, h4, h5⟩ := h
  subst h4
  refine ⟨hs, h1, own_other h2 hg (hD _ (by simp)), fun i x h hx hh => own_other (h3 i x h hx hh) hg (hD _ ?_), rfl, h5⟩
  exact List.mem_cons_of_mem _ (List.mem_map.2 ⟨h, List.mem_of_getElem? hh, rfl⟩)
theorem nest_lt (h : OwnNest w b T rT rK f A c l B) : ∀ x ∈ B, ∀ a, x = some a → b ≤ a.block ∧ a.block < w.heap.size := by
  obtain ⟨hs, h1, h2, h3, rfl, h5⟩ := h
  intro x hx a ha
  rcases List.mem_cons.1 hx with rfl | hx
  · exact own_lt h2 a ha
  · obtain ⟨h, hh, rfl⟩ := List.mem_map.1 hx
    obtain ⟨i, hi⟩ := List.getElem?_of_mem hh
    have hil := (List.getElem?_eq_some_iff.1 hi).1
    exact own_lt (h3 i l[i] h (List.getElem?_eq_getElem (by omega)) hi) a ha
/-- what is laid now is apart from all of it -/
theorem nest_fresh (h : OwnNest w b T rT rK f A c l B) : ∀ x ∈ B, Apart (some ⟨w.heap.size, 0, none⟩) x := by
  intro x hx a a' ha ha' e
  have := (nest_lt h x hx a' ha').2
  injection ha with ha
  subst ha
  simp at e
  omega
theorem nest_call {w1 : World} {T' K' n m c' : Nat} {A' : Option Addr} {xs : List Value} (h1 : w1.ownsRow w.heap.size T' K' (.slice A' m c') n xs) (h : OwnNest w b T rT rK f A c l B) : ∀ x ∈ B, Apart A' x := by
  intro x hx a a' ha ha' e
  have := (nest_lt h x hx a' ha').2
  have := (own_lt h1 a ha).1
  omega
theorem nest_empty {wc : World} (h : b ≤ wc.heap.size) : OwnNest (wc.alloc (.cells #[] T)) b T rT rK f (some ⟨wc.heap.size, 0, none⟩) 0 ([] : List (List F)) [some ⟨wc.heap.size, 0, none⟩] :=
  ⟨[], rfl, ⟨by simp [heads], .inr ⟨wc.heap.size, 0, #[], rfl, h, heap_alloc_new wc _, Nat.le_refl _, by unfold maxLen; omega, by simp, by simp [heads]⟩⟩, fun i x h hx _ => by simp at hx, rfl, by simp⟩
theorem heads_at {hs : List (Option Addr × Nat)} {i : Nat} {x : List F} {h : Option Addr × Nat} (hx : l[i]? = some x) (hh : hs[i]? = some h) : (heads l hs)[i]? = some (.slice h.1 x.length h.2) := by
  unfold heads
  rw [List.getElem?_map, (List.getElem?_zip_eq_some (z := (x, h))).2 ⟨hx, hh⟩]; rfl
theorem heads_len {hs : List (Option Addr × Nat)} (h : hs.length = l.length) : (heads l hs).length = l.length := by unfold heads; rw [List.length_map, List.length_zip]; omega
theorem nest_read (h : OwnNest w b T rT rK f A c l B) : ReadNest w rK f A l := by
  obtain ⟨hs, h1, h2, h3, h4, h5⟩ := h
  exact ⟨hs, h1, own_cells h2, fun i x h hx hh => ⟨own_cells (h3 i x h hx hh), own_room (h3 i x h hx hh), own_max (h3 i x h hx hh)⟩⟩
theorem read_below (h : ReadNest w rK f A l) (hb : Below w.heap.size w w') : ReadNest w' rK f A l := by
  obtain ⟨hs, h1, h2, h3⟩ := h
  exact ⟨hs, h1, Cells.below h2 hb, fun i x h hx hh => ⟨Cells.below (h3 i x h hx hh).1 hb, (h3 i x h hx hh).2⟩⟩
/-- the slice at k -/
theorem nest_at {k : Nat} (h : ReadNest w rK f A l) (hk : k < l.length) : ∃ (bb o : Nat) (x : List F) (A1 : Option Addr) (c1 : Nat), A = some ⟨bb, o, none⟩ ∧ l[k]? = some x ∧ w.cell? ⟨bb, o + k, none⟩ = some (.slice A1 x.length c1) ∧
    Cells w rK A1 x.length (f x) ∧ Room A1 x.length c1 ∧ x.length ≤ 9223372036854775807 := by
  obtain ⟨hs, h1, h2, h3⟩ := h
  have hx := List.getElem?_eq_getElem hk
  have hh := List.getElem?_eq_getElem (show k < hs.length by omega)
  obtain ⟨⟨bb, o, sp⟩, e, hc⟩ := h2.2 (by rw [heads_len h1]; omega)
  have h0 := hc 0 _ (heads_at (List.getElem?_eq_getElem (show 0 < l.length by omega)) (List.getElem?_eq_getElem (show 0 < hs.length by omega)))
  obtain rfl : sp = none := cell_spot (b := bb) (o := o) h0
  have h4 := hc k _ (heads_at hx hh)
  rw [add_flat] at h4
  obtain ⟨r1, r2, r3⟩ := h3 k _ _ hx hh
  exact ⟨bb, o, l[k], hs[k].1, hs[k].2, e, hx, h4, r1, r2, r3⟩
/-- one row more, behind an append of its header -/
theorem nest_push {n' c' cx : Nat} {v' : Value} {Ax : Option Addr} {x : List F} {hs : List (Option Addr × Nat)} (h1 : hs.length = l.length)
    (h3 : ∀ (i : Nat) y h, l[i]? = some y → hs[i]? = some h → w'.ownsRow b rT rK (.slice h.1 y.length h.2) y.length (f y)) (hx : w'.ownsRow b rT rK (.slice Ax x.length cx) x.length (f x))
    (ho : w'.ownsRow b T 1 v' (l.length + 1) (heads l hs ++ [.slice Ax x.length cx])) (hp : (hs.map (·.1) ++ [Ax]).Pairwise Apart) (hv : ∀ a, v'.ownBlock = some a → ∀ y ∈ hs.map (·.1) ++ [Ax], ∀ a', y = some a' → a'.block ≠ a) :
    ∃ g cap, v' = .slice (some ⟨g, 0, none⟩) (l ++ [x]).length cap ∧ OwnNest w' b T rT rK f (some ⟨g, 0, none⟩) cap (l ++ [x]) (some ⟨g, 0, none⟩ :: (hs.map (·.1) ++ [Ax])) := by
  obtain ⟨g, cap, rfl⟩ : ∃ g cap, v' = .slice (some ⟨g, 0, none⟩) (l.length + 1) cap := by
    rcases ho.2 with ⟨_, h⟩ | ⟨g3, cap3, _, h, _⟩
    · omega
    · exact ⟨g3, cap3, h⟩
  have el : (l ++ [x]).length = l.length + 1 := by simp
  refine ⟨g, cap, by rw [el], hs ++ [(Ax, cx)], by simp [h1], ?_, ?_, by simp, ?_⟩
  · rw [el]
    have e : heads (l ++ [x]) (hs ++ [(Ax, cx)]) = heads l hs ++ [.slice Ax x.length cx] := by unfold heads; rw [List.zip_append h1.symm]; simp
    rw [e]; exact ho
  · intro i y h hy hh
    by_cases hi : i < l.length
    · rw [List.getElem?_append_left hi] at hy
      rw [List.getElem?_append_left (by omega)] at hh
      exact h3 i y h hy hh
    · have hi2 := (List.getElem?_eq_some_iff.1 hy).1
      rw [el] at hi2
      obtain rfl : i = l.length := by omega
      rw [List.getElem?_append_right (Nat.le_refl _)] at hy
      rw [List.getElem?_append_right (by omega)] at hh
      simp [h1] at hy hh
      subst hy
      subst hh
      exact hx
  · rw [List.pairwise_cons]
    refine ⟨fun y hy a a' ha ha' e => ?_, hp⟩
    injection ha with ha
    subst ha
    exact hv g rfl y hy a' ha' e.symm
theorem nest_head (h : OwnNest w b T rT rK f A c l B) : A ∈ B := by
  obtain ⟨hs, h1, h2, h3, rfl, h5⟩ := h
  simp
theorem nest_lower {b' : Nat} (h : OwnNest w b T rT rK f A c l B) (hb : b' ≤ b) : OwnNest w b' T rT rK f A c l B := by
  obtain ⟨hs, h1, h2, h3, h4, h5⟩ := h
  exact ⟨hs, h1, own_lower h2 hb, fun i x h hx hh => own_lower (h3 i x h hx hh) hb, h4, h5⟩
/-- what a call has laid lies apart from a row that was there -/
theorem nest_callrow {w1 : World} {b' T' K' n m c' : Nat} {A' : Option Addr} {xs : List Value} (h1 : OwnNest w1 w.heap.size T rT rK f A c l B) (h : w.ownsRow b' T' K' (.slice A' m c') n xs) : ∀ x ∈ B, Apart A' x := by
  intro x hx a a' ha ha' e
  have := (nest_lt h1 x hx a' ha').1
  have := (own_lt h a ha).2
  omega
theorem nest_callbox {w1 : World} {g j : Nat} {v : Value} (h1 : OwnNest w1 w.heap.size T rT rK f A c l B) (h : w.cell? ⟨g, j, none⟩ = some v) : ∀ x ∈ B, Apart (some ⟨g, 0, none⟩) x := by
  intro x hx a a' ha ha' e
  have := (nest_lt h1 x hx a' ha').1
  have hl : g < w.heap.size := cell_lt h
  injection ha with ha
  subst ha
  simp at e
  omega
theorem nest_callnest {F' : Type} {w1 : World} {b' T' rT' rK' c' : Nat} {f' : List F' → List Value} {A' : Option Addr} {l' : List (List F')} {B' : List (Option Addr)} (h1 : OwnNest w1 w.heap.size T rT rK f A c l B) (h : OwnNest w b' T' rT' rK' f' A' c' l' B') :
    ∀ x ∈ B, ∀ y ∈ B', Apart x y := by
  intro x hx y hy a a' ha ha' e
  have := (nest_lt h1 x hx a ha).1
  have := (nest_lt h y hy a' ha').2
  omega
theorem nest_flip {B B' : List (Option Addr)} (h : ∀ x ∈ B, ∀ y ∈ B', Apart x y) : ∀ y ∈ B', ∀ x ∈ B, Apart y x := fun y hy x hx => (h x hx y hy).symm
/-- the row at k -/
theorem nest_own {k : Nat} (h : OwnNest w b T rT rK f A c l B) (hk : k < l.length) : ∃ (g : Nat) (x : List F) (A1 : Option Addr) (c1 : Nat), A = some ⟨g, 0, none⟩ ∧ l[k]? = some x ∧ w.cell? ⟨g, k, none⟩ = some (.slice A1 x.length c1) ∧
    w.ownsRow b rT rK (.slice A1 x.length c1) x.length (f x) ∧ A1 ∈ B ∧ Apart A A1 := by
  obtain ⟨hs, h1, h2, h3, rfl, h5⟩ := h
  have hx := List.getElem?_eq_getElem hk
  have hh := List.getElem?_eq_getElem (show k < hs.length by omega)
  obtain ⟨g, rfl⟩ := own_some h2 (by omega)
  obtain ⟨ad, e, hc⟩ := (own_cells h2).2 (by rw [heads_len h1]; omega)
  obtain rfl := Option.some.inj e
  have h4 := hc k _ (heads_at hx hh)
  rw [add_flat, Nat.zero_add] at h4
  have hm : hs[k].1 ∈ hs.map (·.1) := List.mem_map.2 ⟨hs[k], List.getElem_mem _, rfl⟩
  exact ⟨g, l[k], hs[k].1, hs[k].2, rfl, hx, h4, h3 k _ _ hx hh, List.mem_cons_of_mem _ hm, (List.pairwise_cons.1 h5).1 _ hm⟩
/-- a row in it has been written -/
theorem nest_store {k g n' c' : Nat} {x x' : List F} {A1 : Option Addr} {c1 : Nat} (h : OwnNest w b T rT rK f (some ⟨g, 0, none⟩) c l B) (hk : l[k]? = some x) (hcell : w.cell? ⟨g, k, none⟩ = some (.slice A1 x.length c1))
    (hx : w'.ownsRow b rT rK (.slice A1 n' c1) n' (f x')) (hn : x'.length = n') (hn2 : x.length = n') (hg : w.grownBy w' (Value.slice A1 n' c').ownBlock) : OwnNest w' b T rT rK f (some ⟨g, 0, none⟩) c (l.set k x') B := by
  subst hn
  obtain ⟨hs, h1, h2, h3, rfl, h5⟩ := h
  have hkl := (List.getElem?_eq_some_iff.1 hk).1
  have hh := List.getElem?_eq_getElem (show k < hs.length by omega)
  obtain ⟨ad, e, hc⟩ := (own_cells h2).2 (by rw [heads_len h1]; omega)
  obtain rfl := Option.some.inj e
  have h4 := hc k _ (heads_at hk hh)
  rw [add_flat, Nat.zero_add, hcell] at h4
  have h4' := Option.some.inj h4
  simp only [Value.slice.injEq] at h4'
  obtain ⟨e1, _, e2⟩ := h4'
  subst e1
  have hap := List.pairwise_cons.1 h5
  have hmk : hs[k].1 ∈ hs.map (·.1) := List.mem_map.2 ⟨hs[k], List.getElem_mem _, rfl⟩
  refine ⟨hs, by rw [List.length_set]; exact h1, ?_, ?_, rfl, h5⟩
  · have e3 : heads (l.set k x') hs = heads l hs := by
      apply List.ext_getElem?
      intro i
      unfold heads
      rw [List.getElem?_map, List.getElem?_map]
      by_cases hi : i < l.length
      · have hi2 : i < hs.length := by omega
        by_cases hik : k = i
        · subst hik
          rw [(List.getElem?_zip_eq_some (z := (x', hs[k]))).2 ⟨by rw [List.getElem?_set_self hkl], hh⟩, (List.getElem?_zip_eq_some (z := (x, hs[k]))).2 ⟨hk, hh⟩]
          simp [hn2]
        · rw [(List.getElem?_zip_eq_some (z := (l[i], hs[i]))).2 ⟨by rw [List.getElem?_set_ne hik]; exact List.getElem?_eq_getElem hi, List.getElem?_eq_getElem hi2⟩,
            (List.getElem?_zip_eq_some (z := (l[i], hs[i]))).2 ⟨List.getElem?_eq_getElem hi, List.getElem?_eq_getElem hi2⟩]
      · rw [List.getElem?_eq_none (by rw [List.length_zip, List.length_set]; omega), List.getElem?_eq_none (by rw [List.length_zip]; omega)]
    rw [e3, List.length_set]
    refine own_other h2 hg ?_
    exact (hap.1 _ hmk).symm
  · intro i y h hy hhi
    by_cases hik : k = i
    · subst hik
      rw [List.getElem?_set_self hkl] at hy
      obtain rfl := Option.some.inj hy
      obtain rfl := Option.some.inj (hh.symm.trans hhi)
      rw [← e2]
      exact hx
    · rw [List.getElem?_set_ne hik] at hy
      refine own_other (h3 i y h hy hhi) hg ?_
      have hi2 := (List.getElem?_eq_some_iff.1 hhi).1
      have hp := List.pairwise_iff_getElem.1 hap.2
      have ei : h = hs[i] := by rw [List.getElem?_eq_getElem hi2] at hhi; exact (Option.some.inj hhi).symm
      rw [ei]
      rcases Nat.lt_or_gt_of_ne hik with h6 | h6
      · have := hp k i (by rw [List.length_map]; omega) (by rw [List.length_map]; omega) h6
        simpa using this
      · have := hp i k (by rw [List.length_map]; omega) (by rw [List.length_map]; omega) h6
        simpa using this.symm
/-- what lies in B' : what lay in B, the row at Ax, and the headers, where they were or behind all -/
def Pushed (w : World) (A Ax : Option Addr) (B B' : List (Option Addr)) : Prop := A ∈ B ∧ Ax ∈ B' ∧ ∀ y ∈ B', y ∈ B ∨ y = Ax ∨ From w A y
theorem apart_push {R Ax : Option Addr} {B' : List (Option Addr)} (hD : ∀ y ∈ B, Apart R y) (hx : Apart R Ax) (hR : ∀ a, R = some a → a.block < w.heap.size) (h : Pushed w A Ax B B') : ∀ y ∈ B', Apart R y := by
  intro y hy
  rcases h.2.2 y hy with h1 | rfl | h1
  · exact hD y h1
  · exact hx
  · exact (apart_from (hD A h.1).symm hR h1).symm
theorem apart_pushN {Ax : Option Addr} {B' C : List (Option Addr)} (hD : ∀ r ∈ C, ∀ y ∈ B, Apart r y) (hx : ∀ r ∈ C, Apart Ax r) (hR : ∀ r ∈ C, ∀ a, r = some a → a.block < w.heap.size) (h : Pushed w A Ax B B') : ∀ r ∈ C, ∀ y ∈ B', Apart r y :=
  fun r hr => apart_push (hD r hr) (hx r hr).symm (hR r hr) h
/-- append(rows, row): the row is in the nest from here on, and reads as before -/
theorem nest_app {n' c' : Nat} {v' : Value} {Ax : Option Addr} {cx : Nat} {x : List F} {hs : List (Option Addr × Nat)} {l' : List (List F)} (hl' : l ++ [x] = l') (h1 : hs.length = l.length) (h4 : B = A :: hs.map (·.1))
    (h3 : ∀ (i : Nat) y h, l[i]? = some y → hs[i]? = some h → w.ownsRow b rT rK (.slice h.1 y.length h.2) y.length (f y)) (h5 : B.Pairwise Apart) (hx : w.ownsRow b rT rK (.slice Ax x.length cx) x.length (f x))
    (hD : ∀ y ∈ B, Apart Ax y) (hg : w.grownBy w' (Value.slice A n' c').ownBlock) (ho : w'.ownsRow b T 1 v' (l.length + 1) (heads l hs ++ [.slice Ax x.length cx]))
    (hy : v'.ownBlock = (Value.slice A n' c').ownBlock ∨ v'.ownBlock = some w.heap.size) :
    ∃ g cap B', v' = .slice (some ⟨g, 0, none⟩) l'.length cap ∧ OwnNest w' b T rT rK f (some ⟨g, 0, none⟩) cap l' B' ∧ Pushed w A Ax B B' ∧ w'.ownsRow b rT rK (.slice Ax x.length cx) x.length (f x) := by
  subst hl'
  subst h4
  have hp := List.pairwise_cons.1 h5
  have hx' := own_other hx hg (hD A (by simp)).symm
  have hlt : ∀ y ∈ hs.map (·.1) ++ [Ax], ∀ a, y = some a → a.block < w.heap.size := by
    intro y hy a ha
    rcases List.mem_append.1 hy with hy | hy
    · obtain ⟨h, hh, rfl⟩ := List.mem_map.1 hy
      obtain ⟨i, hi⟩ := List.getElem?_of_mem hh
      have hil := (List.getElem?_eq_some_iff.1 hi).1
      exact (own_lt (h3 i l[i] h (List.getElem?_eq_getElem (by omega)) hi) a ha).2
    · simp at hy; subst hy; exact (own_lt hx a ha).2
  obtain ⟨g, cap, e, hN⟩ := nest_push (c' := c') (n' := n') h1 (fun i y h hy hh => own_other (h3 i y h hy hh) hg (hp.1 _ (List.mem_map.2 ⟨h, List.mem_of_getElem? hh, rfl⟩))) hx' ho
    (List.pairwise_append.2 ⟨hp.2, by simp, fun a ha b hb => by simp at hb; subst hb; exact (hD a (List.mem_cons_of_mem _ ha)).symm⟩)
    (by
      intro a ha y hy a' ha' e
      rcases hy with hy
      rcases ‹v'.ownBlock = _ ∨ _› with h6 | h6
      · rw [ha] at h6
        cases hA : A with
        | none => rw [hA] at h6; simp [Value.ownBlock] at h6
        | some z =>
          rw [hA] at h6
          simp only [Value.ownBlock, Option.some.injEq] at h6
          rcases List.mem_append.1 hy with hy | hy
          · exact hp.1 y hy z a' hA ha' (by omega)
          · simp at hy; subst hy; exact hD A (by simp) a' z ha' hA (by omega)
      · rw [ha] at h6
        have := hlt y hy a' ha'
        simp only [Option.some.injEq] at h6; omega)
  refine ⟨g, cap, _, e, hN, ⟨by simp, by simp, ?_⟩, hx'⟩
  intro y hy
  rcases List.mem_cons.1 hy with rfl | hy
  · right; right
    rw [e] at ‹v'.ownBlock = _ ∨ _›
    intro a' ha'
    injection ha' with ha'
    subst ha'
    rcases ‹_ ∨ _› with h6 | h6
    · left
      cases hA : A with
      | none => rw [hA] at h6; simp [Value.ownBlock] at h6
      | some z => rw [hA] at h6; simp only [Value.ownBlock, Option.some.injEq] at h6; exact ⟨z, rfl, h6.symm⟩
    · right; simp only [Value.ownBlock, Option.some.injEq] at h6; exact Nat.le_of_eq h6.symm
  · rcases List.mem_append.1 hy with hy | hy
    · exact .inl (List.mem_cons_of_mem _ hy)
    · simp at hy; exact .inr (.inl hy)
theorem nest_one {X R : Option Addr} (h : Apart X R) : ∀ y ∈ [X], Apart R y := by
  intro y hy
  simp at hy
  subst hy
  exact h.symm
theorem nest_max (h : OwnNest w b T rT rK f A c l B) : l.length ≤ 9223372036854775807 := by
  obtain ⟨hs, h1, h2, h3, h4, h5⟩ := h
  exact own_max h2
theorem nest_room (h : OwnNest w b T rT rK f A c l B) : Room A l.length c := by
  obtain ⟨hs, h1, h2, h3, h4, h5⟩ := h
  exact own_room h2
/-- w' is w but for what lies in B, and for new blocks -/
structure GrownN (w w' : World) (B : List (Option Addr)) : Prop where
  os : w'.os = w.os
  tape : w'.tape = w.tape
  output : w'.output = w.output
  size : w.heap.size ≤ w'.heap.size
  block : ∀ k, k < w.heap.size → (∀ y ∈ B, ∀ a, y = some a → a.block ≠ k) → w'.heap[k]? = w.heap[k]?
theorem grownN_refl (w : World) (B : List (Option Addr)) : GrownN w w B := ⟨rfl, rfl, rfl, Nat.le_refl _, fun _ _ _ => rfl⟩
theorem grownN_below {wr w2 : World} {B : List (Option Addr)} (h : GrownN w wr B) (hb : Below wr.heap.size wr w2) : GrownN w w2 B :=
  ⟨hb.os.trans h.os, hb.tape.trans h.tape, hb.output.trans h.output, Nat.le_trans h.size hb.size, fun k hk h1 => (hb.block k (Nat.lt_of_lt_of_le hk h.size)).trans (h.block k hk h1)⟩
theorem grownN_row {wr w2 : World} {B : List (Option Addr)} {n c' : Nat} {A1 : Option Addr} (h : GrownN w wr B) (hg : wr.grownBy w2 (Value.slice A1 n c').ownBlock) (hm : A1 ∈ B) : GrownN w w2 B :=
  ⟨hg.os.trans h.os, hg.tape.trans h.tape, hg.output.trans h.output, Nat.le_trans h.size hg.size, fun k hk h1 => (hg.block k (Nat.lt_of_lt_of_le hk h.size) (by
    cases hA : A1 with
    | none => simp [Value.ownBlock]
    | some a => simp only [Value.ownBlock, ne_eq, Option.some.injEq]; exact fun e => h1 _ hm a hA e.symm)).trans (h.block k hk h1)⟩
theorem below_nest {wr w2 : World} {B0 : Nat} {B : List (Option Addr)} (h : Below B0 w wr) (hg : GrownN wr w2 B) (hB : B0 ≤ wr.heap.size) (h1 : ∀ y ∈ B, ∀ a, y = some a → B0 ≤ a.block ∧ a.block < wr.heap.size) : Below B0 w w2 :=
  ⟨hg.os.trans h.os, hg.tape.trans h.tape, hg.output.trans h.output, Nat.le_trans h.size hg.size, fun k hk => (hg.block k (Nat.lt_of_lt_of_le hk hB) (fun y hy a e e2 => by have := (h1 y hy a e).1; omega)).trans (h.block k hk)⟩
theorem own_otherN {b' T' K' n m c' : Nat} {R : Option Addr} {ys : List Value} (h : w.ownsRow b' T' K' (.slice R m c') n ys) (hg : GrownN w w' B) (hD : ∀ y ∈ B, Apart R y) : w'.ownsRow b' T' K' (.slice R m c') n ys := by
  refine ⟨h.1, ?_⟩
  rcases h.2 with hn | ⟨g, cap, cur, hv, hb, hgg, rest⟩
  · exact .inl hn
  · have hlt := (h.lt g (by rw [hv]; rfl)).2
    have hR : R = some ⟨g, 0, none⟩ := by simp only [Value.slice.injEq] at hv; exact hv.1
    refine .inr ⟨g, cap, cur, hv, hb, ?_, rest⟩
    rw [hg.block g hlt (fun y hy a e e2 => hD y hy _ a hR e e2.symm)]
    exact hgg
theorem cell_otherN {a : Addr} {v : Value} (h : w.cell? a = some v) (hg : GrownN w w' B) (hD : ∀ y ∈ B, Apart (some ⟨a.block, 0, none⟩) y) : w'.cell? a = some v := by
  rw [World.cell?_of_block (hg.block a.block (cell_lt h) (fun y hy x e e2 => hD y hy _ x rfl e e2.symm))]
  exact h
theorem apart_oldN {wr : World} {b' g : Nat} (h : OwnNest wr b' T rT rK f A c l B) (hg : g < b') : ∀ y ∈ B, Apart (some ⟨g, 0, none⟩) y := by
  intro y hy a a' ha ha' e
  have := (nest_lt h y hy a' ha').1
  injection ha with ha
  subst ha
  simp at e
  omega
theorem nest_otherN {F' : Type} {b' T' rT' rK' c' : Nat} {f' : List F' → List Value} {A' : Option Addr} {l' : List (List F')} {B' : List (Option Addr)} (h : OwnNest w b' T' rT' rK' f' A' c' l' B') (hg : GrownN w w' B) (hD : ∀ x ∈ B', ∀ y ∈ B, Apart x y) : OwnNest w' b' T' rT' rK' f' A' c' l' B' := by
  obtain ⟨hs, h1, h2, h3, rfl, h5⟩ := h
  refine ⟨hs, h1, own_otherN h2 hg (hD _ (by simp)), fun i x h hx hh => own_otherN (h3 i x h hx hh) hg (hD _ ?_), rfl, h5⟩
  exact List.mem_cons_of_mem _ (List.mem_map.2 ⟨h, List.mem_of_getElem? hh, rfl⟩)
end
end Go.Proofs.Ytkinlkmmelkdnaa.GoN

/- How a struct of one-cell fields that comes in as data is opened, whatever the number of its fields; lists by their members. No condition. -/
namespace Go.Proofs.Ytkinlkmmelkdnaa.OpenAny
set_option linter.unusedVariables false
open Go.Joins Go.ChangeShapes Go.WideShapes Go.RowKit Go.Deep

theorem add_none (b o n : Nat) : (⟨b, o, none⟩ : Addr).add n = ⟨b, o + n, none⟩ := by
  unfold Addr.add; split
  · rename_i h; subst h; rfl
  · rfl
section
variable {H : Type} {enc : TypeId × Value → H} {P : Program} {w : World} {base : Nat} {spare : Nat → Bool} {held : Bool}
/-- each field reads on its own -/
theorem read_fields {t : TypeId} {fs : Array Field} {fuel : Nat} {cs : List Value} {x : DataW H × List MemPlace} (hs : P.underlying t = some (.struct fs)) (hone : oneCellFields P fs = true) (hC : P.cellsOf t = fs.size)
    (h : DataW.trod enc P w base spare held fuel t cs = some x) :
    cs.length = P.cellsOf t ∧ ∀ (j : Nat) (f : Field), fs[j]? = some f → ∃ (u : Value) (n : Nat) (y : DataW H × List MemPlace), cs[j]? = some u ∧ DataW.trod enc P w base spare held n f.type [u] = some y := by
  obtain ⟨xs, n, _, _, hlen, hxl, hg⟩ := DataW.trod_struct hs h
  refine ⟨hlen, fun j f hj => ?_⟩
  obtain ⟨ho, hk⟩ := hone_of hone j f hj
  have hjl : j < fs.size := (Array.getElem?_eq_some_iff.1 hj).1
  have h1 := hg j f hj
  rw [ho, hk, List.getElem?_eq_getElem (by omega : j < xs.length)] at h1
  have hc : j < cs.length := by omega
  rw [List.drop_eq_getElem_cons hc] at h1
  exact ⟨cs[j], n, _, List.getElem?_eq_getElem hc, h1⟩
/-- an aggregate that comes in reads as its cells do -/
theorem agg_any {r : Reach} {b0 : Nat} {t : TypeId} {fs : Array Field} {v : Value} {d : DataW H} {p : List MemPlace} (hs : P.underlying t = some (.struct fs)) (hv : Value.okWide P w r b0 t v) (h : DataW.Trod enc P w base spare held t v d p) :
    ∃ (cs : Array Value) (n : Nat) (x : DataW H × List MemPlace), v = .agg cs ∧ DataW.trod enc P w base spare held n t cs.toList = some x := by
  obtain ⟨cs, rfl, _⟩ := okWide_struct hs hv
  obtain ⟨fuel, hf⟩ := h
  exact ⟨cs, fuel, _, rfl, hf⟩
end
/-- a list by its members -/
theorem list_of {α : Type} (p : Nat → α → Prop) : ∀ (n : Nat), (∀ k, k < n → ∃ a, p k a) → ∃ l : List α, l.length = n ∧ ∀ k a, l[k]? = some a → p k a
  | 0, _ => ⟨[], rfl, fun k a h => by simp at h⟩
  | n + 1, h => by
    obtain ⟨l, hl, hp⟩ := list_of p n (fun k hk => h k (by omega))
    obtain ⟨a, ha⟩ := h n (by omega)
    refine ⟨l ++ [a], by simp [hl], fun k b hb => ?_⟩
    by_cases hk : k < n
    · rw [List.getElem?_append_left (by omega)] at hb; exact hp k b hb
    · have hk' : k < (l ++ [a]).length := (List.getElem?_eq_some_iff.1 hb).1
      simp [hl] at hk'
      obtain rfl : k = n := by omega
      rw [List.getElem?_append_right (by omega), hl, Nat.sub_self] at hb
      obtain rfl : a = b := by simpa using hb
      exact ha
end Go.Proofs.Ytkinlkmmelkdnaa.OpenAny

/- The record Shade as data that comes in, and a slice of it. No condition. -/
namespace Go.Proofs.Ytkinlkmmelkdnaa.OShade
set_option linter.unusedVariables false
set_option maxRecDepth 100000
open Go.Joins Go.ChangeShapes Go.WideShapes Go.RowKit Go.Deep
open Go.Proofs.Ytkinlkmmelkdnaa.Rowed Go.Proofs.Ytkinlkmmelkdnaa.OpenAny Go.Proofs.Ytkinlkmmelkdnaa.PShade

/-- the slice 'A, n' reads as the records l -/
abbrev Shades (w : World) (A : Option Addr) (n : Nat) (l : List Shade) : Prop := Cells w 5 A n (flat l)
theorem at_ {w : World} {A : Option Addr} {n k : Nat} {l : List Shade} (h : Shades w A n l) (hk : k < n) :
    ∃ (b o : Nat) (s : Shade), A = some ⟨b, o, none⟩ ∧ l[k]? = some s ∧ w.cell? ⟨b, o + k * 5, none⟩ = some (.string s.name) ∧ w.cell? ⟨b, o + k * 5 + 1, none⟩ = some (.int .i64 s.hue) ∧ w.cell? ⟨b, o + k * 5 + 2, none⟩ = some (.int .i64 s.width) ∧ w.cell? ⟨b, o + k * 5 + 3, none⟩ = some (.int .i64 s.dark) ∧ w.cell? ⟨b, o + k * 5 + 4, none⟩ = some (.int .i64 s.light) := by
  have hl : k < l.length := by have := h.1; rw [flat_len] at this; omega
  obtain ⟨⟨b, o, sp⟩, e, hc⟩ := h.2 (by rw [flat_len]; omega)
  have h0 := hc 0 _ (flat_at l 0 l[0] (List.getElem?_eq_getElem (by omega)) 0 (by omega))
  obtain rfl : sp = none := cell_spot (b := b) (o := o) h0
  have hs := List.getElem?_eq_getElem hl
  have f := flat_at l k _ hs
  have g := fun j u hu => add_none b o j ▸ hc j u hu
  exact ⟨b, o, l[k], e, hs, g _ _ (f 0 (by omega)), g _ _ (f 1 (by omega)), g _ _ (f 2 (by omega)), g _ _ (f 3 (by omega)), g _ _ (f 4 (by omega))⟩
theorem len_of {w : World} {A : Option Addr} {n : Nat} {l : List Shade} (h : Shades w A n l) : l.length = n := by
  have := h.1
  rw [flat_len] at this; omega

/-- a slice of records that came in: the list that it reads as -/
structure Came (w : World) (A : Option Addr) (len cap : Nat) (l : List Shade) : Prop where
  cells : Shades w A len l
  small : len ≤ maxLen
  fits : ∀ s ∈ l, s.fits
theorem Came.len {w : World} {A : Option Addr} {len cap : Nat} {l : List Shade} (h : Came w A len cap l) : l.length = len := len_of h.cells

section
variable {H : Type} {enc : TypeId × Value → H} {w : World} {base : Nat} {spare : Nat → Bool} {held : Bool}
theorem read_one {n : Nat} {cs : List Value} {x : DataW H × List MemPlace} (h : DataW.trod enc Try.prog w base spare held n 74 cs = some x) : ∃ s : Shade, cs = s.cells ∧ s.fits := by
  have hc : Try.prog.cellsOf 74 = 5 := by kernel_rfl
  obtain ⟨hl, hf⟩ := read_fields Try.underlying74 (by kernel_rfl) hc h
  rw [hc] at hl
  match cs, hl with
  | [v0, v1, v2, v3, v4], _ =>
    obtain ⟨u0, n0, y0, eu0, t0⟩ := hf 0 _ rfl
    obtain ⟨x0, e0, _, f0⟩ := DataW.trod_string Try.underlying9 t0
    obtain rfl : v0 = u0 := by simpa using eu0
    obtain rfl : v0 = .string x0 := by simpa using e0
    obtain ⟨u1, n1, y1, eu1, t1⟩ := hf 1 _ rfl
    obtain ⟨x1, e1, _, f1⟩ := DataW.trod_int Try.underlying3 t1
    obtain rfl : v1 = u1 := by simpa using eu1
    obtain rfl : v1 = .int .i64 x1 := by simpa using e1
    obtain ⟨u2, n2, y2, eu2, t2⟩ := hf 2 _ rfl
    obtain ⟨x2, e2, _, f2⟩ := DataW.trod_int Try.underlying3 t2
    obtain rfl : v2 = u2 := by simpa using eu2
    obtain rfl : v2 = .int .i64 x2 := by simpa using e2
    obtain ⟨u3, n3, y3, eu3, t3⟩ := hf 3 _ rfl
    obtain ⟨x3, e3, _, f3⟩ := DataW.trod_int Try.underlying3 t3
    obtain rfl : v3 = u3 := by simpa using eu3
    obtain rfl : v3 = .int .i64 x3 := by simpa using e3
    obtain ⟨u4, n4, y4, eu4, t4⟩ := hf 4 _ rfl
    obtain ⟨x4, e4, _, f4⟩ := DataW.trod_int Try.underlying3 t4
    obtain rfl : v4 = u4 := by simpa using eu4
    obtain rfl : v4 = .int .i64 x4 := by simpa using e4
    exact ⟨⟨x0, x1, x2, x3, x4⟩, rfl, f0, f1, f2, f3, f4⟩
theorem open_one {r : Reach} {b0 : Nat} {v : Value} {d : DataW H} {p : List MemPlace} (hv : Value.okWide Try.prog w r b0 74 v) (h : DataW.Trod enc Try.prog w base spare held 74 v d p) :
    ∃ s : Shade, v = s.val ∧ s.fits := by
  obtain ⟨cs, n, x, rfl, ht⟩ := agg_any Try.underlying74 hv h
  obtain ⟨s, e, hs⟩ := read_one ht
  refine ⟨s, ?_, hs⟩
  obtain ⟨l⟩ := cs
  obtain rfl : l = s.cells := by simpa using e
  rfl
end
theorem open_field {H : Type} {enc : TypeId × Value → H} {W : World} {fuel : Nat} {u : Value} {y : DataW H × List MemPlace}
    (hf : DataW.trod enc Try.prog W 0 (fun _ => true) true fuel 63 [u] = some y) : ∃ (a : Option Addr) (len cap : Nat) (l : List Shade), u = .slice a len cap ∧ Came W a len cap l := by
  have ck : Try.prog.cellsOf 74 = 5 := by kernel_rfl
  rcases open_slice Try.underlying63 hf with ⟨hcs, _⟩ | ⟨x, ln, cp, m, n, D, Pl, hcs, hb, hl, hm, hmm, _, hi⟩
  · obtain rfl : u = .slice none 0 0 := by simpa using hcs
    exact ⟨none, 0, 0, [], rfl, Cells.nil_ _ _ _, by unfold maxLen; omega, by intro s hs; simp at hs⟩
  · obtain rfl : u = .slice (some x) ln cp := by simpa using hcs
    simp only [if_true] at hmm
    subst hmm
    rw [ck] at hi
    obtain ⟨l, hll, hp⟩ := list_of (fun k s => Shade.fits s ∧ ∀ j, j < 5 → W.cell? (x.add (k * 5 + j)) = s.cells[j]?) ln (fun k hk => by
      obtain ⟨cs', hc, ht⟩ := hi k (by omega)
      obtain ⟨s, rfl, hfit⟩ := read_one ht
      refine ⟨s, hfit, fun j hj => ?_⟩
      have := (World.cells?_some hc).2.2 j hj
      rw [Go.Deep.add_add] at this
      exact this)
    refine ⟨some x, ln, _, l, rfl, ⟨by rw [flat_len, hll], fun h0 => ⟨x, rfl, fun j u hu => ?_⟩⟩, by omega, fun s hs => ?_⟩
    · have hj : j < (flat l).length := (List.getElem?_eq_some_iff.1 hu).1
      rw [flat_len] at hj
      have hk : j / 5 < l.length := by omega
      have e := flat_at l (j / 5) l[j/5] (List.getElem?_eq_getElem hk) (j % 5) (by omega)
      rw [show j / 5 * 5 + j % 5 = j by omega, hu] at e
      have := (hp (j / 5) l[j/5] (List.getElem?_eq_getElem hk)).2 (j % 5) (by omega)
      rw [show j / 5 * 5 + j % 5 = j by omega, ← e] at this
      exact this
    · obtain ⟨k, hk⟩ := List.getElem?_of_mem hs
      exact (hp k s hk).1
theorem open_many {H : Type} {enc : TypeId × Value → H} {W : World} {a : Option Addr} {len cap : Nat} {d : DataW H} {p : List MemPlace}
    (h : DataW.Trod enc Try.prog W 0 (fun _ => true) true 63 (.slice a len cap) d p) : ∃ l : List Shade, Came W a len cap l := by
  obtain ⟨fuel, hf⟩ := h
  obtain ⟨a2, l2, c2, l, e, hl⟩ := open_field (u := .slice a len cap) hf
  simp only [Value.slice.injEq] at e
  obtain ⟨rfl, rfl, rfl⟩ := e
  exact ⟨l, hl⟩

/-- a record that was boxed -/
theorem box_ {w : World} {s : Shade} {g : Nat} (h : Cells w 5 (some ⟨g, 0, none⟩) 1 s.cells) : w.cell? ⟨g, 0, none⟩ = some (.string s.name) ∧ w.cell? ⟨g, 1, none⟩ = some (.int .i64 s.hue) ∧ w.cell? ⟨g, 2, none⟩ = some (.int .i64 s.width) ∧ w.cell? ⟨g, 3, none⟩ = some (.int .i64 s.dark) ∧ w.cell? ⟨g, 4, none⟩ = some (.int .i64 s.light) := by
  obtain ⟨ad, e, hc⟩ := h.2 (by simp [Shade.cells])
  obtain rfl := Option.some.inj e
  have gg := fun j u hu => add_none g 0 j ▸ hc j u hu
  exact ⟨by simpa using gg 0 _ rfl, by simpa using gg 1 _ rfl, by simpa using gg 2 _ rfl, by simpa using gg 3 _ rfl, by simpa using gg 4 _ rfl⟩
theorem box_new (w : World) (s : Shade) (T : TypeId) : Cells (w.alloc (.cells #[.string s.name, .int .i64 s.hue, .int .i64 s.width, .int .i64 s.dark, .int .i64 s.light] T)) 5 (some ⟨w.heap.size, 0, none⟩) 1 s.cells :=
  ⟨by simp [Shade.cells], fun _ => ⟨_, rfl, fun j u hu => by
    have hj : j < 5 := by have := (List.getElem?_eq_some_iff.1 hu).1; simpa [Shade.cells] using this
    rw [add_none, World.cell?_alloc_new]
    match j, hj with
    | 0, _ => simpa [Shade.cells] using hu
    | 1, _ => simpa [Shade.cells] using hu
    | 2, _ => simpa [Shade.cells] using hu
    | 3, _ => simpa [Shade.cells] using hu
    | 4, _ => simpa [Shade.cells] using hu
⟩⟩
end Go.Proofs.Ytkinlkmmelkdnaa.OShade

/- loop.example/g01062/laws.rBig as a plain function, and the contract of the program's: where the plain one has an answer, the program has it. Conditions: slices read as lists. -/
namespace Go.Proofs.Ytkinlkmmelkdnaa.GlRBig
set_option linter.unusedVariables false
set_option linter.unusedSimpArgs false
open Go.RowKit
open Go.Proofs.Ytkinlkmmelkdnaa.Rowed Go.Proofs.Ytkinlkmmelkdnaa.Turn Go.Proofs.Ytkinlkmmelkdnaa.Aid Go.Proofs.Ytkinlkmmelkdnaa.GoP Go.Proofs.Ytkinlkmmelkdnaa.GoM

def P (code : (List Int)) : Option (Bool) :=
  letK (decide (65536 < (code.length : Int))) fun (t_3 : Bool) =>
  some t_3

set_option maxRecDepth 100000 in
set_option maxHeartbeats 2000000 in
theorem C (code : (List Int)) (A0 : Option Addr) (c0 : Nat)  (w : World) (M0 : Hid (Cells w 1 A0 code.length (Go.Proofs.Ytkinlkmmelkdnaa.GoC.u8s code))) (N0 : Hid (code.length ≤ 9223372036854775807)) (V0 : Hid (∀ z ∈ code, 0 ≤ z ∧ z ≤ 255))  {r : Bool} (H : Hid (P code = some r)) :
    Calls Try.prog 51 #[.slice A0 code.length c0] w (Gives (.bool r) w) := by
  have HB := Lib.hid (Below.refl w.heap.size w)
  unfold P at H
  have N0o := N0.out
  go_enter Try.func51, Try.ntmps51
  replace H := let_hid H
  obtain ⟨t_3, ht_3, H⟩ := H
  obtain rfl := ret_hid H
  go_wp2_with fail
  go_ret
  exact ⟨rfl, HB.out⟩

set_option maxRecDepth 100000 in
set_option maxHeartbeats 2000000 in
theorem C0 (code : (List Int)) (A0 : Option Addr) (c0 : Nat)  (w : World) (M0 : Hid (Cells w 1 A0 code.length (Go.Proofs.Ytkinlkmmelkdnaa.GoC.u8s code))) (N0 : Hid (code.length ≤ 9223372036854775807)) (V0 : Hid (∀ z ∈ code, 0 ≤ z ∧ z ≤ 255))  {r : Bool} (H : Hid (P code = some r)) :
    Calls Try.prog 51 #[.slice A0 code.length c0] w (fun e w'' => e = .returned (.bool r) ∧ w'' = w) := by
  have HB := Lib.hid (Below.refl w.heap.size w)
  unfold P at H
  have N0o := N0.out
  go_enter Try.func51, Try.ntmps51
  replace H := let_hid H
  obtain ⟨t_3, ht_3, H⟩ := H
  obtain rfl := ret_hid H
  go_wp2_with fail
  go_ret
  exact ⟨rfl, rfl⟩
end Go.Proofs.Ytkinlkmmelkdnaa.GlRBig

/- Rows of records in one's own memory: clear of a tail; a part taken out (append(s[:i], s[j:]...), clear of what is left behind). No condition. -/
namespace Go.Proofs.Ytkinlkmmelkdnaa.GoD
set_option linter.unusedVariables false
set_option linter.unusedSimpArgs false
open Go.RowKit
open Go.Proofs.Ytkinlkmmelkdnaa.Rowed Go.Proofs.Ytkinlkmmelkdnaa.Turn Go.Proofs.Ytkinlkmmelkdnaa.GoM Go.Proofs.Ytkinlkmmelkdnaa.GoK

theorem flatten_rep (zs : List Value) : ∀ (n i : Nat), (List.replicate n zs).flatten[i]? = if i < n * zs.length then some zs[i % zs.length]! else none
  | 0, i => by simp
  | n + 1, i => by
    rw [List.replicate_succ, List.flatten_cons]
    by_cases hi : i < zs.length
    · rw [List.getElem?_append_left hi, Nat.mod_eq_of_lt hi, if_pos (by rw [Nat.succ_mul]; omega), List.getElem?_eq_getElem hi]
      simp [getElem!_pos, hi]
    · have h1 : (i - zs.length < n * zs.length) ↔ (i < (n + 1) * zs.length) := by rw [Nat.succ_mul]; omega
      have h2 : (i - zs.length) % zs.length = i % zs.length := (Nat.mod_eq_sub_mod (by omega)).symm
      rw [List.getElem?_append_right (by omega), flatten_rep zs n (i - zs.length), h2]
      simp only [h1]
theorem rep_len (zs : List Value) (n : Nat) : (List.replicate n zs).flatten.length = n * zs.length := by simp
theorem zero_list (zs : List Value) (n : Nat) : (Builtin.zeroCells zs.toArray n).toList = (List.replicate n zs).flatten := by
  apply List.ext_getElem?
  intro i
  rw [flatten_rep]
  unfold Builtin.zeroCells
  by_cases hi : i < n * zs.length
  · rw [if_pos hi]; simp [hi]
  · rw [if_neg hi, List.getElem?_eq_none (by simp; omega)]
theorem run_clearK {P : Program} (w : World) (t e ty : TypeId) (z : Value) (zs : List Value) (ht : P.underlying t = some (.slice e)) (hv : ∀ w, (zeroValue e).run P w = .ok z w) (hz : z.cells = zs.toArray) (h1 : ∀ u ∈ zs, u.oneCell' = true) (b o n c : Nat) (hn : 0 < n)
    (hc : ∀ j, j < n * zs.length → (w.cell? ⟨b, o + j, none⟩).isSome = true) (hf : ∀ j, j < n * zs.length → w.frozen? ⟨b, o + j, none⟩ = false) :
    (Builtin.clear_ #[t] ty #[.slice (some ⟨b, o, none⟩) n c]).run P w = .ok (.tuple #[]) (w.setCells b o (List.replicate n zs).flatten) := by
  have hl := rep_len zs n
  have hst := run_storeCells_cells (P := P) b o (List.replicate n zs).flatten 0 w (by rw [hl]; simpa using hc) (by rw [hl]; simpa using hf)
    (by intro v hv'; obtain ⟨l, hl1, hl2⟩ := List.mem_flatten.1 hv'; rw [List.eq_of_mem_replicate hl1] at hl2; exact h1 v hl2)
  simp only [Nat.add_zero] at hst
  have hzl := zero_list zs n
  obtain ⟨m, rfl⟩ : ∃ m, n = m + 1 := ⟨n - 1, by omega⟩
  simp [Builtin.clear_, run_underlying ht, hv, hz, hzl, hst]
theorem flat_clear {α : Type} (f : α → List Value) (K : Nat) (hK : ∀ x, (f x).length = K) (l : List α) (q m : Nat) (z : α) : (l.flatMap f).take (q * K) ++ (List.replicate m (f z)).flatten = (l.take q ++ List.replicate m z).flatMap f := by
  rw [flat_take f K hK, List.flatMap_append]
  congr 1
  induction m with
  | zero => rfl
  | succ m ih => rw [List.replicate_succ, List.flatten_cons, List.replicate_succ, List.flatMap_cons, ih]
/-- clear(s[lo:]) of a row of its own, of records -/
theorem own_clearK {P : Program} {t e : TypeId} {i : TypeInfo} {k : IntKind} {K n c b : Nat} {A : Option Addr} {lo : Int} {w : World} {xs ys zs : List Value} {z : Value}
    (ht : P.underlying t = some (.slice (P.elem t))) (he : P.elem t = e) (hi : P.info? e = some i) (hs : i.size = K) (hv : i.zero = some z) (hz : z.cells = zs.toArray) (hzl : zs.length = K) (hK : 0 < K) (h1 : ∀ u ∈ zs, u.oneCell' = true)
    (h : w.ownsRow b e K (.slice A n c) n xs) (hl : 0 ≤ lo ∧ lo ≤ (n : Int)) (hd : xs.take (lo.toNat * K) ++ (List.replicate (n - lo.toNat) zs).flatten = ys) :
    ∃ A' m c' w', (∀ W, (Instr.slice t (.slice A n c) (some (.int k lo)) none none).run P W = .ok (.slice A' m c') W) ∧ (∀ ty, (Builtin.clear_ #[t] ty #[.slice A' m c']).run P w = .ok (.tuple #[]) w') ∧
      w'.ownsRow b e K (.slice A n c) n ys ∧ w.grownBy w' (Value.slice A n c).ownBlock := by
  have hR := own_room h
  have hxs : xs.length = n * K := h.1
  have hsz : ∀ W, (sizeOf (P.elem t)).run P W = .ok K W := by intro W; subst he; simp [sizeOf, typeInfo, hi, hs]
  have hrun : ∀ W, (Instr.slice t (.slice A n c) (some (.int k lo)) none none).run P W = .ok (.slice (if c = lo.toNat then A else A.map (·.add (lo.toNat * K))) (n - lo.toNat) (c - lo.toNat)) W := by
    intro W
    rw [run_slice_l (P := P) W t A n c ht k lo hl.1 hl.2, hsz W]
    rfl
  by_cases hm : n - lo.toNat = 0
  · refine ⟨_, _, _, w, hrun, ?_, ?_, Aid.grown_refl _ _⟩
    · intro ty
      rw [hm]
      generalize (if c = lo.toNat then A else A.map (·.add (lo.toNat * K))) = A'
      cases A' <;> simp [Builtin.clear_, run_underlying ht]
    · have hle : n * K ≤ lo.toNat * K := Nat.mul_le_mul_right K (by omega)
      rw [← hd, hm, List.replicate_zero, List.flatten_nil, List.append_nil, List.take_of_length_le (by omega)]
      exact h
  · obtain ⟨g, rfl⟩ := own_some h (by omega)
    have hne : ¬ c = lo.toNat := by have := hR.1; omega
    have hcl := own_cells h
    have hmul : lo.toNat * K + (n - lo.toNat) * K = n * K := by rw [← Nat.add_mul]; congr 1; omega
    have hget : ∀ j, j < n * K → (w.cell? ⟨g, j, none⟩).isSome = true := by
      intro j hj
      obtain ⟨ad, e0, hc⟩ := hcl.2 (by omega)
      obtain rfl := Option.some.inj e0
      have := hc j xs[j] (List.getElem?_eq_getElem (by omega))
      rw [add_flat, Nat.zero_add] at this
      rw [this]; rfl
    have hadd : (if c = lo.toNat then (some ⟨g, 0, none⟩ : Option Addr) else (some ⟨g, 0, none⟩ : Option Addr).map (·.add (lo.toNat * K))) = some ⟨g, lo.toNat * K, none⟩ := by
      rw [if_neg hne, Option.map_some, add_flat, Nat.zero_add]
    rw [hadd] at hrun
    have hrl : (List.replicate (n - lo.toNat) zs).flatten.length = (n - lo.toNat) * K := by rw [rep_len, hzl]
    have h2 := own_setCells (List.replicate (n - lo.toNat) zs).flatten (lo.toNat * K) h (by rw [hrl]; omega)
    refine ⟨_, _, _, _, hrun, fun ty => ?_, ?_, h2.2⟩
    · exact run_clearK w t e ty z zs (he ▸ ht) (fun w => by simp [zeroValue, typeInfo, hi, hv]) hz h1 g (lo.toNat * K) (n - lo.toNat) (c - lo.toNat) (by omega) (fun j hj => hget _ (by rw [hzl] at hj; omega)) (fun j hj => h.frozenAt _)
    · have e2 : xs.take (lo.toNat * K) ++ (List.replicate (n - lo.toNat) zs).flatten ++ xs.drop (lo.toNat * K + (List.replicate (n - lo.toNat) zs).flatten.length) = ys := by
        rw [hrl, List.drop_of_length_le (by omega), List.append_nil, hd]
      rw [← e2]
      exact h2.1
/-- s[lo:] of a row of its own, to be read -/
theorem slice_view {P : Program} {t e : TypeId} {i : TypeInfo} {k : IntKind} {K n c b : Nat} {A : Option Addr} {lo : Int} {w : World} {xs ys : List Value} {m : Nat}
    (ht : P.underlying t = some (.slice (P.elem t))) (he : P.elem t = e) (hi : P.info? e = some i) (hs : i.size = K) (h : w.ownsRow b e K (.slice A n c) n xs) (hl : 0 ≤ lo ∧ lo ≤ (n : Int)) (hm : n - lo.toNat = m) (hd : xs.drop (lo.toNat * K) = ys) :
    ∃ A' c', (∀ W, (Instr.slice t (.slice A n c) (some (.int k lo)) none none).run P W = .ok (.slice A' m c') W) ∧ (∀ W : World, W.ownsRow b e K (.slice A n c) n xs → Cells W K A' m ys) ∧ Room A' m c' := by
  have hR := own_room h
  subst hm
  have hsz : ∀ W, (sizeOf (P.elem t)).run P W = .ok K W := by intro W; subst he; simp [sizeOf, typeInfo, hi, hs]
  have hrun : ∀ W, (Instr.slice t (.slice A n c) (some (.int k lo)) none none).run P W = .ok (.slice (if c = lo.toNat then A else A.map (·.add (lo.toNat * K))) (n - lo.toNat) (c - lo.toNat)) W := by
    intro W
    rw [run_slice_l (P := P) W t A n c ht k lo hl.1 hl.2, hsz W]
    rfl
  have key : ∀ W : World, W.ownsRow b e K (.slice A n c) n xs → Cells W K (if c = lo.toNat then A else A.map (·.add (lo.toNat * K))) (n - lo.toNat) ys ∧ Room (if c = lo.toNat then A else A.map (·.add (lo.toNat * K))) (n - lo.toNat) (c - lo.toNat) := by
    intro W hW
    obtain ⟨A', c', hr, hC, hM⟩ := slice_tail (P := P) (t := t) (k := k) ht he hi hs (own_cells hW) (own_room hW) hl rfl hd
    have e1 := (hr W).symm.trans (hrun W)
    simp only [Result.ok.injEq, Value.slice.injEq, true_and, and_true] at e1
    obtain ⟨rfl, rfl⟩ := e1
    exact ⟨hC, hM⟩
  exact ⟨_, _, hrun, fun W hW => (key W hW).1, (key w h).2⟩
/-- a part of a row of its own is taken out: append(s[:p], s[q:]...), then clear of what is left behind -/
theorem own_cut {P : Program} {t e : TypeId} {i : TypeInfo} {K n c b : Nat} {A : Option Addr} {w : World} {xs zs : List Value} {z : Value}
    (ht : P.underlying t = some (.slice (P.elem t))) (he : P.elem t = e) (hi : P.info? e = some i) (hs : i.size = K) (hv : i.zero = some z) (hz : z.cells = zs.toArray) (hzl : zs.length = K) (hK : 0 < K) (h1 : ∀ u ∈ zs, u.oneCell' = true) (hx1 : ∀ u ∈ xs, u.oneCell' = true)
    (h : w.ownsRow b e K (.slice A n c) n xs) {p q : Nat} (hpq : p < q) (hq : q ≤ n) :
    ∃ g A1 c1 w1 w2, A = some ⟨g, 0, none⟩ ∧ (∀ W, (Instr.slice t (.slice (some ⟨g, 0, none⟩) n c) none (some (.int .i64 (p : Int))) none).run P W = .ok (.slice (some ⟨g, 0, none⟩) p c) W) ∧
      (∀ W, (Instr.slice t (.slice (some ⟨g, 0, none⟩) n c) (some (.int .i64 (q : Int))) none none).run P W = .ok (.slice A1 (n - q) c1) W) ∧
      (∀ ty, (Builtin.append_ #[t, t] ty #[.slice (some ⟨g, 0, none⟩) p c, .slice A1 (n - q) c1]).run P w = .ok (.slice (some ⟨g, 0, none⟩) (p + (n - q)) c) w1) ∧
      (∀ ty, (Builtin.clear_ #[t] ty #[.slice (some ⟨g, (p + (n - q)) * K, none⟩) (n - (p + (n - q))) (c - (p + (n - q)))]).run P w1 = .ok (.tuple #[]) w2) ∧
      w2.ownsRow b e K (.slice (some ⟨g, 0, none⟩) (p + (n - q)) c) (p + (n - q)) (xs.take (p * K) ++ xs.drop (q * K)) ∧ w.grownBy w2 (some g) := by
  have hR := own_room h
  have hxs : xs.length = n * K := h.1
  obtain ⟨g, rfl⟩ := own_some h (by omega)
  have hsz : ∀ W, (sizeOf (P.elem t)).run P W = .ok K W := by intro W; subst he; simp [sizeOf, typeInfo, hi, hs]
  have hcl := own_cells h
  have hpK : p * K + (q - p) * K = q * K := by rw [← Nat.add_mul]; congr 1; omega
  have hqK : q * K + (n - q) * K = n * K := by rw [← Nat.add_mul]; congr 1; omega
  have hmK : (p + (n - q)) * K = p * K + (n - q) * K := Nat.add_mul _ _ _
  have hmm : (p + (n - q)) * K + (q - p) * K = n * K := by rw [← Nat.add_mul]; congr 1; omega
  have r1 := (slice_head (P := P) (t := t) (k := .i64) (hi := (p : Int)) (m := p) ht he hi hs h ⟨by omega, by omega⟩ (by omega) rfl).1
  have r2 : ∀ W, (Instr.slice t (.slice (some ⟨g, 0, none⟩) n c) (some (.int .i64 (q : Int))) none none).run P W = .ok (.slice (some (if c = q then ⟨g, 0, none⟩ else ⟨g, q * K, none⟩)) (n - q) (c - q)) W := by
    intro W
    rw [run_slice_l (P := P) W t _ n c ht .i64 (q : Int) (by omega) (by omega), hsz W]
    simp only [Result.andThen, sliced, Int.toNat_natCast, Option.map_some, add_flat, Nat.zero_add]
    by_cases hcq : c = q <;> simp [hcq]
  obtain ⟨_, hown⟩ := h
  rcases hown with ⟨h0, _⟩ | ⟨g', cap, cur, e0, hb, hg, hnc, hcm, hcs, htake⟩
  · simp at h0
  simp only [Value.slice.injEq, Option.some.injEq, Addr.mk.injEq, true_and, and_true] at e0
  obtain ⟨rfl, rfl⟩ := e0
  have h : w.ownsRow b e K (.slice (some ⟨g, 0, none⟩) n c) n xs := ⟨hxs, .inr ⟨g, c, cur, rfl, hb, hg, hnc, hcm, hcs, htake⟩⟩
  have hnews : (xs.drop (q * K)).length = (n - q) * i.size := by rw [List.length_drop, hs]; omega
  have hcK : n * K ≤ c * K := Nat.mul_le_mul_right K hnc
  have hcell : ∀ j u, (xs.drop (q * K))[j]? = some u → w.cell? ((if c = q then ⟨g, 0, none⟩ else ⟨g, q * K, none⟩ : Addr).add j) = some u := by
    intro j u hu
    rw [List.getElem?_drop] at hu
    have hlt := (List.getElem?_eq_some_iff.1 hu).1
    obtain ⟨ad, ea, hc⟩ := hcl.2 (by omega)
    obtain rfl := Option.some.inj ea
    have := hc (q * K + j) u hu
    rw [add_flat, Nat.zero_add] at this
    have hne : ¬ c = q := by
      intro ec
      have : n = q := by omega
      rw [this] at hxs
      omega
    rw [if_neg hne, add_flat]
    exact this
  have hfit : p * i.size + (xs.drop (q * K)).length ≤ cur.size := by rw [hnews, hs, hcs]; omega
  have ra := fun ty => run_append_room (P := P) w t ty e i (he ▸ ht) hi g p c cur hg _ (n - q) (c - q) _ hnews hcell (fun u hu => hx1 u (List.mem_of_mem_drop hu)) (by omega) hfit
  obtain ⟨w1, hw1⟩ : ∃ x, w.setRow g (cur.toList.take (p * i.size) ++ xs.drop (q * K) ++ cur.toList.drop (p * i.size + (xs.drop (q * K)).length)).toArray = x := ⟨_, rfl⟩
  rw [hw1] at ra
  have hn2 : (xs.drop (q * K)).length = (n - q) * K := by rw [hnews, hs]
  have hcl2 : cur.toList.length = c * K := by simpa using hcs
  have hpn : p * K ≤ n * K := Nat.mul_le_mul_right K (by omega)
  have hx : ∀ m, m ≤ n * K → cur.toList.take m = xs.take m := by
    intro m hm
    rw [← htake, List.take_take, Nat.min_eq_left hm]
  have ho1 : w1.ownsRow b e K (.slice (some ⟨g, 0, none⟩) n c) n (xs.take (p * K) ++ xs.drop (q * K) ++ (cur.toList.drop (p * K + (n - q) * K)).take ((q - p) * K)) := by
    refine ⟨?_, .inr ⟨g, c, (xs.take (p * K) ++ xs.drop (q * K) ++ cur.toList.drop (p * K + (n - q) * K)).toArray, rfl, hb, ?_, hnc, hcm, ?_, ?_⟩⟩
    · rw [List.length_append, List.length_append, hn2, List.length_take, List.length_take, List.length_drop, hcl2]; omega
    · rw [← hw1, hs, hn2, hx _ hpn]; exact setRow_heap w g cur _ e _ hg
    · rw [List.size_toArray, List.length_append, List.length_append, hn2, List.length_take, List.length_drop, hcl2]; omega
    · rw [List.take_append, List.take_of_length_le (l := xs.take (p * K) ++ xs.drop (q * K)) (by rw [List.length_append, hn2, List.length_take]; omega)]
      congr 2
      rw [List.length_append, hn2, List.length_take]; omega
  have hgr1 : w.grownBy w1 (some g) := by
    rw [← hw1]
    exact ⟨rfl, rfl, rfl, by simp [World.setRow], fun k _ hk => setRow_other w g k _ (fun e => hk (by rw [e]))⟩
  have hrl : (List.replicate (q - p) zs).flatten.length = (q - p) * K := by rw [rep_len, hzl]
  have hl1 : (xs.take (p * K) ++ xs.drop (q * K) ++ (cur.toList.drop (p * K + (n - q) * K)).take ((q - p) * K)).length = n * K := ho1.1
  have hset := own_setCells (List.replicate (q - p) zs).flatten ((p + (n - q)) * K) ho1 (by rw [hrl, hl1]; omega)
  have hcl1 := own_cells ho1
  have hget : ∀ j, j < n * K → (w1.cell? ⟨g, j, none⟩).isSome = true := by
    intro j hj
    obtain ⟨ad, ea, hc⟩ := hcl1.2 (by rw [hl1]; omega)
    obtain rfl := Option.some.inj ea
    have := hc j _ (List.getElem?_eq_getElem (by rw [hl1]; exact hj))
    rw [add_flat, Nat.zero_add] at this
    rw [this]; rfl
  have hcr := fun ty => run_clearK w1 t e ty z zs (he ▸ ht) (fun w => by simp [zeroValue, typeInfo, hi, hv]) hz h1 g ((p + (n - q)) * K) (q - p) (c - (p + (n - q))) (by omega) (fun j hj => hget _ (by rw [hzl] at hj; omega)) (fun j hj => ho1.frozenAt _)
  have hcr2 : ∀ ty, (Builtin.clear_ #[t] ty #[.slice (some ⟨g, (p + (n - q)) * K, none⟩) (n - (p + (n - q))) (c - (p + (n - q)))]).run P w1 = .ok (.tuple #[]) (w1.setCells g ((p + (n - q)) * K) (List.replicate (q - p) zs).flatten) := by rw [show n - (p + (n - q)) = q - p by omega]; exact hcr
  refine ⟨g, _, _, w1, _, rfl, r1, r2, ra, hcr2, ?_, Aid.grown_tr hgr1 hset.2⟩
  have hh := (slice_head (P := P) (t := t) (k := .i64) (hi := ((p + (n - q) : Nat) : Int)) (m := p + (n - q)) ht he hi hs hset.1 ⟨by omega, by omega⟩ (by omega) rfl).2
  rw [Int.toNat_natCast, List.append_assoc, List.take_append_of_le_length (by rw [List.length_take, hl1]; omega), List.take_take, Nat.min_self, List.take_append_of_le_length (by rw [List.length_append, hn2, List.length_take]; omega), List.take_of_length_le (by rw [List.length_append, hn2, List.length_take]; omega)] at hh
  exact hh
/-- an append that is known, as one step of a region that draws its order -/
theorem step_append_run {P : Program} {w : World} {ops : Array Oper} {o : Oper} {a : Act} {K : Act → World → Prop} {Q : Exit → Act → World → Prop} {E : Prop} (hgd : o.guard = none) (s x : Operand) (t : TypeId)
    (ho : o.op = .call { callee := .builtin .append, args := #[s, x], argTypes := #[t, t] }) {sv xv v' : Value} {w' : World} (hs : a.eval s = sv) (hx : a.eval x = xv)
    (hr : ∀ ty, (Builtin.append_ #[t, t] ty #[sv, xv]).run P w = .ok v' w') (h : K (a.put o.dst v') w') :
    if Region.wanted o (yielded ops a.tmps) = true then Oper.wp P o a w K Q else E := by
  have hw : Region.wanted o (yielded ops a.tmps) = true := by simp [Region.wanted, hgd]
  rw [if_pos hw]
  unfold Oper.wp execOp
  simp only [ho, resolve, invoke, builtin, Sem.run_bind, Sem.run_pure, Result.andThen_ok, List.map_toArray, List.map_cons, List.map_nil, hs, hx, hr]
  exact h
end Go.Proofs.Ytkinlkmmelkdnaa.GoD

/- An append onto a row of its own as one step of a region that draws its order. No condition. -/
namespace Go.Proofs.Ytkinlkmmelkdnaa.GoH
set_option linter.unusedVariables false
theorem step_append_own {P : Program} {w : World} {ops : Array Oper} {o : Oper} {a : Act} {K : Act → World → Prop} {Q : Exit → Act → World → Prop} {E : Prop} (hgd : o.guard = none) (s x : Operand) (t : TypeId)
    (ho : o.op = .call { callee := .builtin .append, args := #[s, x], argTypes := #[t, t] })
    (base : Nat) (e : TypeId) (i : TypeInfo) (z : Value) (size bytes : Nat) (ht : P.underlying t = some (.slice e)) (hi : P.info? e = some i) (hz : i.zero = some z)
    (hsize : i.size = size) (hby : i.bytes = bytes) (hzs : z.cells.size = size) (hsz : 0 < size)
    (A : Option Addr) (c n : Nat) (xs : List Value) (hs : a.eval s = .slice A n c) (hown : w.ownsRow base e size (.slice A n c) n xs)
    (ad : Addr) (cc : Nat) (news : List Value) (hx : a.eval x = .slice (some ad) 1 cc) (hl : news.length = 1 * size) (hnews : ∀ j u, news[j]? = some u → w.cell? (ad.add j) = some u) (h1 : ∀ u ∈ news, u.oneCell' = true)
    (h63 : n + 1 ≤ maxLen) (hbytes : (n + 1) * bytes ≤ 140737488355328) (hbase : base ≤ w.heap.size)
    (h : ∀ v' w', w'.ownsRow base e size v' (n + 1) (xs ++ news) → w.grownBy w' (Value.slice A n c).ownBlock → (v'.ownBlock = (Value.slice A n c).ownBlock ∨ v'.ownBlock = some w.heap.size) → K (a.put o.dst v') w') :
    if Region.wanted o (yielded ops a.tmps) = true then Oper.wp P o a w K Q else E := by
  refine Go.step_append_lies w hgd s x t ho base e i z size bytes ht hi hz hsize hby hzs hsz (.slice A n c) n xs hs hown ad 1 cc news hx hl hnews h1 (by omega) h63 hbytes hbase w.heap.size rfl ?_
  intro g cap w' o1 g1 y1 _
  refine h _ w' o1 g1 ?_
  rcases y1 with y1 | y1
  · left; rw [y1]; rfl
  · right; rw [y1]; rfl
/-- append(a, b...) onto a row of its own as one step of such a region -/
theorem step_spread_own {P : Program} {w : World} {ops : Array Oper} {o : Oper} {a : Act} {K : Act → World → Prop} {Q : Exit → Act → World → Prop} {E : Prop} (hgd : o.guard = none) (s x : Operand) (t : TypeId)
    (ho : o.op = .call { callee := .builtin .append, args := #[s, x], argTypes := #[t, t] })
    (base : Nat) (e : TypeId) (i : TypeInfo) (z : Value) (size bytes : Nat) (ht : P.underlying t = some (.slice e)) (hi : P.info? e = some i) (hz : i.zero = some z)
    (hsize : i.size = size) (hby : i.bytes = bytes) (hzs : z.cells.size = size) (hsz : 0 < size)
    (A1 : Option Addr) (c1 n : Nat) (xs : List Value) (hs : a.eval s = .slice A1 n c1) (hown : w.ownsRow base e size (.slice A1 n c1) n xs)
    (A : Option Addr) (m c : Nat) (news : List Value) (hx : a.eval x = .slice A m c) (hN : Go.Proofs.Ytkinlkmmelkdnaa.GoM.Room A m c) (hc : Go.Proofs.Ytkinlkmmelkdnaa.Rowed.Cells w size A m news) (h1 : ∀ u ∈ news, u.oneCell' = true)
    (h63 : n + m ≤ maxLen) (hbytes : (n + m) * bytes ≤ 140737488355328) (hbase : base ≤ w.heap.size)
    (h : ∀ v' w', w'.ownsRow base e size v' (n + m) (xs ++ news) → w.grownBy w' (Value.slice A1 n c1).ownBlock → (v'.ownBlock = (Value.slice A1 n c1).ownBlock ∨ v'.ownBlock = some w.heap.size) → K (a.put o.dst v') w') :
    if Region.wanted o (yielded ops a.tmps) = true then Oper.wp P o a w K Q else E := by
  have hw : Region.wanted o (yielded ops a.tmps) = true := by simp [Region.wanted, hgd]
  rw [if_pos hw]
  obtain ⟨v', w', hr, h2, h3, h5⟩ : ∃ v' w', (Builtin.append_ #[t, t] o.type #[.slice A1 n c1, .slice A m c]).run P w = .ok v' w' ∧ w'.ownsRow base e size v' (n + m) (xs ++ news) ∧ w.grownBy w' (Value.slice A1 n c1).ownBlock ∧ (v'.ownBlock = (Value.slice A1 n c1).ownBlock ∨ v'.ownBlock = some w.heap.size) := by
    cases A with
    | some ad =>
      obtain ⟨v', w', hr, h2, h3, _, h5⟩ := run_append_own_at (P := P) w base t o.type e i z size bytes ht hi hz hsize hby hzs hsz (.slice A1 n c1) n xs hown ad m c news hc.1 (fun j u hu => by
        obtain ⟨ad', e', hcell⟩ := hc.2 (by have := (List.getElem?_eq_some_iff.1 hu).1; omega)
        obtain rfl : ad = ad' := Option.some.inj e'
        exact hcell j u hu) h1 h63 hbytes hbase
      exact ⟨v', w', hr, h2, h3, h5⟩
    | none =>
      have hm : m = 0 := by
        cases news with
        | nil =>
          have h0 : ([] : List Value).length = m * size := hc.1
          rw [List.length_nil] at h0
          rcases Nat.mul_eq_zero.1 h0.symm with h1 | h1 <;> omega
        | cons y l => obtain ⟨ad, e', _⟩ := hc.2 (by simp); simp at e'
      obtain rfl : c = 0 := hN.2 rfl
      subst hm
      have hn : news = [] := List.eq_nil_of_length_eq_zero (by have := hc.1; simpa using this)
      subst hn
      exact ⟨_, w, run_append_owned_none (P := P) w base t o.type e i size ht hi (.slice A1 n c1) n xs hown, by simpa using hown, World.grownBy.refl w _, .inl rfl⟩
  unfold Oper.wp execOp
  simp only [ho, resolve, invoke, builtin, Sem.run_bind, Sem.run_pure, Result.andThen_ok, List.map_toArray, List.map_cons, List.map_nil, hs, hx, hr]
  exact h v' w' h2 h3 h5
end Go.Proofs.Ytkinlkmmelkdnaa.GoH

/- The drawing cursor's method next as a plain function on tapes. No condition. -/
namespace Go.Proofs.Ytkinlkmmelkdnaa.GsL1CurNext
set_option linter.unusedVariables false
open Go.RowKit
open Go.Proofs.Ytkinlkmmelkdnaa.GoC
def P (t : GoC.Tape) : Option (Int × GoC.Tape) := if 0 < t.left then some (t.vals 0, t.tail) else none
theorem C (t : GoC.Tape) (g : Nat) (A : Option Addr) (c b : Nat) (w : World) (K : Hid (CurIs w b g A c t)) {r : Int} {t' : GoC.Tape} (H : Hid (P t = some (r, t'))) :
    Calls Try.prog 132 #[.pointer (some ⟨g, 0, none⟩)] w (fun e w' => e = .returned (.int .i64 r) ∧ CurIs w' b g A c t' ∧ w.grownBy w' (Value.slice (some ⟨g, 0, none⟩) 1 1).ownBlock) := GoC.C t w b g A c K H
end Go.Proofs.Ytkinlkmmelkdnaa.GsL1CurNext

/- (*loop.example/g01062/spec.l1Cur).pick as a plain function, and the contract of the program's: where the plain one has an answer, the program has it. Conditions: slices read as lists. -/
namespace Go.Proofs.Ytkinlkmmelkdnaa.GsL1CurPick
set_option linter.unusedVariables false
set_option linter.unusedSimpArgs false
open Go.RowKit
open Go.Proofs.Ytkinlkmmelkdnaa.Rowed Go.Proofs.Ytkinlkmmelkdnaa.Turn Go.Proofs.Ytkinlkmmelkdnaa.Aid Go.Proofs.Ytkinlkmmelkdnaa.GoP Go.Proofs.Ytkinlkmmelkdnaa.GoM

def j0 (n_1 : Int) (s : Int × Go.Proofs.Ytkinlkmmelkdnaa.GoC.Tape) : Option (Int × Go.Proofs.Ytkinlkmmelkdnaa.GoC.Tape) :=
  unp2 s fun x_5j0 c0_c0j0 =>
  guardK (¬ (n_1 = 0)) <|
  letK (Int.tmod x_5j0 n_1) fun (t_17 : Int) =>
  some (t_17, c0_c0j0)

def P (c : Go.Proofs.Ytkinlkmmelkdnaa.GoC.Tape) (n_1 : Int) : Option (Int × Go.Proofs.Ytkinlkmmelkdnaa.GoC.Tape) :=
  letK (decide (n_1 ≤ 1)) fun (t_2 : Bool) =>
  iteK t_2
  (some (0, c))
  (bind2 (Go.Proofs.Ytkinlkmmelkdnaa.GsL1CurNext.P c) fun (t_5 : Int) (t_5_tp : Go.Proofs.Ytkinlkmmelkdnaa.GoC.Tape) =>
  letK (decide (200 < n_1)) fun (t_8 : Bool) =>
  iteK t_8
  (letK (IntKind.i64.wrap (t_5 * 256)) fun (t_10 : Int) =>
  bind2 (Go.Proofs.Ytkinlkmmelkdnaa.GsL1CurNext.P t_5_tp) fun (t_12 : Int) (t_12_tp : Go.Proofs.Ytkinlkmmelkdnaa.GoC.Tape) =>
  letK (IntKind.i64.wrap (t_10 + t_12)) fun (t_13 : Int) =>
  j0 n_1 (t_13, t_12_tp))
  (j0 n_1 (t_5, t_5_tp)))

set_option maxRecDepth 100000 in
set_option maxHeartbeats 2000000 in
theorem C (c : Go.Proofs.Ytkinlkmmelkdnaa.GoC.Tape) (n_1 : Int)   (g0 : Nat) (Ac0 : Option Addr) (cc0 : Nat) (bc0 : Nat) (w : World)   (K0 : Hid (Go.Proofs.Ytkinlkmmelkdnaa.GoC.CurIs w bc0 g0 Ac0 cc0 c)) {r : Int} {t_ : Go.Proofs.Ytkinlkmmelkdnaa.GoC.Tape} (H : Hid (P c n_1 = some (r, t_))) :
    Calls Try.prog 99 #[.pointer (some ⟨g0, 0, none⟩), .int .i64 n_1] w (fun e w' => e = .returned (.int .i64 r) ∧ Go.Proofs.Ytkinlkmmelkdnaa.GoC.CurIs w' bc0 g0 Ac0 cc0 t_ ∧ w.grownBy w' (Value.slice (some ⟨g0, 0, none⟩) 1 1).ownBlock) := by
  have HB := Lib.hid (Aid.grown_refl w (Value.slice (some ⟨g0, 0, none⟩) 1 1).ownBlock)
  unfold P at H
  have L0 : bc0 ≤ w.heap.size := by have := Go.Proofs.Ytkinlkmmelkdnaa.GoC.cur_lt K0.out; omega
  go_enter Try.func99, Try.ntmps99
  replace H := let_hid H
  obtain ⟨t_2, ht_2, H⟩ := H
  cases t_2 with
  | false =>
    replace H := ite_f H
    replace H := bind2_hid H
    obtain ⟨t_5, t_5_tp, qt_5, H⟩ := H
    go_wp2_with fail
    go_at_call 132
    refine (Go.Proofs.Ytkinlkmmelkdnaa.GsL1CurNext.C (c) (g0) (Ac0) (cc0) (bc0) _   K0 qt_5).mono ?_
    rintro e_t_5 wt_5 ⟨rfl, kt_5, gt_5⟩
    have Kt_5 := Lib.hid kt_5
    have Gt_5 : Hid (w.grownBy wt_5 (Value.slice (some ⟨g0, 0, none⟩) 1 1).ownBlock) := Lib.hid gt_5
    clear kt_5 gt_5
    have HBwt_5 := Lib.hid (Aid.grown_tr HB.out Gt_5.out)
    clear K0 Gt_5
    replace H := let_hid H
    obtain ⟨t_8, ht_8, H⟩ := H
    cases t_8 with
    | false =>
      replace H := ite_f H
      unfold j0 at H
      replace H := unp2_hid H
      replace H := guard_hid H
      obtain ⟨hz_t_17, H⟩ := H
      replace H := let_hid H
      obtain ⟨t_17, ht_17, H⟩ := H
      cases ret_hid H
      go_wp2_with fail
      go_ret
      exact ⟨rfl, Kt_5.out, HBwt_5.out⟩
    | true =>
      replace H := ite_t H
      replace H := let_hid H
      obtain ⟨t_10, ht_10, H⟩ := H
      replace H := bind2_hid H
      obtain ⟨t_12, t_12_tp, qt_12, H⟩ := H
      go_wp2_with fail
      go_at_call 132
      refine (Go.Proofs.Ytkinlkmmelkdnaa.GsL1CurNext.C (t_5_tp) (g0) (Ac0) (cc0) (bc0) _   Kt_5 qt_12).mono ?_
      rintro e_t_12 wt_12 ⟨rfl, kt_12, gt_12⟩
      have Kt_12 := Lib.hid kt_12
      have Gt_12 : Hid (wt_5.grownBy wt_12 (Value.slice (some ⟨g0, 0, none⟩) 1 1).ownBlock) := Lib.hid gt_12
      clear kt_12 gt_12
      have HBwt_12 := Lib.hid (Aid.grown_tr HBwt_5.out Gt_12.out)
      clear Kt_5 Gt_12
      replace H := let_hid H
      obtain ⟨t_13, ht_13, H⟩ := H
      unfold j0 at H
      replace H := unp2_hid H
      replace H := guard_hid H
      obtain ⟨hz_t_17, H⟩ := H
      replace H := let_hid H
      obtain ⟨t_17, ht_17, H⟩ := H
      cases ret_hid H
      go_wp2_with fail
      go_ret
      exact ⟨rfl, Kt_12.out, HBwt_12.out⟩
  | true =>
    replace H := ite_t H
    cases ret_hid H
    go_wp2_with fail
    go_ret
    exact ⟨rfl, K0.out, HB.out⟩
end Go.Proofs.Ytkinlkmmelkdnaa.GsL1CurPick

/- (*loop.example/g01062/spec.l1Cur).one as a plain function, and the contract of the program's: where the plain one has an answer, the program has it. Conditions: slices read as lists. -/
namespace Go.Proofs.Ytkinlkmmelkdnaa.GsL1CurOne
set_option linter.unusedVariables false
set_option linter.unusedSimpArgs false
open Go.RowKit
open Go.Proofs.Ytkinlkmmelkdnaa.Rowed Go.Proofs.Ytkinlkmmelkdnaa.Turn Go.Proofs.Ytkinlkmmelkdnaa.Aid Go.Proofs.Ytkinlkmmelkdnaa.GoP Go.Proofs.Ytkinlkmmelkdnaa.GoM

def P (c : Go.Proofs.Ytkinlkmmelkdnaa.GoC.Tape) (n_1 : Int) : Option (Bool × Go.Proofs.Ytkinlkmmelkdnaa.GoC.Tape) :=
  bind2 (Go.Proofs.Ytkinlkmmelkdnaa.GsL1CurPick.P c n_1) fun (t_3 : Int) (t_3_tp : Go.Proofs.Ytkinlkmmelkdnaa.GoC.Tape) =>
  letK (t_3 == 0) fun (t_4 : Bool) =>
  some (t_4, t_3_tp)

set_option maxRecDepth 100000 in
set_option maxHeartbeats 2000000 in
theorem C (c : Go.Proofs.Ytkinlkmmelkdnaa.GoC.Tape) (n_1 : Int)   (g0 : Nat) (Ac0 : Option Addr) (cc0 : Nat) (bc0 : Nat) (w : World)   (K0 : Hid (Go.Proofs.Ytkinlkmmelkdnaa.GoC.CurIs w bc0 g0 Ac0 cc0 c)) {r : Bool} {t_ : Go.Proofs.Ytkinlkmmelkdnaa.GoC.Tape} (H : Hid (P c n_1 = some (r, t_))) :
    Calls Try.prog 98 #[.pointer (some ⟨g0, 0, none⟩), .int .i64 n_1] w (fun e w' => e = .returned (.bool r) ∧ Go.Proofs.Ytkinlkmmelkdnaa.GoC.CurIs w' bc0 g0 Ac0 cc0 t_ ∧ w.grownBy w' (Value.slice (some ⟨g0, 0, none⟩) 1 1).ownBlock) := by
  have HB := Lib.hid (Aid.grown_refl w (Value.slice (some ⟨g0, 0, none⟩) 1 1).ownBlock)
  unfold P at H
  have L0 : bc0 ≤ w.heap.size := by have := Go.Proofs.Ytkinlkmmelkdnaa.GoC.cur_lt K0.out; omega
  go_enter Try.func98, Try.ntmps98
  replace H := bind2_hid H
  obtain ⟨t_3, t_3_tp, qt_3, H⟩ := H
  go_wp2_with fail
  go_at_call 99
  refine (Go.Proofs.Ytkinlkmmelkdnaa.GsL1CurPick.C (c) (n_1) (g0) (Ac0) (cc0) (bc0) _   K0 qt_3).mono ?_
  rintro e_t_3 wt_3 ⟨rfl, kt_3, gt_3⟩
  have Kt_3 := Lib.hid kt_3
  have Gt_3 : Hid (w.grownBy wt_3 (Value.slice (some ⟨g0, 0, none⟩) 1 1).ownBlock) := Lib.hid gt_3
  clear kt_3 gt_3
  have HBwt_3 := Lib.hid (Aid.grown_tr HB.out Gt_3.out)
  clear K0 Gt_3
  replace H := let_hid H
  obtain ⟨t_4, ht_4, H⟩ := H
  cases ret_hid H
  go_wp2_with fail
  go_ret
  exact ⟨rfl, Kt_3.out, HBwt_3.out⟩
end Go.Proofs.Ytkinlkmmelkdnaa.GsL1CurOne

/- The contracts of the laws' helpers on slices of ints: toIntS, eqIntS, markIntS, heldIntS. Condition: the slice reads as a list of ints. -/
namespace Go.Proofs.Ytkinlkmmelkdnaa.HelpInt
set_option linter.unusedVariables false
open Go.RowKit
open Go.Proofs.Ytkinlkmmelkdnaa.Rowed

/-- ints as values -/
def iv (l : List Int) : List Value := l.map (Value.int .i64)
theorem iv_len (l : List Int) : (iv l).length = l.length := by simp [iv]
theorem iv_at (l : List Int) (k : Nat) : (iv l)[k]? = (l[k]?).map (Value.int .i64) := by simp [iv]
theorem iv_snoc (l : List Int) (x : Int) : iv (l ++ [x]) = iv l ++ [.int .i64 x] := by simp [iv]
/-- the slice 'A, n' reads as the ints l -/
abbrev Ints (w : World) (A : Option Addr) (n : Nat) (l : List Int) : Prop := Cells w 1 A n (iv l)
theorem add_none (b o n : Nat) : (⟨b, o, none⟩ : Addr).add n = ⟨b, o + n, none⟩ := by
  unfold Addr.add; split
  · rename_i h; subst h; rfl
  · rfl
theorem Ints.at_ {w : World} {A : Option Addr} {n k : Nat} {l : List Int} (h : Ints w A n l) (hk : k < n) : ∃ (b o : Nat) (x : Int), A = some ⟨b, o, none⟩ ∧ l[k]? = some x ∧ w.cell? ⟨b, o + k, none⟩ = some (.int .i64 x) := by
  have hl : k < l.length := by have := h.1; rw [iv_len] at this; omega
  obtain ⟨⟨b, o, sp⟩, e, hc⟩ := h.2 (by rw [iv_len]; omega)
  have h0 := hc 0 _ (by rw [iv_at, List.getElem?_eq_getElem (show 0 < l.length by omega)]; rfl)
  obtain rfl : sp = none := cell_spot (b := b) (o := o) h0
  have hs := List.getElem?_eq_getElem hl
  have := hc k (.int .i64 l[k]) (by rw [iv_at, hs]; rfl)
  rw [add_none] at this
  exact ⟨b, o, l[k], e, hs, this⟩

set_option maxHeartbeats 800000 in
/-- eqIntS, where both slices hold the same ints -/
theorem eq_same (A B : Option Addr) (n c d : Nat) (l : List Int) (w : World) (h1 : Ints w A n l) (h2 : Ints w B n l) (hn : n ≤ 9223372036854775807) :
    Calls Try.prog 36 #[.slice A n c, .slice B n d] w fun e w' => e = .returned (.bool true) ∧ DrawnTo w w' := by
  have H1 := Lib.hid h1
  have H2 := Lib.hid h2
  clear h1 h2
  go_enter Try.func36, Try.ntmps36
  go_wp2
  go_loopw [5] (fun i wr => ∃ k : Nat, k ≤ n ∧ i = .int .i64 k ∧ DrawnTo w wr) (fun i _ => n - (intOf i).toNat)
  case atStart => exact ⟨0, Nat.zero_le _, rfl, 0, rfl⟩
  case round =>
    obtain ⟨k, hk, rfl, m, rfl⟩ := hrel
    by_cases hlt : k < n
    · obtain ⟨ab, ao, x, rfl, hx, hc1⟩ := Ints.at_ H1.out hlt
      obtain ⟨bb, bo, y, rfl, hy, hc2⟩ := Ints.at_ H2.out hlt
      obtain rfl : x = y := by rw [hx] at hy; exact Option.some.inj hy
      clear hx hy
      have hb1 : 0 ≤ (k : Int) := by omega
      have hb2 : (k : Int) < n := by omega
      go_wp2_with fail
      go_quiet (fail)
      go_wp2_with fail
      go_roundw
      case rel => exact ⟨k + 1, by omega, by go_num, _, rfl⟩
      case measure => simp [intOf]; omega
    · go_wp2
      go_ret
      exact ⟨rfl, m, rfl⟩

/-- the marks k, k + 1, .. -/
def imarks (k n : Nat) : List Value := (List.range n).map fun i => Value.int .i64 ((k + i : Nat) : Int)
theorem imarks_len (k n : Nat) : (imarks k n).length = n := by simp [imarks]
theorem imarks_at (k n i : Nat) (h : i < n) : (imarks k n)[i]? = some (.int .i64 ((k + i : Nat) : Int)) := by
  unfold imarks; rw [List.getElem?_map, List.getElem?_range h]; rfl
theorem grown_of {W W' : World} (h : Below W.heap.size W W') : W.grownBy W' none := ⟨h.os, h.tape, h.output, h.size, fun k hk _ => h.block k hk⟩
theorem grown_tr {a b c : World} {r : Option Nat} (h : a.grownBy b r) (k : b.grownBy c r) : a.grownBy c r :=
  ⟨k.os.trans h.os, k.tape.trans h.tape, k.output.trans h.output, Nat.le_trans h.size k.size, fun i hi hr => (k.block i (Nat.lt_of_lt_of_le hi h.size) hr).trans (h.block i hi hr)⟩
theorem grown_refl (w : World) (r : Option Nat) : w.grownBy w r := ⟨rfl, rfl, rfl, Nat.le_refl _, fun _ _ _ => rfl⟩

def MarkRel (w : World) (base n c k : Nat) (A : Option Addr) (xs : List Value) (i : Nat) (wr : World) : Prop :=
  wr.ownsRow base 3 1 (.slice A n c) n (fill (imarks k n) xs i) ∧ w.grownBy wr (Value.slice A n c).ownBlock

theorem mark_next {w wr : World} {base n c k i : Nat} {A : Option Addr} {xs : List Value} (h : MarkRel w base n c k A xs i wr) (hxs : xs.length = n) (hi : i < n) :
    ∃ g y, A = some ⟨g, 0, none⟩ ∧ wr.cell? ⟨g, i, none⟩ = some y ∧ wr.frozen? ⟨g, i, none⟩ = false ∧ MarkRel w base n c k A xs (i + 1) (wr.setCell ⟨g, i, none⟩ (.int .i64 ((k + i : Nat) : Int))) := by
  obtain ⟨g, rfl⟩ : ∃ g, A = some ⟨g, 0, none⟩ := by
    rcases h.1.2 with ⟨_, h0⟩ | ⟨g, cap, cur, hv, _⟩
    · omega
    · injection hv with h1 h2 h3; exact ⟨g, h1⟩
  have h1 := h.1
  have hlen : (fill (imarks k n) xs i).length = n := by rw [fill_len _ _ _ (by rw [imarks_len, hxs])]; exact hxs
  have hc := h1.cellAt i (by omega)
  rw [List.getElem?_eq_getElem (by omega)] at hc
  refine ⟨g, _, rfl, hc, h1.frozenAt i, ?_, ?_⟩
  · have := (h1.stored i (.int .i64 ((k + i : Nat) : Int))).1
    rw [fill_set _ _ _ _ (by omega) (imarks_at k n i hi)] at this
    exact this
  · exact grown_tr h.2 (h1.stored i (.int .i64 ((k + i : Nat) : Int))).2

def MarkPost (w : World) (base n c k : Nat) (A : Option Addr) (e : Ending) (w' : World) : Prop :=
  e = .returned (.int .i64 ((k + n : Nat) : Int)) ∧ w'.ownsRow base 3 1 (.slice A n c) n (imarks k n) ∧ w.grownBy w' (Value.slice A n c).ownBlock

set_option maxHeartbeats 1000000 in
theorem mark_any (w : World) (base n c k : Nat) (A : Option Addr) (xs : List Value) (h : w.ownsRow base 3 1 (.slice A n c) n xs) (hn : n ≤ 1048576) (hk2 : k ≤ 100000000000) :
    Calls Try.prog 37 #[.slice A n c, .int .i64 (k : Int)] w (MarkPost w base n c k A) := by
  have hxs : Hid (xs.length = n) := Lib.hid (by have := h.1; omega)
  have HR0 : Hid (MarkRel w base n c k A xs 0 w) := Lib.hid ⟨by rw [fill_zero]; exact h, grown_refl _ _⟩
  clear h
  go_enter Try.func37, Try.ntmps37
  go_wp2_with fail
  go_loopw [1, 5] (fun t i wr => ∃ j : Nat, j ≤ n ∧ i = .int .i64 j ∧ t = .int .i64 ((k + j : Nat) : Int) ∧ Hid (MarkRel w base n c k A xs j wr)) (fun _ i _ => n - (intOf i).toNat)
  case atStart => exact ⟨0, Nat.zero_le _, rfl, rfl, HR0⟩
  case round =>
    obtain ⟨j, hj, rfl, rfl, HR⟩ := hrel
    by_cases hlt : j < n
    · obtain ⟨g, y, rfl, hc, hf, hR1⟩ := mark_next HR.out hxs.out hlt
      have HR1 := Lib.hid hR1
      clear hR1
      go_wp2_with fail
      go_roundw
      case rel => exact ⟨j + 1, by omega, by go_num, by go_num, HR1⟩
      case measure => simp [intOf]; omega
    · obtain rfl : j = n := by omega
      have HF := Lib.hid HR.out.1
      go_wp2_with fail
      go_ret
      exact ⟨rfl, by rw [← fill_all (imarks k j) xs (by rw [imarks_len]; exact hxs.out), imarks_len]; exact HF.out, HR.out.2⟩

set_option maxHeartbeats 1000000 in
theorem held_any (w : World) (n c k : Nat) (A : Option Addr) (h : Cells w 1 A n (imarks k n)) (hn : n ≤ 1048576) (hk2 : k ≤ 100000000000) :
    Calls Try.prog 38 #[.slice A n c, .int .i64 (k : Int)] w fun e w' => e = .returned (.int .i64 ((k + n : Nat) : Int)) ∧ w = w' := by
  have HH : Hid (Ints w A n ((List.range n).map fun i => ((k + i : Nat) : Int))) := Lib.hid (by show Cells w 1 A n _; unfold iv; rw [List.map_map]; exact h)
  clear h
  go_enter Try.func38, Try.ntmps38
  go_wp2_with fail
  go_loop [1, 5] (fun t i => ∃ j : Nat, j ≤ n ∧ i = .int .i64 j ∧ t = .int .i64 ((k + j : Nat) : Int)) (fun _ i => n - (intOf i).toNat)
  case atStart => exact ⟨0, Nat.zero_le _, rfl, rfl⟩
  case round =>
    obtain ⟨j, hj, rfl, rfl⟩ := hrel
    by_cases hlt : j < n
    · obtain ⟨ab, ao, x, rfl, hx, hc⟩ := Ints.at_ HH.out hlt
      rw [List.getElem?_map, List.getElem?_range hlt] at hx
      obtain rfl : ((k + j : Nat) : Int) = x := by simpa using hx
      clear hx
      go_wp2_with fail
      go_round
      case rel => exact ⟨j + 1, by omega, by go_num, by go_num⟩
      case measure => simp [intOf]; omega
    · obtain rfl : j = n := by omega
      go_wp2_with fail
      go_ret
      exact ⟨rfl, rfl⟩

/-- a slice that is owned, as a slice that reads -/
theorem own_cells {w : World} {base n c size : Nat} {A : Option Addr} {e : TypeId} {xs : List Value} (h : w.ownsRow base e size (.slice A n c) n xs) : Cells w size A n xs := by
  rcases h.2 with ⟨hv, h0⟩ | ⟨g, cap, cur, hv, _⟩
  · subst h0
    have := h.1
    exact ⟨h.1, fun hn => by omega⟩
  · injection hv with h1 h2 h3
    subst h1
    exact Cells.of_own h
theorem own_base_le {w : World} {base n c size b : Nat} {A : Option Addr} {e : TypeId} {xs : List Value} (h : w.ownsRow base e size (.slice A n c) n xs) (hb : (Value.slice A n c).ownBlock = some b) : base ≤ b ∧ b < w.heap.size := h.lt b hb
theorem own_below {w w' : World} {base n c size : Nat} {A : Option Addr} {e : TypeId} {xs : List Value} (h : w.ownsRow base e size (.slice A n c) n xs) (hb : Below w.heap.size w w') : w'.ownsRow base e size (.slice A n c) n xs :=
  h.kept (grown_of hb) (by cases (Value.slice A n c).ownBlock <;> simp)
/-- what is written is another block -/
theorem own_grown {w w' : World} {base n c size : Nat} {A : Option Addr} {e : TypeId} {xs : List Value} {r : Option Nat} (h : w.ownsRow base e size (.slice A n c) n xs) (hg : w.grownBy w' r) (hne : ∀ b, (Value.slice A n c).ownBlock = some b → r ≠ some b) : w'.ownsRow base e size (.slice A n c) n xs := by
  refine h.kept hg ?_
  cases ho : (Value.slice A n c).ownBlock with
  | none => exact .inl rfl
  | some b => exact .inr (fun e => hne b ho e.symm)
theorem cells_grown {w w' : World} {size n : Nat} {A : Option Addr} {xs : List Value} {r : Option Nat} (h : Cells w size A n xs) (hg : w.grownBy w' r) (hne : ∀ a, A = some a → r ≠ some a.block) : Cells w' size A n xs :=
  ⟨h.1, fun hn => by
    obtain ⟨ad, rfl, hc⟩ := h.2 hn
    exact ⟨_, rfl, fun j u hu => hg.cell (hc j u hu) (by rw [add_block]; exact fun e => hne ad rfl e.symm)⟩⟩
end Go.Proofs.Ytkinlkmmelkdnaa.HelpInt

/- (*loop.example/g01062/spec.l1Cur).among as a plain function, and the contract of the program's: where the plain one has an answer, the program has it. Conditions: slices read as lists. -/
namespace Go.Proofs.Ytkinlkmmelkdnaa.GsL1CurAmong
set_option linter.unusedVariables false
set_option linter.unusedSimpArgs false
open Go.RowKit
open Go.Proofs.Ytkinlkmmelkdnaa.Rowed Go.Proofs.Ytkinlkmmelkdnaa.Turn Go.Proofs.Ytkinlkmmelkdnaa.Aid Go.Proofs.Ytkinlkmmelkdnaa.GoP Go.Proofs.Ytkinlkmmelkdnaa.GoM

def P (c : Go.Proofs.Ytkinlkmmelkdnaa.GoC.Tape) (list : (List Int)) : Option (Int × Go.Proofs.Ytkinlkmmelkdnaa.GoC.Tape) :=
  bind2 (Go.Proofs.Ytkinlkmmelkdnaa.GsL1CurPick.P c (list.length : Int)) fun (t_5 : Int) (t_5_tp : Go.Proofs.Ytkinlkmmelkdnaa.GoC.Tape) =>
  Option.bind (idx list t_5) fun (yt_6 : Int) =>
  some (yt_6, t_5_tp)

set_option maxRecDepth 100000 in
set_option maxHeartbeats 2000000 in
theorem C (c : Go.Proofs.Ytkinlkmmelkdnaa.GoC.Tape) (list : (List Int)) (A1 : Option Addr) (c1 : Nat)  (g0 : Nat) (Ac0 : Option Addr) (cc0 : Nat) (bc0 : Nat) (w : World) (M1 : Hid (Cells w 1 A1 list.length (Go.Proofs.Ytkinlkmmelkdnaa.HelpInt.iv list))) (N1 : Hid (list.length ≤ 9223372036854775807))  (K0 : Hid (Go.Proofs.Ytkinlkmmelkdnaa.GoC.CurIs w bc0 g0 Ac0 cc0 c)) (X1 : Hid (0 < list.length → Apart A1 (some ⟨g0, 0, none⟩))) {r : Int} {t_ : Go.Proofs.Ytkinlkmmelkdnaa.GoC.Tape} (H : Hid (P c list = some (r, t_))) :
    Calls Try.prog 97 #[.pointer (some ⟨g0, 0, none⟩), .slice A1 list.length c1] w (fun e w' => e = .returned (.int .i64 r) ∧ Go.Proofs.Ytkinlkmmelkdnaa.GoC.CurIs w' bc0 g0 Ac0 cc0 t_ ∧ w.grownBy w' (Value.slice (some ⟨g0, 0, none⟩) 1 1).ownBlock) := by
  have HB := Lib.hid (Aid.grown_refl w (Value.slice (some ⟨g0, 0, none⟩) 1 1).ownBlock)
  unfold P at H
  have N1o := N1.out
  have L0 : bc0 ≤ w.heap.size := by have := Go.Proofs.Ytkinlkmmelkdnaa.GoC.cur_lt K0.out; omega
  go_enter Try.func97, Try.ntmps97
  replace H := bind2_hid H
  obtain ⟨t_5, t_5_tp, qt_5, H⟩ := H
  go_wp2_with fail
  go_at_call 99
  refine (Go.Proofs.Ytkinlkmmelkdnaa.GsL1CurPick.C (c) ((list.length : Int)) (g0) (Ac0) (cc0) (bc0) _   K0 qt_5).mono ?_
  rintro e_t_5 wt_5 ⟨rfl, kt_5, gt_5⟩
  have Kt_5 := Lib.hid kt_5
  have Gt_5 : Hid (w.grownBy wt_5 (Value.slice (some ⟨g0, 0, none⟩) 1 1).ownBlock) := Lib.hid gt_5
  clear kt_5 gt_5
  have HBwt_5 := Lib.hid (Aid.grown_tr HB.out Gt_5.out)
  clear K0 Gt_5
  replace H := idx_hid H
  obtain ⟨nt_6, yt_6, et_6, lt_6, gt_6, H⟩ := H
  subst et_6
  obtain ⟨ab_t_6, ao_t_6, zt_6, At_6, z_t_6, ct_6_0⟩ := Go.Proofs.Ytkinlkmmelkdnaa.HelpInt.Ints.at_ M1.out lt_6
  obtain rfl := Option.some.inj (gt_6.out.symm.trans z_t_6)
  subst At_6
  have ltt_6 := cell_lt ct_6_0
  replace ct_6_0 := cell_other ct_6_0 HBwt_5.out (Go.Proofs.Ytkinlkmmelkdnaa.GoC.apart_x X1.out (by omega))
  clear z_t_6
  have b0t_6 : (0 : Int) ≤ (nt_6 : Int) := by omega
  have b1t_6 : (nt_6 : Int) < ((list.length : Nat) : Int) := by omega
  have b2t_6 : ((nt_6 : Int)).toNat = nt_6 := by omega
  cases ret_hid H
  go_wp2_with fail
  go_ret
  exact ⟨rfl, Kt_5.out, HBwt_5.out⟩
end Go.Proofs.Ytkinlkmmelkdnaa.GsL1CurAmong

/- (*loop.example/g01062/spec.l1Cur).of as a plain function, and the contract of the program's: where the plain one has an answer, the program has it. Conditions: slices read as lists. -/
namespace Go.Proofs.Ytkinlkmmelkdnaa.GsL1CurOf
set_option linter.unusedVariables false
set_option linter.unusedSimpArgs false
open Go.RowKit
open Go.Proofs.Ytkinlkmmelkdnaa.Rowed Go.Proofs.Ytkinlkmmelkdnaa.Turn Go.Proofs.Ytkinlkmmelkdnaa.Aid Go.Proofs.Ytkinlkmmelkdnaa.GoP Go.Proofs.Ytkinlkmmelkdnaa.GoM

def P (c : Go.Proofs.Ytkinlkmmelkdnaa.GoC.Tape) (list : (List ByteArray)) : Option (ByteArray × Go.Proofs.Ytkinlkmmelkdnaa.GoC.Tape) :=
  bind2 (Go.Proofs.Ytkinlkmmelkdnaa.GsL1CurPick.P c (list.length : Int)) fun (t_5 : Int) (t_5_tp : Go.Proofs.Ytkinlkmmelkdnaa.GoC.Tape) =>
  Option.bind (idx list t_5) fun (yt_6 : ByteArray) =>
  some (yt_6, t_5_tp)

set_option maxRecDepth 100000 in
set_option maxHeartbeats 2000000 in
theorem C (c : Go.Proofs.Ytkinlkmmelkdnaa.GoC.Tape) (list : (List ByteArray)) (A1 : Option Addr) (c1 : Nat)  (g0 : Nat) (Ac0 : Option Addr) (cc0 : Nat) (bc0 : Nat) (w : World) (M1 : Hid (Cells w 1 A1 list.length (list.map Value.string))) (N1 : Hid (list.length ≤ 9223372036854775807))  (K0 : Hid (Go.Proofs.Ytkinlkmmelkdnaa.GoC.CurIs w bc0 g0 Ac0 cc0 c)) (X1 : Hid (0 < list.length → Apart A1 (some ⟨g0, 0, none⟩))) {r : ByteArray} {t_ : Go.Proofs.Ytkinlkmmelkdnaa.GoC.Tape} (H : Hid (P c list = some (r, t_))) :
    Calls Try.prog 141 #[.pointer (some ⟨g0, 0, none⟩), .slice A1 list.length c1] w (fun e w' => e = .returned (.string r) ∧ Go.Proofs.Ytkinlkmmelkdnaa.GoC.CurIs w' bc0 g0 Ac0 cc0 t_ ∧ w.grownBy w' (Value.slice (some ⟨g0, 0, none⟩) 1 1).ownBlock) := by
  have HB := Lib.hid (Aid.grown_refl w (Value.slice (some ⟨g0, 0, none⟩) 1 1).ownBlock)
  unfold P at H
  have N1o := N1.out
  have L0 : bc0 ≤ w.heap.size := by have := Go.Proofs.Ytkinlkmmelkdnaa.GoC.cur_lt K0.out; omega
  go_enter Try.func141, Try.ntmps141
  replace H := bind2_hid H
  obtain ⟨t_5, t_5_tp, qt_5, H⟩ := H
  go_wp2_with fail
  go_at_call 99
  refine (Go.Proofs.Ytkinlkmmelkdnaa.GsL1CurPick.C (c) ((list.length : Int)) (g0) (Ac0) (cc0) (bc0) _   K0 qt_5).mono ?_
  rintro e_t_5 wt_5 ⟨rfl, kt_5, gt_5⟩
  have Kt_5 := Lib.hid kt_5
  have Gt_5 : Hid (w.grownBy wt_5 (Value.slice (some ⟨g0, 0, none⟩) 1 1).ownBlock) := Lib.hid gt_5
  clear kt_5 gt_5
  have HBwt_5 := Lib.hid (Aid.grown_tr HB.out Gt_5.out)
  clear K0 Gt_5
  replace H := idx_hid H
  obtain ⟨nt_6, yt_6, et_6, lt_6, gt_6, H⟩ := H
  subst et_6
  obtain ⟨ab_t_6, ao_t_6, zt_6, At_6, z_t_6, ct_6_0⟩ := strs_at M1.out lt_6
  obtain rfl := Option.some.inj (gt_6.out.symm.trans z_t_6)
  subst At_6
  have ltt_6 := cell_lt ct_6_0
  replace ct_6_0 := cell_other ct_6_0 HBwt_5.out (Go.Proofs.Ytkinlkmmelkdnaa.GoC.apart_x X1.out (by omega))
  clear z_t_6
  have b0t_6 : (0 : Int) ≤ (nt_6 : Int) := by omega
  have b1t_6 : (nt_6 : Int) < ((list.length : Nat) : Int) := by omega
  have b2t_6 : ((nt_6 : Int)).toNat = nt_6 := by omega
  cases ret_hid H
  go_wp2_with fail
  go_ret
  exact ⟨rfl, Kt_5.out, HBwt_5.out⟩
end Go.Proofs.Ytkinlkmmelkdnaa.GsL1CurOf

/- (*loop.example/g01062/spec.l1Cur).shade7 as a plain function, and the contract of the program's: where the plain one has an answer, the program has it. Conditions: slices read as lists. -/
namespace Go.Proofs.Ytkinlkmmelkdnaa.GsL1CurShade7
set_option linter.unusedVariables false
set_option linter.unusedSimpArgs false
open Go.RowKit
open Go.Proofs.Ytkinlkmmelkdnaa.Rowed Go.Proofs.Ytkinlkmmelkdnaa.Turn Go.Proofs.Ytkinlkmmelkdnaa.Aid Go.Proofs.Ytkinlkmmelkdnaa.GoP Go.Proofs.Ytkinlkmmelkdnaa.GoM

def P (c : Go.Proofs.Ytkinlkmmelkdnaa.GoC.Tape) (name : ByteArray) : Option (Go.Proofs.Ytkinlkmmelkdnaa.PShade.Shade × Go.Proofs.Ytkinlkmmelkdnaa.GoC.Tape) :=
  letK ([0, 5, 20, 180, 350, 359]) fun (t_3 : (List Int)) =>
  bind2 (Go.Proofs.Ytkinlkmmelkdnaa.GsL1CurAmong.P c t_3) fun (t_4 : Int) (t_4_tp : Go.Proofs.Ytkinlkmmelkdnaa.GoC.Tape) =>
  letK ([0, 5, 10, 15, 90, 179]) fun (t_6 : (List Int)) =>
  bind2 (Go.Proofs.Ytkinlkmmelkdnaa.GsL1CurAmong.P t_4_tp t_6) fun (t_7 : Int) (t_7_tp : Go.Proofs.Ytkinlkmmelkdnaa.GoC.Tape) =>
  letK ([0, 30, 50]) fun (t_9 : (List Int)) =>
  bind2 (Go.Proofs.Ytkinlkmmelkdnaa.GsL1CurAmong.P t_7_tp t_9) fun (t_10 : Int) (t_10_tp : Go.Proofs.Ytkinlkmmelkdnaa.GoC.Tape) =>
  letK ([50, 70, 100]) fun (t_12 : (List Int)) =>
  bind2 (Go.Proofs.Ytkinlkmmelkdnaa.GsL1CurAmong.P t_10_tp t_12) fun (t_13 : Int) (t_13_tp : Go.Proofs.Ytkinlkmmelkdnaa.GoC.Tape) =>
  bind2 (Go.Proofs.Ytkinlkmmelkdnaa.GsL1CurPick.P t_13_tp 90) fun (t_18 : Int) (t_18_tp : Go.Proofs.Ytkinlkmmelkdnaa.GoC.Tape) =>
  letK (t_18 == 0) fun (t_19 : Bool) =>
  iteK t_19
  (letK ([(⟨#[]⟩ : ByteArray), (⟨#[82, 101, 100]⟩ : ByteArray), (⟨#[97, 98, 99, 100, 101, 102, 103, 104, 105, 106, 107]⟩ : ByteArray)]) fun (t_22 : (List ByteArray)) =>
  bind2 (Go.Proofs.Ytkinlkmmelkdnaa.GsL1CurOf.P t_18_tp t_22) fun (t_23 : ByteArray) (t_23_tp : Go.Proofs.Ytkinlkmmelkdnaa.GoC.Tape) =>
  some ((Go.Proofs.Ytkinlkmmelkdnaa.PShade.Shade.mk t_23 t_4 t_7 t_10 t_13), t_23_tp))
  (letK (t_18 == 1) fun (t_26 : Bool) =>
  iteK t_26
  (letK ([(-1), 360]) fun (t_29 : (List Int)) =>
  bind2 (Go.Proofs.Ytkinlkmmelkdnaa.GsL1CurAmong.P t_18_tp t_29) fun (t_30 : Int) (t_30_tp : Go.Proofs.Ytkinlkmmelkdnaa.GoC.Tape) =>
  some ((Go.Proofs.Ytkinlkmmelkdnaa.PShade.Shade.mk name t_30 t_7 t_10 t_13), t_30_tp))
  (letK (t_18 == 2) fun (t_33 : Bool) =>
  iteK t_33
  (letK ([(-1), 180]) fun (t_36 : (List Int)) =>
  bind2 (Go.Proofs.Ytkinlkmmelkdnaa.GsL1CurAmong.P t_18_tp t_36) fun (t_37 : Int) (t_37_tp : Go.Proofs.Ytkinlkmmelkdnaa.GoC.Tape) =>
  some ((Go.Proofs.Ytkinlkmmelkdnaa.PShade.Shade.mk name t_4 t_37 t_10 t_13), t_37_tp))
  (letK (t_18 == 3) fun (t_40 : Bool) =>
  iteK t_40
  (letK (IntKind.i64.wrap (t_13 + 1)) fun (t_45 : Int) =>
  letK ([(-1), t_45]) fun (t_46 : (List Int)) =>
  bind2 (Go.Proofs.Ytkinlkmmelkdnaa.GsL1CurAmong.P t_18_tp t_46) fun (t_47 : Int) (t_47_tp : Go.Proofs.Ytkinlkmmelkdnaa.GoC.Tape) =>
  some ((Go.Proofs.Ytkinlkmmelkdnaa.PShade.Shade.mk name t_4 t_7 t_47 t_13), t_47_tp))
  (letK (t_18 == 4) fun (t_50 : Bool) =>
  iteK t_50
  (some ((Go.Proofs.Ytkinlkmmelkdnaa.PShade.Shade.mk name t_4 t_7 t_10 101), t_18_tp))
  (some ((Go.Proofs.Ytkinlkmmelkdnaa.PShade.Shade.mk name t_4 t_7 t_10 t_13), t_18_tp))))))

set_option maxRecDepth 100000 in
set_option maxHeartbeats 2000000 in
theorem C (c : Go.Proofs.Ytkinlkmmelkdnaa.GoC.Tape) (name : ByteArray)   (g0 : Nat) (Ac0 : Option Addr) (cc0 : Nat) (bc0 : Nat) (w : World)   (K0 : Hid (Go.Proofs.Ytkinlkmmelkdnaa.GoC.CurIs w bc0 g0 Ac0 cc0 c)) {r : Go.Proofs.Ytkinlkmmelkdnaa.PShade.Shade} {t_ : Go.Proofs.Ytkinlkmmelkdnaa.GoC.Tape} (H : Hid (P c name = some (r, t_))) :
    Calls Try.prog 121 #[.pointer (some ⟨g0, 0, none⟩), .string name] w (fun e w' => e = .returned ((Go.Proofs.Ytkinlkmmelkdnaa.PShade.Shade.val r)) ∧ Go.Proofs.Ytkinlkmmelkdnaa.GoC.CurIs w' bc0 g0 Ac0 cc0 t_ ∧ w.grownBy w' (Value.slice (some ⟨g0, 0, none⟩) 1 1).ownBlock) := by
  have HB := Lib.hid (Aid.grown_refl w (Value.slice (some ⟨g0, 0, none⟩) 1 1).ownBlock)
  unfold P at H
  have L0 : bc0 ≤ w.heap.size := by have := Go.Proofs.Ytkinlkmmelkdnaa.GoC.cur_lt K0.out; omega
  go_enter Try.func121, Try.ntmps121
  obtain ⟨w_t_0, hw_t_0⟩ : ∃ x, w.alloc (.cells #[.string (⟨#[]⟩ : ByteArray), .int .i64 0, .int .i64 0, .int .i64 0, .int .i64 0] 74) = x := ⟨_, rfl⟩
  have bw_t_0 : Below w.heap.size w w_t_0 := by rw [← hw_t_0]; exact (Below.refl _ _).alloc (Nat.le_refl _) _
  have Dt_0_c0 := Lib.hid (Go.Proofs.Ytkinlkmmelkdnaa.GoC.apart_cur K0.out)
  have HBw_t_0 := Lib.hid (grown_below HB.out bw_t_0)
  replace K0 := Lib.hid (Go.Proofs.Ytkinlkmmelkdnaa.GoC.cur_below K0.out bw_t_0)
  clear bw_t_0
  have kt_0_0 : w_t_0.cell? ⟨w.heap.size, 0, none⟩ = some (.string (⟨#[]⟩ : ByteArray)) := by rw [← hw_t_0]; exact box_new _ _ _ 0 _ rfl
  have kt_0_1 : w_t_0.cell? ⟨w.heap.size, 1, none⟩ = some (.int .i64 0) := by rw [← hw_t_0]; exact box_new _ _ _ 1 _ rfl
  have kt_0_2 : w_t_0.cell? ⟨w.heap.size, 2, none⟩ = some (.int .i64 0) := by rw [← hw_t_0]; exact box_new _ _ _ 2 _ rfl
  have kt_0_3 : w_t_0.cell? ⟨w.heap.size, 3, none⟩ = some (.int .i64 0) := by rw [← hw_t_0]; exact box_new _ _ _ 3 _ rfl
  have kt_0_4 : w_t_0.cell? ⟨w.heap.size, 4, none⟩ = some (.int .i64 0) := by rw [← hw_t_0]; exact box_new _ _ _ 4 _ rfl
  have Ot_0 : Hid (w_t_0.ownsRow w.heap.size 74 5 (.slice (some ⟨w.heap.size, 0, none⟩) 1 1) 1 [.string (⟨#[]⟩ : ByteArray), .int .i64 0, .int .i64 0, .int .i64 0, .int .i64 0]) := Lib.hid (by rw [← hw_t_0]; exact own_laid (n := 1) HB.out.size rfl rfl (by unfold maxLen; omega))
  replace H := let_hid H
  obtain ⟨t_3, ht_3, H⟩ := H
  obtain ⟨w_t_3, hw_t_3⟩ : ∃ x, w_t_0.alloc (.cells #[.int .i64 0, .int .i64 5, .int .i64 20, .int .i64 180, .int .i64 350, .int .i64 359] 3) = x := ⟨_, rfl⟩
  have bw_t_3 : Below w_t_0.heap.size w_t_0 w_t_3 := by rw [← hw_t_3]; exact (Below.refl _ _).alloc (Nat.le_refl _) _
  have hs_t_3 := HBw_t_0.out.size
  have nt_3 : t_3.length = 6 := by rw [← ht_3]; rfl
  have Ot_3 : Hid (w_t_3.ownsRow w.heap.size 3 1 (.slice (some ⟨w_t_0.heap.size, 0, none⟩) 6 6) 6 (Go.Proofs.Ytkinlkmmelkdnaa.HelpInt.iv t_3)) := by
    rw [← hw_t_3, ← ht_3]
    have e_ : ([.int .i64 0, .int .i64 5, .int .i64 20, .int .i64 180, .int .i64 350, .int .i64 359] : List Value) = (Go.Proofs.Ytkinlkmmelkdnaa.HelpInt.iv ([0, 5, 20, 180, 350, 359] : List Int)) := rfl
    exact Lib.hid (own_laid (n := 6) hs_t_3 e_ rfl (by unfold maxLen; omega))
  clear hs_t_3
  have hht_3 := Lib.hid ht_3
  clear ht_3
  replace nt_3 := Lib.hid nt_3
  have Dt_3_c0 := Lib.hid (Go.Proofs.Ytkinlkmmelkdnaa.GoC.apart_cur K0.out)
  have Dt_3_t_0 := Lib.hid (apart_box kt_0_0)
  have HBw_t_3 := Lib.hid (grown_below HBw_t_0.out bw_t_3)
  have kt_0_0__160 := cell_below bw_t_3 kt_0_0
  have kt_0_1__161 := cell_below bw_t_3 kt_0_1
  have kt_0_2__162 := cell_below bw_t_3 kt_0_2
  have kt_0_3__163 := cell_below bw_t_3 kt_0_3
  have kt_0_4__164 := cell_below bw_t_3 kt_0_4
  replace K0 := Lib.hid (Go.Proofs.Ytkinlkmmelkdnaa.GoC.cur_below K0.out bw_t_3)
  replace Ot_0 := Lib.hid (own_below Ot_0.out bw_t_3)
  clear bw_t_3
  replace H := bind2_hid H
  obtain ⟨t_4, t_4_tp, qt_4, H⟩ := H
  go_wp2_with fail
  clear kt_0_0 kt_0_1 kt_0_2 kt_0_3 kt_0_4
  have hc_ := nt_3.out
  have hv_ : (Value.slice (some ⟨w_t_0.heap.size, 0, none⟩) 6 6 : Value) = Value.slice (some ⟨w_t_0.heap.size, 0, none⟩) t_3.length 6 := by rw [hc_]
  try rw [hv_]
  replace Ot_3 := Lib.hid (own_len hc_ Ot_3.out)
  clear hc_ hv_
  go_wp2_with fail
  go_at_call 97
  refine (Go.Proofs.Ytkinlkmmelkdnaa.GsL1CurAmong.C (c) (t_3) (some ⟨w_t_0.heap.size, 0, none⟩) 6 (g0) (Ac0) (cc0) (bc0) _   (Lib.hid (own_cells Ot_3.out)) (Lib.hid (own_max Ot_3.out)) K0 (Lib.hid (fun _ => Dt_3_c0.out)) qt_4).mono ?_
  rintro e_t_4 wt_4 ⟨rfl, kt_4, gt_4⟩
  have Kt_4 := Lib.hid kt_4
  have Gt_4 : Hid (w_t_3.grownBy wt_4 (Value.slice (some ⟨g0, 0, none⟩) 1 1).ownBlock) := Lib.hid gt_4
  clear kt_4 gt_4
  have HBwt_4 := Lib.hid (Aid.grown_tr HBw_t_3.out Gt_4.out)
  replace kt_0_0__160 := cell_other kt_0_0__160 Gt_4.out (Apart.symm Dt_0_c0.out)
  replace kt_0_1__161 := cell_other kt_0_1__161 Gt_4.out (Apart.symm Dt_0_c0.out)
  replace kt_0_2__162 := cell_other kt_0_2__162 Gt_4.out (Apart.symm Dt_0_c0.out)
  replace kt_0_3__163 := cell_other kt_0_3__163 Gt_4.out (Apart.symm Dt_0_c0.out)
  replace kt_0_4__164 := cell_other kt_0_4__164 Gt_4.out (Apart.symm Dt_0_c0.out)
  replace Ot_0 := Lib.hid (own_other Ot_0.out Gt_4.out (Apart.symm Dt_0_c0.out))
  replace Ot_3 := Lib.hid (own_other Ot_3.out Gt_4.out (Apart.symm Dt_3_c0.out))
  clear K0 Gt_4
  replace H := let_hid H
  obtain ⟨t_6, ht_6, H⟩ := H
  obtain ⟨w_t_6, hw_t_6⟩ : ∃ x, wt_4.alloc (.cells #[.int .i64 0, .int .i64 5, .int .i64 10, .int .i64 15, .int .i64 90, .int .i64 179] 3) = x := ⟨_, rfl⟩
  have bw_t_6 : Below wt_4.heap.size wt_4 w_t_6 := by rw [← hw_t_6]; exact (Below.refl _ _).alloc (Nat.le_refl _) _
  have hs_t_6 := HBwt_4.out.size
  have nt_6 : t_6.length = 6 := by rw [← ht_6]; rfl
  have Ot_6 : Hid (w_t_6.ownsRow w.heap.size 3 1 (.slice (some ⟨wt_4.heap.size, 0, none⟩) 6 6) 6 (Go.Proofs.Ytkinlkmmelkdnaa.HelpInt.iv t_6)) := by
    rw [← hw_t_6, ← ht_6]
    have e_ : ([.int .i64 0, .int .i64 5, .int .i64 10, .int .i64 15, .int .i64 90, .int .i64 179] : List Value) = (Go.Proofs.Ytkinlkmmelkdnaa.HelpInt.iv ([0, 5, 10, 15, 90, 179] : List Int)) := rfl
    exact Lib.hid (own_laid (n := 6) hs_t_6 e_ rfl (by unfold maxLen; omega))
  clear hs_t_6
  have hht_6 := Lib.hid ht_6
  clear ht_6
  replace nt_6 := Lib.hid nt_6
  have Dt_6_t_3 := Lib.hid (apart_fresh Ot_3.out)
  have Dt_6_c0 := Lib.hid (Go.Proofs.Ytkinlkmmelkdnaa.GoC.apart_cur Kt_4.out)
  have Dt_6_t_0 := Lib.hid (apart_box kt_0_0__160)
  have HBw_t_6 := Lib.hid (grown_below HBwt_4.out bw_t_6)
  have kt_0_0__165 := cell_below bw_t_6 kt_0_0__160
  have kt_0_1__166 := cell_below bw_t_6 kt_0_1__161
  have kt_0_2__167 := cell_below bw_t_6 kt_0_2__162
  have kt_0_3__168 := cell_below bw_t_6 kt_0_3__163
  have kt_0_4__169 := cell_below bw_t_6 kt_0_4__164
  replace Ot_3 := Lib.hid (own_below Ot_3.out bw_t_6)
  replace Kt_4 := Lib.hid (Go.Proofs.Ytkinlkmmelkdnaa.GoC.cur_below Kt_4.out bw_t_6)
  replace Ot_0 := Lib.hid (own_below Ot_0.out bw_t_6)
  clear bw_t_6
  replace H := bind2_hid H
  obtain ⟨t_7, t_7_tp, qt_7, H⟩ := H
  go_wp2_with fail
  clear kt_0_0__160 kt_0_1__161 kt_0_2__162 kt_0_3__163 kt_0_4__164
  have hc_ := nt_6.out
  have hv_ : (Value.slice (some ⟨wt_4.heap.size, 0, none⟩) 6 6 : Value) = Value.slice (some ⟨wt_4.heap.size, 0, none⟩) t_6.length 6 := by rw [hc_]
  try rw [hv_]
  replace Ot_6 := Lib.hid (own_len hc_ Ot_6.out)
  clear hc_ hv_
  go_wp2_with fail
  go_at_call 97
  refine (Go.Proofs.Ytkinlkmmelkdnaa.GsL1CurAmong.C (t_4_tp) (t_6) (some ⟨wt_4.heap.size, 0, none⟩) 6 (g0) (Ac0) (cc0) (bc0) _   (Lib.hid (own_cells Ot_6.out)) (Lib.hid (own_max Ot_6.out)) Kt_4 (Lib.hid (fun _ => Dt_6_c0.out)) qt_7).mono ?_
  rintro e_t_7 wt_7 ⟨rfl, kt_7, gt_7⟩
  have Kt_7 := Lib.hid kt_7
  have Gt_7 : Hid (w_t_6.grownBy wt_7 (Value.slice (some ⟨g0, 0, none⟩) 1 1).ownBlock) := Lib.hid gt_7
  clear kt_7 gt_7
  have HBwt_7 := Lib.hid (Aid.grown_tr HBw_t_6.out Gt_7.out)
  replace kt_0_0__165 := cell_other kt_0_0__165 Gt_7.out (Apart.symm Dt_0_c0.out)
  replace kt_0_1__166 := cell_other kt_0_1__166 Gt_7.out (Apart.symm Dt_0_c0.out)
  replace kt_0_2__167 := cell_other kt_0_2__167 Gt_7.out (Apart.symm Dt_0_c0.out)
  replace kt_0_3__168 := cell_other kt_0_3__168 Gt_7.out (Apart.symm Dt_0_c0.out)
  replace kt_0_4__169 := cell_other kt_0_4__169 Gt_7.out (Apart.symm Dt_0_c0.out)
  replace Ot_0 := Lib.hid (own_other Ot_0.out Gt_7.out (Apart.symm Dt_0_c0.out))
  replace Ot_3 := Lib.hid (own_other Ot_3.out Gt_7.out (Apart.symm Dt_3_c0.out))
  replace Ot_6 := Lib.hid (own_other Ot_6.out Gt_7.out (Apart.symm Dt_6_c0.out))
  clear Kt_4 Gt_7
  replace H := let_hid H
  obtain ⟨t_9, ht_9, H⟩ := H
  obtain ⟨w_t_9, hw_t_9⟩ : ∃ x, wt_7.alloc (.cells #[.int .i64 0, .int .i64 30, .int .i64 50] 3) = x := ⟨_, rfl⟩
  have bw_t_9 : Below wt_7.heap.size wt_7 w_t_9 := by rw [← hw_t_9]; exact (Below.refl _ _).alloc (Nat.le_refl _) _
  have hs_t_9 := HBwt_7.out.size
  have nt_9 : t_9.length = 3 := by rw [← ht_9]; rfl
  have Ot_9 : Hid (w_t_9.ownsRow w.heap.size 3 1 (.slice (some ⟨wt_7.heap.size, 0, none⟩) 3 3) 3 (Go.Proofs.Ytkinlkmmelkdnaa.HelpInt.iv t_9)) := by
    rw [← hw_t_9, ← ht_9]
    have e_ : ([.int .i64 0, .int .i64 30, .int .i64 50] : List Value) = (Go.Proofs.Ytkinlkmmelkdnaa.HelpInt.iv ([0, 30, 50] : List Int)) := rfl
    exact Lib.hid (own_laid (n := 3) hs_t_9 e_ rfl (by unfold maxLen; omega))
  clear hs_t_9
  have hht_9 := Lib.hid ht_9
  clear ht_9
  replace nt_9 := Lib.hid nt_9
  have Dt_9_t_3 := Lib.hid (apart_fresh Ot_3.out)
  have Dt_9_t_6 := Lib.hid (apart_fresh Ot_6.out)
  have Dt_9_c0 := Lib.hid (Go.Proofs.Ytkinlkmmelkdnaa.GoC.apart_cur Kt_7.out)
  have Dt_9_t_0 := Lib.hid (apart_box kt_0_0__165)
  have HBw_t_9 := Lib.hid (grown_below HBwt_7.out bw_t_9)
  have kt_0_0__170 := cell_below bw_t_9 kt_0_0__165
  have kt_0_1__171 := cell_below bw_t_9 kt_0_1__166
  have kt_0_2__172 := cell_below bw_t_9 kt_0_2__167
  have kt_0_3__173 := cell_below bw_t_9 kt_0_3__168
  have kt_0_4__174 := cell_below bw_t_9 kt_0_4__169
  replace Ot_3 := Lib.hid (own_below Ot_3.out bw_t_9)
  replace Ot_6 := Lib.hid (own_below Ot_6.out bw_t_9)
  replace Kt_7 := Lib.hid (Go.Proofs.Ytkinlkmmelkdnaa.GoC.cur_below Kt_7.out bw_t_9)
  replace Ot_0 := Lib.hid (own_below Ot_0.out bw_t_9)
  clear bw_t_9
  replace H := bind2_hid H
  obtain ⟨t_10, t_10_tp, qt_10, H⟩ := H
  go_wp2_with fail
  clear kt_0_0__165 kt_0_1__166 kt_0_2__167 kt_0_3__168 kt_0_4__169
  have hc_ := nt_9.out
  have hv_ : (Value.slice (some ⟨wt_7.heap.size, 0, none⟩) 3 3 : Value) = Value.slice (some ⟨wt_7.heap.size, 0, none⟩) t_9.length 3 := by rw [hc_]
  try rw [hv_]
  replace Ot_9 := Lib.hid (own_len hc_ Ot_9.out)
  clear hc_ hv_
  go_wp2_with fail
  go_at_call 97
  refine (Go.Proofs.Ytkinlkmmelkdnaa.GsL1CurAmong.C (t_7_tp) (t_9) (some ⟨wt_7.heap.size, 0, none⟩) 3 (g0) (Ac0) (cc0) (bc0) _   (Lib.hid (own_cells Ot_9.out)) (Lib.hid (own_max Ot_9.out)) Kt_7 (Lib.hid (fun _ => Dt_9_c0.out)) qt_10).mono ?_
  rintro e_t_10 wt_10 ⟨rfl, kt_10, gt_10⟩
  have Kt_10 := Lib.hid kt_10
  have Gt_10 : Hid (w_t_9.grownBy wt_10 (Value.slice (some ⟨g0, 0, none⟩) 1 1).ownBlock) := Lib.hid gt_10
  clear kt_10 gt_10
  have HBwt_10 := Lib.hid (Aid.grown_tr HBw_t_9.out Gt_10.out)
  replace kt_0_0__170 := cell_other kt_0_0__170 Gt_10.out (Apart.symm Dt_0_c0.out)
  replace kt_0_1__171 := cell_other kt_0_1__171 Gt_10.out (Apart.symm Dt_0_c0.out)
  replace kt_0_2__172 := cell_other kt_0_2__172 Gt_10.out (Apart.symm Dt_0_c0.out)
  replace kt_0_3__173 := cell_other kt_0_3__173 Gt_10.out (Apart.symm Dt_0_c0.out)
  replace kt_0_4__174 := cell_other kt_0_4__174 Gt_10.out (Apart.symm Dt_0_c0.out)
  replace Ot_0 := Lib.hid (own_other Ot_0.out Gt_10.out (Apart.symm Dt_0_c0.out))
  replace Ot_3 := Lib.hid (own_other Ot_3.out Gt_10.out (Apart.symm Dt_3_c0.out))
  replace Ot_6 := Lib.hid (own_other Ot_6.out Gt_10.out (Apart.symm Dt_6_c0.out))
  replace Ot_9 := Lib.hid (own_other Ot_9.out Gt_10.out (Apart.symm Dt_9_c0.out))
  clear Kt_7 Gt_10
  replace H := let_hid H
  obtain ⟨t_12, ht_12, H⟩ := H
  obtain ⟨w_t_12, hw_t_12⟩ : ∃ x, wt_10.alloc (.cells #[.int .i64 50, .int .i64 70, .int .i64 100] 3) = x := ⟨_, rfl⟩
  have bw_t_12 : Below wt_10.heap.size wt_10 w_t_12 := by rw [← hw_t_12]; exact (Below.refl _ _).alloc (Nat.le_refl _) _
  have hs_t_12 := HBwt_10.out.size
  have nt_12 : t_12.length = 3 := by rw [← ht_12]; rfl
  have Ot_12 : Hid (w_t_12.ownsRow w.heap.size 3 1 (.slice (some ⟨wt_10.heap.size, 0, none⟩) 3 3) 3 (Go.Proofs.Ytkinlkmmelkdnaa.HelpInt.iv t_12)) := by
    rw [← hw_t_12, ← ht_12]
    have e_ : ([.int .i64 50, .int .i64 70, .int .i64 100] : List Value) = (Go.Proofs.Ytkinlkmmelkdnaa.HelpInt.iv ([50, 70, 100] : List Int)) := rfl
    exact Lib.hid (own_laid (n := 3) hs_t_12 e_ rfl (by unfold maxLen; omega))
  clear hs_t_12
  have hht_12 := Lib.hid ht_12
  clear ht_12
  replace nt_12 := Lib.hid nt_12
  have Dt_12_t_3 := Lib.hid (apart_fresh Ot_3.out)
  have Dt_12_t_6 := Lib.hid (apart_fresh Ot_6.out)
  have Dt_12_t_9 := Lib.hid (apart_fresh Ot_9.out)
  have Dt_12_c0 := Lib.hid (Go.Proofs.Ytkinlkmmelkdnaa.GoC.apart_cur Kt_10.out)
  have Dt_12_t_0 := Lib.hid (apart_box kt_0_0__170)
  have HBw_t_12 := Lib.hid (grown_below HBwt_10.out bw_t_12)
  have kt_0_0__175 := cell_below bw_t_12 kt_0_0__170
  have kt_0_1__176 := cell_below bw_t_12 kt_0_1__171
  have kt_0_2__177 := cell_below bw_t_12 kt_0_2__172
  have kt_0_3__178 := cell_below bw_t_12 kt_0_3__173
  have kt_0_4__179 := cell_below bw_t_12 kt_0_4__174
  replace Ot_3 := Lib.hid (own_below Ot_3.out bw_t_12)
  replace Ot_6 := Lib.hid (own_below Ot_6.out bw_t_12)
  replace Ot_9 := Lib.hid (own_below Ot_9.out bw_t_12)
  replace Kt_10 := Lib.hid (Go.Proofs.Ytkinlkmmelkdnaa.GoC.cur_below Kt_10.out bw_t_12)
  replace Ot_0 := Lib.hid (own_below Ot_0.out bw_t_12)
  clear bw_t_12
  replace H := bind2_hid H
  obtain ⟨t_13, t_13_tp, qt_13, H⟩ := H
  go_wp2_with fail
  clear kt_0_0__170 kt_0_1__171 kt_0_2__172 kt_0_3__173 kt_0_4__174
  have hc_ := nt_12.out
  have hv_ : (Value.slice (some ⟨wt_10.heap.size, 0, none⟩) 3 3 : Value) = Value.slice (some ⟨wt_10.heap.size, 0, none⟩) t_12.length 3 := by rw [hc_]
  try rw [hv_]
  replace Ot_12 := Lib.hid (own_len hc_ Ot_12.out)
  clear hc_ hv_
  go_wp2_with fail
  go_at_call 97
  refine (Go.Proofs.Ytkinlkmmelkdnaa.GsL1CurAmong.C (t_10_tp) (t_12) (some ⟨wt_10.heap.size, 0, none⟩) 3 (g0) (Ac0) (cc0) (bc0) _   (Lib.hid (own_cells Ot_12.out)) (Lib.hid (own_max Ot_12.out)) Kt_10 (Lib.hid (fun _ => Dt_12_c0.out)) qt_13).mono ?_
  rintro e_t_13 wt_13 ⟨rfl, kt_13, gt_13⟩
  have Kt_13 := Lib.hid kt_13
  have Gt_13 : Hid (w_t_12.grownBy wt_13 (Value.slice (some ⟨g0, 0, none⟩) 1 1).ownBlock) := Lib.hid gt_13
  clear kt_13 gt_13
  have HBwt_13 := Lib.hid (Aid.grown_tr HBw_t_12.out Gt_13.out)
  replace kt_0_0__175 := cell_other kt_0_0__175 Gt_13.out (Apart.symm Dt_0_c0.out)
  replace kt_0_1__176 := cell_other kt_0_1__176 Gt_13.out (Apart.symm Dt_0_c0.out)
  replace kt_0_2__177 := cell_other kt_0_2__177 Gt_13.out (Apart.symm Dt_0_c0.out)
  replace kt_0_3__178 := cell_other kt_0_3__178 Gt_13.out (Apart.symm Dt_0_c0.out)
  replace kt_0_4__179 := cell_other kt_0_4__179 Gt_13.out (Apart.symm Dt_0_c0.out)
  replace Ot_0 := Lib.hid (own_other Ot_0.out Gt_13.out (Apart.symm Dt_0_c0.out))
  replace Ot_3 := Lib.hid (own_other Ot_3.out Gt_13.out (Apart.symm Dt_3_c0.out))
  replace Ot_6 := Lib.hid (own_other Ot_6.out Gt_13.out (Apart.symm Dt_6_c0.out))
  replace Ot_9 := Lib.hid (own_other Ot_9.out Gt_13.out (Apart.symm Dt_9_c0.out))
  replace Ot_12 := Lib.hid (own_other Ot_12.out Gt_13.out (Apart.symm Dt_12_c0.out))
  clear Kt_10 Gt_13
  obtain ⟨w_x_15, hw_x_15⟩ : ∃ x, wt_13.alloc (.cells #[.string name, .int .i64 t_4, .int .i64 t_7, .int .i64 t_10, .int .i64 t_13] 74) = x := ⟨_, rfl⟩
  have bw_x_15 : Below wt_13.heap.size wt_13 w_x_15 := by rw [← hw_x_15]; exact (Below.refl _ _).alloc (Nat.le_refl _) _
  have Dx_15_t_3 := Lib.hid (apart_fresh Ot_3.out)
  have Dx_15_t_6 := Lib.hid (apart_fresh Ot_6.out)
  have Dx_15_t_9 := Lib.hid (apart_fresh Ot_9.out)
  have Dx_15_t_12 := Lib.hid (apart_fresh Ot_12.out)
  have Dx_15_c0 := Lib.hid (Go.Proofs.Ytkinlkmmelkdnaa.GoC.apart_cur Kt_13.out)
  have Dx_15_t_0 := Lib.hid (apart_box kt_0_0__175)
  have HBw_x_15 := Lib.hid (grown_below HBwt_13.out bw_x_15)
  have kt_0_0__180 := cell_below bw_x_15 kt_0_0__175
  have kt_0_1__181 := cell_below bw_x_15 kt_0_1__176
  have kt_0_2__182 := cell_below bw_x_15 kt_0_2__177
  have kt_0_3__183 := cell_below bw_x_15 kt_0_3__178
  have kt_0_4__184 := cell_below bw_x_15 kt_0_4__179
  replace Ot_3 := Lib.hid (own_below Ot_3.out bw_x_15)
  replace Ot_6 := Lib.hid (own_below Ot_6.out bw_x_15)
  replace Ot_9 := Lib.hid (own_below Ot_9.out bw_x_15)
  replace Ot_12 := Lib.hid (own_below Ot_12.out bw_x_15)
  replace Kt_13 := Lib.hid (Go.Proofs.Ytkinlkmmelkdnaa.GoC.cur_below Kt_13.out bw_x_15)
  replace Ot_0 := Lib.hid (own_below Ot_0.out bw_x_15)
  clear bw_x_15
  have kx_15_0 : w_x_15.cell? ⟨wt_13.heap.size, 0, none⟩ = some (.string name) := by rw [← hw_x_15]; exact box_new _ _ _ 0 _ rfl
  have kx_15_1 : w_x_15.cell? ⟨wt_13.heap.size, 1, none⟩ = some (.int .i64 t_4) := by rw [← hw_x_15]; exact box_new _ _ _ 1 _ rfl
  have kx_15_2 : w_x_15.cell? ⟨wt_13.heap.size, 2, none⟩ = some (.int .i64 t_7) := by rw [← hw_x_15]; exact box_new _ _ _ 2 _ rfl
  have kx_15_3 : w_x_15.cell? ⟨wt_13.heap.size, 3, none⟩ = some (.int .i64 t_10) := by rw [← hw_x_15]; exact box_new _ _ _ 3 _ rfl
  have kx_15_4 : w_x_15.cell? ⟨wt_13.heap.size, 4, none⟩ = some (.int .i64 t_13) := by rw [← hw_x_15]; exact box_new _ _ _ 4 _ rfl
  have Ox_15 : Hid (w_x_15.ownsRow w.heap.size 74 5 (.slice (some ⟨wt_13.heap.size, 0, none⟩) 1 1) 1 [.string name, .int .i64 t_4, .int .i64 t_7, .int .i64 t_10, .int .i64 t_13]) := Lib.hid (by rw [← hw_x_15]; exact own_laid (n := 1) HBwt_13.out.size rfl rfl (by unfold maxLen; omega))
  replace H := bind2_hid H
  obtain ⟨t_18, t_18_tp, qt_18, H⟩ := H
  go_wp2_with fail
  clear kt_0_0__175 kt_0_1__176 kt_0_2__177 kt_0_3__178 kt_0_4__179
  go_at_call 99
  refine (Go.Proofs.Ytkinlkmmelkdnaa.GsL1CurPick.C (t_13_tp) (90) (g0) (Ac0) (cc0) (bc0) _   Kt_13 qt_18).mono ?_
  rintro e_t_18 wt_18 ⟨rfl, kt_18, gt_18⟩
  have Kt_18 := Lib.hid kt_18
  have Gt_18 : Hid (w_x_15.grownBy wt_18 (Value.slice (some ⟨g0, 0, none⟩) 1 1).ownBlock) := Lib.hid gt_18
  clear kt_18 gt_18
  have HBwt_18 := Lib.hid (Aid.grown_tr HBw_x_15.out Gt_18.out)
  replace kt_0_0__180 := cell_other kt_0_0__180 Gt_18.out (Apart.symm Dt_0_c0.out)
  replace kt_0_1__181 := cell_other kt_0_1__181 Gt_18.out (Apart.symm Dt_0_c0.out)
  replace kt_0_2__182 := cell_other kt_0_2__182 Gt_18.out (Apart.symm Dt_0_c0.out)
  replace kt_0_3__183 := cell_other kt_0_3__183 Gt_18.out (Apart.symm Dt_0_c0.out)
  replace kt_0_4__184 := cell_other kt_0_4__184 Gt_18.out (Apart.symm Dt_0_c0.out)
  replace kx_15_0 := cell_other kx_15_0 Gt_18.out (Apart.symm Dx_15_c0.out)
  replace kx_15_1 := cell_other kx_15_1 Gt_18.out (Apart.symm Dx_15_c0.out)
  replace kx_15_2 := cell_other kx_15_2 Gt_18.out (Apart.symm Dx_15_c0.out)
  replace kx_15_3 := cell_other kx_15_3 Gt_18.out (Apart.symm Dx_15_c0.out)
  replace kx_15_4 := cell_other kx_15_4 Gt_18.out (Apart.symm Dx_15_c0.out)
  replace Ot_0 := Lib.hid (own_other Ot_0.out Gt_18.out (Apart.symm Dt_0_c0.out))
  replace Ox_15 := Lib.hid (own_other Ox_15.out Gt_18.out (Apart.symm Dx_15_c0.out))
  replace Ot_3 := Lib.hid (own_other Ot_3.out Gt_18.out (Apart.symm Dt_3_c0.out))
  replace Ot_6 := Lib.hid (own_other Ot_6.out Gt_18.out (Apart.symm Dt_6_c0.out))
  replace Ot_9 := Lib.hid (own_other Ot_9.out Gt_18.out (Apart.symm Dt_9_c0.out))
  replace Ot_12 := Lib.hid (own_other Ot_12.out Gt_18.out (Apart.symm Dt_12_c0.out))
  clear Kt_13 Gt_18
  replace H := let_hid H
  obtain ⟨t_19, ht_19, H⟩ := H
  cases t_19 with
  | false =>
    replace H := ite_f H
    replace H := let_hid H
    obtain ⟨t_26, ht_26, H⟩ := H
    cases t_26 with
    | false =>
      replace H := ite_f H
      replace H := let_hid H
      obtain ⟨t_33, ht_33, H⟩ := H
      cases t_33 with
      | false =>
        replace H := ite_f H
        replace H := let_hid H
        obtain ⟨t_40, ht_40, H⟩ := H
        cases t_40 with
        | false =>
          replace H := ite_f H
          replace H := let_hid H
          obtain ⟨t_50, ht_50, H⟩ := H
          cases t_50 with
          | false =>
            replace H := ite_f H
            obtain ⟨wb55_55, hwb55_55⟩ : ∃ x, (((((wt_18).setCell ⟨w.heap.size, 0, none⟩ (.string name)).setCell ⟨w.heap.size, 1, none⟩ (.int .i64 t_4)).setCell ⟨w.heap.size, 2, none⟩ (.int .i64 t_7)).setCell ⟨w.heap.size, 3, none⟩ (.int .i64 t_10)).setCell ⟨w.heap.size, 4, none⟩ (.int .i64 t_13) = x := ⟨_, rfl⟩
            have z0b55_55 := Ot_0.out.frozenAt 0
            have z1b55_55 := Ot_0.out.frozenAt 1
            have z2b55_55 := Ot_0.out.frozenAt 2
            have z3b55_55 := Ot_0.out.frozenAt 3
            have z4b55_55 := Ot_0.out.frozenAt 4
            have Sb55_55 := Lib.hid (own_stores [(0, .string name), (1, .int .i64 t_4), (2, .int .i64 t_7), (3, .int .i64 t_10), (4, .int .i64 t_13)] Ot_0.out)
            have Pb55_55 : Hid (wb55_55.ownsRow w.heap.size 74 5 (.slice (some ⟨w.heap.size, 0, none⟩) 1 1) 1 [.string name, .int .i64 t_4, .int .i64 t_7, .int .i64 t_10, .int .i64 t_13]) := Lib.hid (by rw [← hwb55_55]; exact Sb55_55.out.1)
            have Gb55_55 : Hid (wt_18.grownBy wb55_55 (Value.slice (some ⟨w.heap.size, 0, none⟩) 1 1).ownBlock) := Lib.hid (by rw [← hwb55_55]; exact Sb55_55.out.2)
            have HBwb55_55 := Lib.hid (Go.Proofs.Ytkinlkmmelkdnaa.GoC.grown_new HBwt_18.out Gb55_55.out (Go.Proofs.Ytkinlkmmelkdnaa.GoC.own_ge Ot_0.out))
            clear Sb55_55
            have kx_15_0__185 := cell_other kx_15_0 Gb55_55.out (Apart.symm Dx_15_t_0.out)
            have kx_15_1__186 := cell_other kx_15_1 Gb55_55.out (Apart.symm Dx_15_t_0.out)
            have kx_15_2__187 := cell_other kx_15_2 Gb55_55.out (Apart.symm Dx_15_t_0.out)
            have kx_15_3__188 := cell_other kx_15_3 Gb55_55.out (Apart.symm Dx_15_t_0.out)
            have kx_15_4__189 := cell_other kx_15_4 Gb55_55.out (Apart.symm Dx_15_t_0.out)
            replace Ox_15 := Lib.hid (own_other Ox_15.out Gb55_55.out (Apart.symm Dx_15_t_0.out))
            replace Ot_3 := Lib.hid (own_other Ot_3.out Gb55_55.out (Apart.symm Dt_3_t_0.out))
            replace Ot_6 := Lib.hid (own_other Ot_6.out Gb55_55.out (Apart.symm Dt_6_t_0.out))
            replace Ot_9 := Lib.hid (own_other Ot_9.out Gb55_55.out (Apart.symm Dt_9_t_0.out))
            replace Ot_12 := Lib.hid (own_other Ot_12.out Gb55_55.out (Apart.symm Dt_12_t_0.out))
            replace Kt_18 := Lib.hid (Go.Proofs.Ytkinlkmmelkdnaa.GoC.cur_otherO Kt_18.out Gb55_55.out Dt_0_c0.out L0 Ot_0.out)
            clear Ot_0 Gb55_55
            have kt_0_0__190 : wb55_55.cell? ⟨w.heap.size, 0, none⟩ = some (.string name) := Pb55_55.out.cells rfl 0 _ rfl
            have kt_0_1__191 : wb55_55.cell? ⟨w.heap.size, 1, none⟩ = some (.int .i64 t_4) := Pb55_55.out.cells rfl 1 _ rfl
            have kt_0_2__192 : wb55_55.cell? ⟨w.heap.size, 2, none⟩ = some (.int .i64 t_7) := Pb55_55.out.cells rfl 2 _ rfl
            have kt_0_3__193 : wb55_55.cell? ⟨w.heap.size, 3, none⟩ = some (.int .i64 t_10) := Pb55_55.out.cells rfl 3 _ rfl
            have kt_0_4__194 : wb55_55.cell? ⟨w.heap.size, 4, none⟩ = some (.int .i64 t_13) := Pb55_55.out.cells rfl 4 _ rfl
            cases ret_hid H
            go_wp2_with fail
            (try simp only [Exit.inBlock, Exit.then])
            refine bodyPost_ret (v := .agg #[.string name, .int .i64 t_4, .int .i64 t_7, .int .i64 t_10, .int .i64 t_13]) ?hr_ ?hd_ ?_
            case hd_ => rfl
            case hr_ => simp [results, Try.results121, kt_0_0__190, kt_0_1__191, kt_0_2__192, kt_0_3__193, kt_0_4__194, go_sem]
            exact ⟨rfl, Kt_18.out, HBwb55_55.out⟩
          | true =>
            replace H := ite_t H
            obtain ⟨wb53_53, hwb53_53⟩ : ∃ x, (wt_18).setCell ⟨wt_13.heap.size, 4, none⟩ (.int .i64 101) = x := ⟨_, rfl⟩
            have z0b53_53 := Ox_15.out.frozenAt 4
            have Sb53_53 := Lib.hid (own_stores [(4, .int .i64 101)] Ox_15.out)
            have Pb53_53 : Hid (wb53_53.ownsRow w.heap.size 74 5 (.slice (some ⟨wt_13.heap.size, 0, none⟩) 1 1) 1 [.string name, .int .i64 t_4, .int .i64 t_7, .int .i64 t_10, .int .i64 101]) := Lib.hid (by rw [← hwb53_53]; exact Sb53_53.out.1)
            have Gb53_53 : Hid (wt_18.grownBy wb53_53 (Value.slice (some ⟨wt_13.heap.size, 0, none⟩) 1 1).ownBlock) := Lib.hid (by rw [← hwb53_53]; exact Sb53_53.out.2)
            have HBwb53_53 := Lib.hid (Go.Proofs.Ytkinlkmmelkdnaa.GoC.grown_new HBwt_18.out Gb53_53.out (Go.Proofs.Ytkinlkmmelkdnaa.GoC.own_ge Ox_15.out))
            clear Sb53_53
            have kt_0_0__195 := cell_other kt_0_0__180 Gb53_53.out Dx_15_t_0.out
            have kt_0_1__196 := cell_other kt_0_1__181 Gb53_53.out Dx_15_t_0.out
            have kt_0_2__197 := cell_other kt_0_2__182 Gb53_53.out Dx_15_t_0.out
            have kt_0_3__198 := cell_other kt_0_3__183 Gb53_53.out Dx_15_t_0.out
            have kt_0_4__199 := cell_other kt_0_4__184 Gb53_53.out Dx_15_t_0.out
            replace Ot_0 := Lib.hid (own_other Ot_0.out Gb53_53.out Dx_15_t_0.out)
            replace Ot_3 := Lib.hid (own_other Ot_3.out Gb53_53.out Dx_15_t_3.out)
            replace Ot_6 := Lib.hid (own_other Ot_6.out Gb53_53.out Dx_15_t_6.out)
            replace Ot_9 := Lib.hid (own_other Ot_9.out Gb53_53.out Dx_15_t_9.out)
            replace Ot_12 := Lib.hid (own_other Ot_12.out Gb53_53.out Dx_15_t_12.out)
            replace Kt_18 := Lib.hid (Go.Proofs.Ytkinlkmmelkdnaa.GoC.cur_otherO Kt_18.out Gb53_53.out Dx_15_c0.out L0 Ox_15.out)
            clear Ox_15 Gb53_53
            have kx_15_0__200 : wb53_53.cell? ⟨wt_13.heap.size, 0, none⟩ = some (.string name) := Pb53_53.out.cells rfl 0 _ rfl
            have kx_15_1__201 : wb53_53.cell? ⟨wt_13.heap.size, 1, none⟩ = some (.int .i64 t_4) := Pb53_53.out.cells rfl 1 _ rfl
            have kx_15_2__202 : wb53_53.cell? ⟨wt_13.heap.size, 2, none⟩ = some (.int .i64 t_7) := Pb53_53.out.cells rfl 2 _ rfl
            have kx_15_3__203 : wb53_53.cell? ⟨wt_13.heap.size, 3, none⟩ = some (.int .i64 t_10) := Pb53_53.out.cells rfl 3 _ rfl
            have kx_15_4__204 : wb53_53.cell? ⟨wt_13.heap.size, 4, none⟩ = some (.int .i64 101) := Pb53_53.out.cells rfl 4 _ rfl
            obtain ⟨wb55_55, hwb55_55⟩ : ∃ x, (((((wb53_53).setCell ⟨w.heap.size, 0, none⟩ (.string name)).setCell ⟨w.heap.size, 1, none⟩ (.int .i64 t_4)).setCell ⟨w.heap.size, 2, none⟩ (.int .i64 t_7)).setCell ⟨w.heap.size, 3, none⟩ (.int .i64 t_10)).setCell ⟨w.heap.size, 4, none⟩ (.int .i64 101) = x := ⟨_, rfl⟩
            have z0b55_55 := Ot_0.out.frozenAt 0
            have z1b55_55 := Ot_0.out.frozenAt 1
            have z2b55_55 := Ot_0.out.frozenAt 2
            have z3b55_55 := Ot_0.out.frozenAt 3
            have z4b55_55 := Ot_0.out.frozenAt 4
            have Sb55_55 := Lib.hid (own_stores [(0, .string name), (1, .int .i64 t_4), (2, .int .i64 t_7), (3, .int .i64 t_10), (4, .int .i64 101)] Ot_0.out)
            have Pb55_55 : Hid (wb55_55.ownsRow w.heap.size 74 5 (.slice (some ⟨w.heap.size, 0, none⟩) 1 1) 1 [.string name, .int .i64 t_4, .int .i64 t_7, .int .i64 t_10, .int .i64 101]) := Lib.hid (by rw [← hwb55_55]; exact Sb55_55.out.1)
            have Gb55_55 : Hid (wb53_53.grownBy wb55_55 (Value.slice (some ⟨w.heap.size, 0, none⟩) 1 1).ownBlock) := Lib.hid (by rw [← hwb55_55]; exact Sb55_55.out.2)
            have HBwb55_55 := Lib.hid (Go.Proofs.Ytkinlkmmelkdnaa.GoC.grown_new HBwb53_53.out Gb55_55.out (Go.Proofs.Ytkinlkmmelkdnaa.GoC.own_ge Ot_0.out))
            clear Sb55_55
            have kx_15_0__205 := cell_other kx_15_0__200 Gb55_55.out (Apart.symm Dx_15_t_0.out)
            have kx_15_1__206 := cell_other kx_15_1__201 Gb55_55.out (Apart.symm Dx_15_t_0.out)
            have kx_15_2__207 := cell_other kx_15_2__202 Gb55_55.out (Apart.symm Dx_15_t_0.out)
            have kx_15_3__208 := cell_other kx_15_3__203 Gb55_55.out (Apart.symm Dx_15_t_0.out)
            have kx_15_4__209 := cell_other kx_15_4__204 Gb55_55.out (Apart.symm Dx_15_t_0.out)
            replace Pb53_53 := Lib.hid (own_other Pb53_53.out Gb55_55.out (Apart.symm Dx_15_t_0.out))
            replace Ot_3 := Lib.hid (own_other Ot_3.out Gb55_55.out (Apart.symm Dt_3_t_0.out))
            replace Ot_6 := Lib.hid (own_other Ot_6.out Gb55_55.out (Apart.symm Dt_6_t_0.out))
            replace Ot_9 := Lib.hid (own_other Ot_9.out Gb55_55.out (Apart.symm Dt_9_t_0.out))
            replace Ot_12 := Lib.hid (own_other Ot_12.out Gb55_55.out (Apart.symm Dt_12_t_0.out))
            replace Kt_18 := Lib.hid (Go.Proofs.Ytkinlkmmelkdnaa.GoC.cur_otherO Kt_18.out Gb55_55.out Dt_0_c0.out L0 Ot_0.out)
            clear Ot_0 Gb55_55
            have kt_0_0__210 : wb55_55.cell? ⟨w.heap.size, 0, none⟩ = some (.string name) := Pb55_55.out.cells rfl 0 _ rfl
            have kt_0_1__211 : wb55_55.cell? ⟨w.heap.size, 1, none⟩ = some (.int .i64 t_4) := Pb55_55.out.cells rfl 1 _ rfl
            have kt_0_2__212 : wb55_55.cell? ⟨w.heap.size, 2, none⟩ = some (.int .i64 t_7) := Pb55_55.out.cells rfl 2 _ rfl
            have kt_0_3__213 : wb55_55.cell? ⟨w.heap.size, 3, none⟩ = some (.int .i64 t_10) := Pb55_55.out.cells rfl 3 _ rfl
            have kt_0_4__214 : wb55_55.cell? ⟨w.heap.size, 4, none⟩ = some (.int .i64 101) := Pb55_55.out.cells rfl 4 _ rfl
            cases ret_hid H
            go_wp2_with fail
            (try simp only [Exit.inBlock, Exit.then])
            refine bodyPost_ret (v := .agg #[.string name, .int .i64 t_4, .int .i64 t_7, .int .i64 t_10, .int .i64 101]) ?hr_ ?hd_ ?_
            case hd_ => rfl
            case hr_ => simp [results, Try.results121, kt_0_0__210, kt_0_1__211, kt_0_2__212, kt_0_3__213, kt_0_4__214, go_sem]
            exact ⟨rfl, Kt_18.out, HBwb55_55.out⟩
        | true =>
          replace H := ite_t H
          replace H := let_hid H
          obtain ⟨t_45, ht_45, H⟩ := H
          replace H := let_hid H
          obtain ⟨t_46, ht_46, H⟩ := H
          obtain ⟨w_t_46, hw_t_46⟩ : ∃ x, wt_18.alloc (.cells #[.int .i64 (-1), .int .i64 t_45] 3) = x := ⟨_, rfl⟩
          have bw_t_46 : Below wt_18.heap.size wt_18 w_t_46 := by rw [← hw_t_46]; exact (Below.refl _ _).alloc (Nat.le_refl _) _
          have hs_t_46 := HBwt_18.out.size
          have nt_46 : t_46.length = 2 := by rw [← ht_46]; rfl
          have Ot_46 : Hid (w_t_46.ownsRow w.heap.size 3 1 (.slice (some ⟨wt_18.heap.size, 0, none⟩) 2 2) 2 (Go.Proofs.Ytkinlkmmelkdnaa.HelpInt.iv t_46)) := by
            rw [← hw_t_46, ← ht_46]
            have e_ : ([.int .i64 (-1), .int .i64 t_45] : List Value) = (Go.Proofs.Ytkinlkmmelkdnaa.HelpInt.iv ([(-1), t_45] : List Int)) := rfl
            exact Lib.hid (own_laid (n := 2) hs_t_46 e_ rfl (by unfold maxLen; omega))
          clear hs_t_46
          have hht_46 := Lib.hid ht_46
          clear ht_46
          replace nt_46 := Lib.hid nt_46
          have Dt_46_t_3 := Lib.hid (apart_fresh Ot_3.out)
          have Dt_46_t_6 := Lib.hid (apart_fresh Ot_6.out)
          have Dt_46_t_9 := Lib.hid (apart_fresh Ot_9.out)
          have Dt_46_t_12 := Lib.hid (apart_fresh Ot_12.out)
          have Dt_46_c0 := Lib.hid (Go.Proofs.Ytkinlkmmelkdnaa.GoC.apart_cur Kt_18.out)
          have Dt_46_t_0 := Lib.hid (apart_box kt_0_0__180)
          have Dt_46_x_15 := Lib.hid (apart_box kx_15_0)
          have HBw_t_46 := Lib.hid (grown_below HBwt_18.out bw_t_46)
          have kt_0_0__215 := cell_below bw_t_46 kt_0_0__180
          have kt_0_1__216 := cell_below bw_t_46 kt_0_1__181
          have kt_0_2__217 := cell_below bw_t_46 kt_0_2__182
          have kt_0_3__218 := cell_below bw_t_46 kt_0_3__183
          have kt_0_4__219 := cell_below bw_t_46 kt_0_4__184
          have kx_15_0__220 := cell_below bw_t_46 kx_15_0
          have kx_15_1__221 := cell_below bw_t_46 kx_15_1
          have kx_15_2__222 := cell_below bw_t_46 kx_15_2
          have kx_15_3__223 := cell_below bw_t_46 kx_15_3
          have kx_15_4__224 := cell_below bw_t_46 kx_15_4
          replace Ot_3 := Lib.hid (own_below Ot_3.out bw_t_46)
          replace Ot_6 := Lib.hid (own_below Ot_6.out bw_t_46)
          replace Ot_9 := Lib.hid (own_below Ot_9.out bw_t_46)
          replace Ot_12 := Lib.hid (own_below Ot_12.out bw_t_46)
          replace Kt_18 := Lib.hid (Go.Proofs.Ytkinlkmmelkdnaa.GoC.cur_below Kt_18.out bw_t_46)
          replace Ot_0 := Lib.hid (own_below Ot_0.out bw_t_46)
          replace Ox_15 := Lib.hid (own_below Ox_15.out bw_t_46)
          clear bw_t_46
          replace H := bind2_hid H
          obtain ⟨t_47, t_47_tp, qt_47, H⟩ := H
          go_wp2_with fail
          clear kt_0_0__180 kt_0_1__181 kt_0_2__182 kt_0_3__183 kt_0_4__184 kx_15_0 kx_15_1 kx_15_2 kx_15_3 kx_15_4
          have hc_ := nt_46.out
          have hv_ : (Value.slice (some ⟨wt_18.heap.size, 0, none⟩) 2 2 : Value) = Value.slice (some ⟨wt_18.heap.size, 0, none⟩) t_46.length 2 := by rw [hc_]
          try rw [hv_]
          replace Ot_46 := Lib.hid (own_len hc_ Ot_46.out)
          clear hc_ hv_
          go_wp2_with fail
          go_at_call 97
          refine (Go.Proofs.Ytkinlkmmelkdnaa.GsL1CurAmong.C (t_18_tp) (t_46) (some ⟨wt_18.heap.size, 0, none⟩) 2 (g0) (Ac0) (cc0) (bc0) _   (Lib.hid (own_cells Ot_46.out)) (Lib.hid (own_max Ot_46.out)) Kt_18 (Lib.hid (fun _ => Dt_46_c0.out)) qt_47).mono ?_
          rintro e_t_47 wt_47 ⟨rfl, kt_47, gt_47⟩
          have Kt_47 := Lib.hid kt_47
          have Gt_47 : Hid (w_t_46.grownBy wt_47 (Value.slice (some ⟨g0, 0, none⟩) 1 1).ownBlock) := Lib.hid gt_47
          clear kt_47 gt_47
          have HBwt_47 := Lib.hid (Aid.grown_tr HBw_t_46.out Gt_47.out)
          replace kt_0_0__215 := cell_other kt_0_0__215 Gt_47.out (Apart.symm Dt_0_c0.out)
          replace kt_0_1__216 := cell_other kt_0_1__216 Gt_47.out (Apart.symm Dt_0_c0.out)
          replace kt_0_2__217 := cell_other kt_0_2__217 Gt_47.out (Apart.symm Dt_0_c0.out)
          replace kt_0_3__218 := cell_other kt_0_3__218 Gt_47.out (Apart.symm Dt_0_c0.out)
          replace kt_0_4__219 := cell_other kt_0_4__219 Gt_47.out (Apart.symm Dt_0_c0.out)
          replace kx_15_0__220 := cell_other kx_15_0__220 Gt_47.out (Apart.symm Dx_15_c0.out)
          replace kx_15_1__221 := cell_other kx_15_1__221 Gt_47.out (Apart.symm Dx_15_c0.out)
          replace kx_15_2__222 := cell_other kx_15_2__222 Gt_47.out (Apart.symm Dx_15_c0.out)
          replace kx_15_3__223 := cell_other kx_15_3__223 Gt_47.out (Apart.symm Dx_15_c0.out)
          replace kx_15_4__224 := cell_other kx_15_4__224 Gt_47.out (Apart.symm Dx_15_c0.out)
          replace Ot_0 := Lib.hid (own_other Ot_0.out Gt_47.out (Apart.symm Dt_0_c0.out))
          replace Ox_15 := Lib.hid (own_other Ox_15.out Gt_47.out (Apart.symm Dx_15_c0.out))
          replace Ot_3 := Lib.hid (own_other Ot_3.out Gt_47.out (Apart.symm Dt_3_c0.out))
          replace Ot_6 := Lib.hid (own_other Ot_6.out Gt_47.out (Apart.symm Dt_6_c0.out))
          replace Ot_9 := Lib.hid (own_other Ot_9.out Gt_47.out (Apart.symm Dt_9_c0.out))
          replace Ot_12 := Lib.hid (own_other Ot_12.out Gt_47.out (Apart.symm Dt_12_c0.out))
          replace Ot_46 := Lib.hid (own_other Ot_46.out Gt_47.out (Apart.symm Dt_46_c0.out))
          clear Kt_18 Gt_47
          obtain ⟨wb49_49, hwb49_49⟩ : ∃ x, (wt_47).setCell ⟨wt_13.heap.size, 3, none⟩ (.int .i64 t_47) = x := ⟨_, rfl⟩
          have z0b49_49 := Ox_15.out.frozenAt 3
          have Sb49_49 := Lib.hid (own_stores [(3, .int .i64 t_47)] Ox_15.out)
          have Pb49_49 : Hid (wb49_49.ownsRow w.heap.size 74 5 (.slice (some ⟨wt_13.heap.size, 0, none⟩) 1 1) 1 [.string name, .int .i64 t_4, .int .i64 t_7, .int .i64 t_47, .int .i64 t_13]) := Lib.hid (by rw [← hwb49_49]; exact Sb49_49.out.1)
          have Gb49_49 : Hid (wt_47.grownBy wb49_49 (Value.slice (some ⟨wt_13.heap.size, 0, none⟩) 1 1).ownBlock) := Lib.hid (by rw [← hwb49_49]; exact Sb49_49.out.2)
          have HBwb49_49 := Lib.hid (Go.Proofs.Ytkinlkmmelkdnaa.GoC.grown_new HBwt_47.out Gb49_49.out (Go.Proofs.Ytkinlkmmelkdnaa.GoC.own_ge Ox_15.out))
          clear Sb49_49
          have kt_0_0__225 := cell_other kt_0_0__215 Gb49_49.out Dx_15_t_0.out
          have kt_0_1__226 := cell_other kt_0_1__216 Gb49_49.out Dx_15_t_0.out
          have kt_0_2__227 := cell_other kt_0_2__217 Gb49_49.out Dx_15_t_0.out
          have kt_0_3__228 := cell_other kt_0_3__218 Gb49_49.out Dx_15_t_0.out
          have kt_0_4__229 := cell_other kt_0_4__219 Gb49_49.out Dx_15_t_0.out
          replace Ot_0 := Lib.hid (own_other Ot_0.out Gb49_49.out Dx_15_t_0.out)
          replace Ot_3 := Lib.hid (own_other Ot_3.out Gb49_49.out Dx_15_t_3.out)
          replace Ot_6 := Lib.hid (own_other Ot_6.out Gb49_49.out Dx_15_t_6.out)
          replace Ot_9 := Lib.hid (own_other Ot_9.out Gb49_49.out Dx_15_t_9.out)
          replace Ot_12 := Lib.hid (own_other Ot_12.out Gb49_49.out Dx_15_t_12.out)
          replace Ot_46 := Lib.hid (own_other Ot_46.out Gb49_49.out (Apart.symm Dt_46_x_15.out))
          replace Kt_47 := Lib.hid (Go.Proofs.Ytkinlkmmelkdnaa.GoC.cur_otherO Kt_47.out Gb49_49.out Dx_15_c0.out L0 Ox_15.out)
          clear Ox_15 Gb49_49
          have kx_15_0__230 : wb49_49.cell? ⟨wt_13.heap.size, 0, none⟩ = some (.string name) := Pb49_49.out.cells rfl 0 _ rfl
          have kx_15_1__231 : wb49_49.cell? ⟨wt_13.heap.size, 1, none⟩ = some (.int .i64 t_4) := Pb49_49.out.cells rfl 1 _ rfl
          have kx_15_2__232 : wb49_49.cell? ⟨wt_13.heap.size, 2, none⟩ = some (.int .i64 t_7) := Pb49_49.out.cells rfl 2 _ rfl
          have kx_15_3__233 : wb49_49.cell? ⟨wt_13.heap.size, 3, none⟩ = some (.int .i64 t_47) := Pb49_49.out.cells rfl 3 _ rfl
          have kx_15_4__234 : wb49_49.cell? ⟨wt_13.heap.size, 4, none⟩ = some (.int .i64 t_13) := Pb49_49.out.cells rfl 4 _ rfl
          obtain ⟨wb55_55, hwb55_55⟩ : ∃ x, (((((wb49_49).setCell ⟨w.heap.size, 0, none⟩ (.string name)).setCell ⟨w.heap.size, 1, none⟩ (.int .i64 t_4)).setCell ⟨w.heap.size, 2, none⟩ (.int .i64 t_7)).setCell ⟨w.heap.size, 3, none⟩ (.int .i64 t_47)).setCell ⟨w.heap.size, 4, none⟩ (.int .i64 t_13) = x := ⟨_, rfl⟩
          have z0b55_55 := Ot_0.out.frozenAt 0
          have z1b55_55 := Ot_0.out.frozenAt 1
          have z2b55_55 := Ot_0.out.frozenAt 2
          have z3b55_55 := Ot_0.out.frozenAt 3
          have z4b55_55 := Ot_0.out.frozenAt 4
          have Sb55_55 := Lib.hid (own_stores [(0, .string name), (1, .int .i64 t_4), (2, .int .i64 t_7), (3, .int .i64 t_47), (4, .int .i64 t_13)] Ot_0.out)
          have Pb55_55 : Hid (wb55_55.ownsRow w.heap.size 74 5 (.slice (some ⟨w.heap.size, 0, none⟩) 1 1) 1 [.string name, .int .i64 t_4, .int .i64 t_7, .int .i64 t_47, .int .i64 t_13]) := Lib.hid (by rw [← hwb55_55]; exact Sb55_55.out.1)
          have Gb55_55 : Hid (wb49_49.grownBy wb55_55 (Value.slice (some ⟨w.heap.size, 0, none⟩) 1 1).ownBlock) := Lib.hid (by rw [← hwb55_55]; exact Sb55_55.out.2)
          have HBwb55_55 := Lib.hid (Go.Proofs.Ytkinlkmmelkdnaa.GoC.grown_new HBwb49_49.out Gb55_55.out (Go.Proofs.Ytkinlkmmelkdnaa.GoC.own_ge Ot_0.out))
          clear Sb55_55
          have kx_15_0__235 := cell_other kx_15_0__230 Gb55_55.out (Apart.symm Dx_15_t_0.out)
          have kx_15_1__236 := cell_other kx_15_1__231 Gb55_55.out (Apart.symm Dx_15_t_0.out)
          have kx_15_2__237 := cell_other kx_15_2__232 Gb55_55.out (Apart.symm Dx_15_t_0.out)
          have kx_15_3__238 := cell_other kx_15_3__233 Gb55_55.out (Apart.symm Dx_15_t_0.out)
          have kx_15_4__239 := cell_other kx_15_4__234 Gb55_55.out (Apart.symm Dx_15_t_0.out)
          replace Pb49_49 := Lib.hid (own_other Pb49_49.out Gb55_55.out (Apart.symm Dx_15_t_0.out))
          replace Ot_3 := Lib.hid (own_other Ot_3.out Gb55_55.out (Apart.symm Dt_3_t_0.out))
          replace Ot_6 := Lib.hid (own_other Ot_6.out Gb55_55.out (Apart.symm Dt_6_t_0.out))
          replace Ot_9 := Lib.hid (own_other Ot_9.out Gb55_55.out (Apart.symm Dt_9_t_0.out))
          replace Ot_12 := Lib.hid (own_other Ot_12.out Gb55_55.out (Apart.symm Dt_12_t_0.out))
          replace Ot_46 := Lib.hid (own_other Ot_46.out Gb55_55.out (Apart.symm Dt_46_t_0.out))
          replace Kt_47 := Lib.hid (Go.Proofs.Ytkinlkmmelkdnaa.GoC.cur_otherO Kt_47.out Gb55_55.out Dt_0_c0.out L0 Ot_0.out)
          clear Ot_0 Gb55_55
          have kt_0_0__240 : wb55_55.cell? ⟨w.heap.size, 0, none⟩ = some (.string name) := Pb55_55.out.cells rfl 0 _ rfl
          have kt_0_1__241 : wb55_55.cell? ⟨w.heap.size, 1, none⟩ = some (.int .i64 t_4) := Pb55_55.out.cells rfl 1 _ rfl
          have kt_0_2__242 : wb55_55.cell? ⟨w.heap.size, 2, none⟩ = some (.int .i64 t_7) := Pb55_55.out.cells rfl 2 _ rfl
          have kt_0_3__243 : wb55_55.cell? ⟨w.heap.size, 3, none⟩ = some (.int .i64 t_47) := Pb55_55.out.cells rfl 3 _ rfl
          have kt_0_4__244 : wb55_55.cell? ⟨w.heap.size, 4, none⟩ = some (.int .i64 t_13) := Pb55_55.out.cells rfl 4 _ rfl
          cases ret_hid H
          go_wp2_with fail
          (try simp only [Exit.inBlock, Exit.then])
          refine bodyPost_ret (v := .agg #[.string name, .int .i64 t_4, .int .i64 t_7, .int .i64 t_47, .int .i64 t_13]) ?hr_ ?hd_ ?_
          case hd_ => rfl
          case hr_ => simp [results, Try.results121, kt_0_0__240, kt_0_1__241, kt_0_2__242, kt_0_3__243, kt_0_4__244, go_sem]
          exact ⟨rfl, Kt_47.out, HBwb55_55.out⟩
      | true =>
        replace H := ite_t H
        replace H := let_hid H
        obtain ⟨t_36, ht_36, H⟩ := H
        obtain ⟨w_t_36, hw_t_36⟩ : ∃ x, wt_18.alloc (.cells #[.int .i64 (-1), .int .i64 180] 3) = x := ⟨_, rfl⟩
        have bw_t_36 : Below wt_18.heap.size wt_18 w_t_36 := by rw [← hw_t_36]; exact (Below.refl _ _).alloc (Nat.le_refl _) _
        have hs_t_36 := HBwt_18.out.size
        have nt_36 : t_36.length = 2 := by rw [← ht_36]; rfl
        have Ot_36 : Hid (w_t_36.ownsRow w.heap.size 3 1 (.slice (some ⟨wt_18.heap.size, 0, none⟩) 2 2) 2 (Go.Proofs.Ytkinlkmmelkdnaa.HelpInt.iv t_36)) := by
          rw [← hw_t_36, ← ht_36]
          have e_ : ([.int .i64 (-1), .int .i64 180] : List Value) = (Go.Proofs.Ytkinlkmmelkdnaa.HelpInt.iv ([(-1), 180] : List Int)) := rfl
          exact Lib.hid (own_laid (n := 2) hs_t_36 e_ rfl (by unfold maxLen; omega))
        clear hs_t_36
        have hht_36 := Lib.hid ht_36
        clear ht_36
        replace nt_36 := Lib.hid nt_36
        have Dt_36_t_3 := Lib.hid (apart_fresh Ot_3.out)
        have Dt_36_t_6 := Lib.hid (apart_fresh Ot_6.out)
        have Dt_36_t_9 := Lib.hid (apart_fresh Ot_9.out)
        have Dt_36_t_12 := Lib.hid (apart_fresh Ot_12.out)
        have Dt_36_c0 := Lib.hid (Go.Proofs.Ytkinlkmmelkdnaa.GoC.apart_cur Kt_18.out)
        have Dt_36_t_0 := Lib.hid (apart_box kt_0_0__180)
        have Dt_36_x_15 := Lib.hid (apart_box kx_15_0)
        have HBw_t_36 := Lib.hid (grown_below HBwt_18.out bw_t_36)
        have kt_0_0__245 := cell_below bw_t_36 kt_0_0__180
        have kt_0_1__246 := cell_below bw_t_36 kt_0_1__181
        have kt_0_2__247 := cell_below bw_t_36 kt_0_2__182
        have kt_0_3__248 := cell_below bw_t_36 kt_0_3__183
        have kt_0_4__249 := cell_below bw_t_36 kt_0_4__184
        have kx_15_0__250 := cell_below bw_t_36 kx_15_0
        have kx_15_1__251 := cell_below bw_t_36 kx_15_1
        have kx_15_2__252 := cell_below bw_t_36 kx_15_2
        have kx_15_3__253 := cell_below bw_t_36 kx_15_3
        have kx_15_4__254 := cell_below bw_t_36 kx_15_4
        replace Ot_3 := Lib.hid (own_below Ot_3.out bw_t_36)
        replace Ot_6 := Lib.hid (own_below Ot_6.out bw_t_36)
        replace Ot_9 := Lib.hid (own_below Ot_9.out bw_t_36)
        replace Ot_12 := Lib.hid (own_below Ot_12.out bw_t_36)
        replace Kt_18 := Lib.hid (Go.Proofs.Ytkinlkmmelkdnaa.GoC.cur_below Kt_18.out bw_t_36)
        replace Ot_0 := Lib.hid (own_below Ot_0.out bw_t_36)
        replace Ox_15 := Lib.hid (own_below Ox_15.out bw_t_36)
        clear bw_t_36
        replace H := bind2_hid H
        obtain ⟨t_37, t_37_tp, qt_37, H⟩ := H
        go_wp2_with fail
        clear kt_0_0__180 kt_0_1__181 kt_0_2__182 kt_0_3__183 kt_0_4__184 kx_15_0 kx_15_1 kx_15_2 kx_15_3 kx_15_4
        have hc_ := nt_36.out
        have hv_ : (Value.slice (some ⟨wt_18.heap.size, 0, none⟩) 2 2 : Value) = Value.slice (some ⟨wt_18.heap.size, 0, none⟩) t_36.length 2 := by rw [hc_]
        try rw [hv_]
        replace Ot_36 := Lib.hid (own_len hc_ Ot_36.out)
        clear hc_ hv_
        go_wp2_with fail
        go_at_call 97
        refine (Go.Proofs.Ytkinlkmmelkdnaa.GsL1CurAmong.C (t_18_tp) (t_36) (some ⟨wt_18.heap.size, 0, none⟩) 2 (g0) (Ac0) (cc0) (bc0) _   (Lib.hid (own_cells Ot_36.out)) (Lib.hid (own_max Ot_36.out)) Kt_18 (Lib.hid (fun _ => Dt_36_c0.out)) qt_37).mono ?_
        rintro e_t_37 wt_37 ⟨rfl, kt_37, gt_37⟩
        have Kt_37 := Lib.hid kt_37
        have Gt_37 : Hid (w_t_36.grownBy wt_37 (Value.slice (some ⟨g0, 0, none⟩) 1 1).ownBlock) := Lib.hid gt_37
        clear kt_37 gt_37
        have HBwt_37 := Lib.hid (Aid.grown_tr HBw_t_36.out Gt_37.out)
        replace kt_0_0__245 := cell_other kt_0_0__245 Gt_37.out (Apart.symm Dt_0_c0.out)
        replace kt_0_1__246 := cell_other kt_0_1__246 Gt_37.out (Apart.symm Dt_0_c0.out)
        replace kt_0_2__247 := cell_other kt_0_2__247 Gt_37.out (Apart.symm Dt_0_c0.out)
        replace kt_0_3__248 := cell_other kt_0_3__248 Gt_37.out (Apart.symm Dt_0_c0.out)
        replace kt_0_4__249 := cell_other kt_0_4__249 Gt_37.out (Apart.symm Dt_0_c0.out)
        replace kx_15_0__250 := cell_other kx_15_0__250 Gt_37.out (Apart.symm Dx_15_c0.out)
        replace kx_15_1__251 := cell_other kx_15_1__251 Gt_37.out (Apart.symm Dx_15_c0.out)
        replace kx_15_2__252 := cell_other kx_15_2__252 Gt_37.out (Apart.symm Dx_15_c0.out)
        replace kx_15_3__253 := cell_other kx_15_3__253 Gt_37.out (Apart.symm Dx_15_c0.out)
        replace kx_15_4__254 := cell_other kx_15_4__254 Gt_37.out (Apart.symm Dx_15_c0.out)
        replace Ot_0 := Lib.hid (own_other Ot_0.out Gt_37.out (Apart.symm Dt_0_c0.out))
        replace Ox_15 := Lib.hid (own_other Ox_15.out Gt_37.out (Apart.symm Dx_15_c0.out))
        replace Ot_3 := Lib.hid (own_other Ot_3.out Gt_37.out (Apart.symm Dt_3_c0.out))
        replace Ot_6 := Lib.hid (own_other Ot_6.out Gt_37.out (Apart.symm Dt_6_c0.out))
        replace Ot_9 := Lib.hid (own_other Ot_9.out Gt_37.out (Apart.symm Dt_9_c0.out))
        replace Ot_12 := Lib.hid (own_other Ot_12.out Gt_37.out (Apart.symm Dt_12_c0.out))
        replace Ot_36 := Lib.hid (own_other Ot_36.out Gt_37.out (Apart.symm Dt_36_c0.out))
        clear Kt_18 Gt_37
        obtain ⟨wb39_39, hwb39_39⟩ : ∃ x, (wt_37).setCell ⟨wt_13.heap.size, 2, none⟩ (.int .i64 t_37) = x := ⟨_, rfl⟩
        have z0b39_39 := Ox_15.out.frozenAt 2
        have Sb39_39 := Lib.hid (own_stores [(2, .int .i64 t_37)] Ox_15.out)
        have Pb39_39 : Hid (wb39_39.ownsRow w.heap.size 74 5 (.slice (some ⟨wt_13.heap.size, 0, none⟩) 1 1) 1 [.string name, .int .i64 t_4, .int .i64 t_37, .int .i64 t_10, .int .i64 t_13]) := Lib.hid (by rw [← hwb39_39]; exact Sb39_39.out.1)
        have Gb39_39 : Hid (wt_37.grownBy wb39_39 (Value.slice (some ⟨wt_13.heap.size, 0, none⟩) 1 1).ownBlock) := Lib.hid (by rw [← hwb39_39]; exact Sb39_39.out.2)
        have HBwb39_39 := Lib.hid (Go.Proofs.Ytkinlkmmelkdnaa.GoC.grown_new HBwt_37.out Gb39_39.out (Go.Proofs.Ytkinlkmmelkdnaa.GoC.own_ge Ox_15.out))
        clear Sb39_39
        have kt_0_0__255 := cell_other kt_0_0__245 Gb39_39.out Dx_15_t_0.out
        have kt_0_1__256 := cell_other kt_0_1__246 Gb39_39.out Dx_15_t_0.out
        have kt_0_2__257 := cell_other kt_0_2__247 Gb39_39.out Dx_15_t_0.out
        have kt_0_3__258 := cell_other kt_0_3__248 Gb39_39.out Dx_15_t_0.out
        have kt_0_4__259 := cell_other kt_0_4__249 Gb39_39.out Dx_15_t_0.out
        replace Ot_0 := Lib.hid (own_other Ot_0.out Gb39_39.out Dx_15_t_0.out)
        replace Ot_3 := Lib.hid (own_other Ot_3.out Gb39_39.out Dx_15_t_3.out)
        replace Ot_6 := Lib.hid (own_other Ot_6.out Gb39_39.out Dx_15_t_6.out)
        replace Ot_9 := Lib.hid (own_other Ot_9.out Gb39_39.out Dx_15_t_9.out)
        replace Ot_12 := Lib.hid (own_other Ot_12.out Gb39_39.out Dx_15_t_12.out)
        replace Ot_36 := Lib.hid (own_other Ot_36.out Gb39_39.out (Apart.symm Dt_36_x_15.out))
        replace Kt_37 := Lib.hid (Go.Proofs.Ytkinlkmmelkdnaa.GoC.cur_otherO Kt_37.out Gb39_39.out Dx_15_c0.out L0 Ox_15.out)
        clear Ox_15 Gb39_39
        have kx_15_0__260 : wb39_39.cell? ⟨wt_13.heap.size, 0, none⟩ = some (.string name) := Pb39_39.out.cells rfl 0 _ rfl
        have kx_15_1__261 : wb39_39.cell? ⟨wt_13.heap.size, 1, none⟩ = some (.int .i64 t_4) := Pb39_39.out.cells rfl 1 _ rfl
        have kx_15_2__262 : wb39_39.cell? ⟨wt_13.heap.size, 2, none⟩ = some (.int .i64 t_37) := Pb39_39.out.cells rfl 2 _ rfl
        have kx_15_3__263 : wb39_39.cell? ⟨wt_13.heap.size, 3, none⟩ = some (.int .i64 t_10) := Pb39_39.out.cells rfl 3 _ rfl
        have kx_15_4__264 : wb39_39.cell? ⟨wt_13.heap.size, 4, none⟩ = some (.int .i64 t_13) := Pb39_39.out.cells rfl 4 _ rfl
        obtain ⟨wb55_55, hwb55_55⟩ : ∃ x, (((((wb39_39).setCell ⟨w.heap.size, 0, none⟩ (.string name)).setCell ⟨w.heap.size, 1, none⟩ (.int .i64 t_4)).setCell ⟨w.heap.size, 2, none⟩ (.int .i64 t_37)).setCell ⟨w.heap.size, 3, none⟩ (.int .i64 t_10)).setCell ⟨w.heap.size, 4, none⟩ (.int .i64 t_13) = x := ⟨_, rfl⟩
        have z0b55_55 := Ot_0.out.frozenAt 0
        have z1b55_55 := Ot_0.out.frozenAt 1
        have z2b55_55 := Ot_0.out.frozenAt 2
        have z3b55_55 := Ot_0.out.frozenAt 3
        have z4b55_55 := Ot_0.out.frozenAt 4
        have Sb55_55 := Lib.hid (own_stores [(0, .string name), (1, .int .i64 t_4), (2, .int .i64 t_37), (3, .int .i64 t_10), (4, .int .i64 t_13)] Ot_0.out)
        have Pb55_55 : Hid (wb55_55.ownsRow w.heap.size 74 5 (.slice (some ⟨w.heap.size, 0, none⟩) 1 1) 1 [.string name, .int .i64 t_4, .int .i64 t_37, .int .i64 t_10, .int .i64 t_13]) := Lib.hid (by rw [← hwb55_55]; exact Sb55_55.out.1)
        have Gb55_55 : Hid (wb39_39.grownBy wb55_55 (Value.slice (some ⟨w.heap.size, 0, none⟩) 1 1).ownBlock) := Lib.hid (by rw [← hwb55_55]; exact Sb55_55.out.2)
        have HBwb55_55 := Lib.hid (Go.Proofs.Ytkinlkmmelkdnaa.GoC.grown_new HBwb39_39.out Gb55_55.out (Go.Proofs.Ytkinlkmmelkdnaa.GoC.own_ge Ot_0.out))
        clear Sb55_55
        have kx_15_0__265 := cell_other kx_15_0__260 Gb55_55.out (Apart.symm Dx_15_t_0.out)
        have kx_15_1__266 := cell_other kx_15_1__261 Gb55_55.out (Apart.symm Dx_15_t_0.out)
        have kx_15_2__267 := cell_other kx_15_2__262 Gb55_55.out (Apart.symm Dx_15_t_0.out)
        have kx_15_3__268 := cell_other kx_15_3__263 Gb55_55.out (Apart.symm Dx_15_t_0.out)
        have kx_15_4__269 := cell_other kx_15_4__264 Gb55_55.out (Apart.symm Dx_15_t_0.out)
        replace Pb39_39 := Lib.hid (own_other Pb39_39.out Gb55_55.out (Apart.symm Dx_15_t_0.out))
        replace Ot_3 := Lib.hid (own_other Ot_3.out Gb55_55.out (Apart.symm Dt_3_t_0.out))
        replace Ot_6 := Lib.hid (own_other Ot_6.out Gb55_55.out (Apart.symm Dt_6_t_0.out))
        replace Ot_9 := Lib.hid (own_other Ot_9.out Gb55_55.out (Apart.symm Dt_9_t_0.out))
        replace Ot_12 := Lib.hid (own_other Ot_12.out Gb55_55.out (Apart.symm Dt_12_t_0.out))
        replace Ot_36 := Lib.hid (own_other Ot_36.out Gb55_55.out (Apart.symm Dt_36_t_0.out))
        replace Kt_37 := Lib.hid (Go.Proofs.Ytkinlkmmelkdnaa.GoC.cur_otherO Kt_37.out Gb55_55.out Dt_0_c0.out L0 Ot_0.out)
        clear Ot_0 Gb55_55
        have kt_0_0__270 : wb55_55.cell? ⟨w.heap.size, 0, none⟩ = some (.string name) := Pb55_55.out.cells rfl 0 _ rfl
        have kt_0_1__271 : wb55_55.cell? ⟨w.heap.size, 1, none⟩ = some (.int .i64 t_4) := Pb55_55.out.cells rfl 1 _ rfl
        have kt_0_2__272 : wb55_55.cell? ⟨w.heap.size, 2, none⟩ = some (.int .i64 t_37) := Pb55_55.out.cells rfl 2 _ rfl
        have kt_0_3__273 : wb55_55.cell? ⟨w.heap.size, 3, none⟩ = some (.int .i64 t_10) := Pb55_55.out.cells rfl 3 _ rfl
        have kt_0_4__274 : wb55_55.cell? ⟨w.heap.size, 4, none⟩ = some (.int .i64 t_13) := Pb55_55.out.cells rfl 4 _ rfl
        cases ret_hid H
        go_wp2_with fail
        (try simp only [Exit.inBlock, Exit.then])
        refine bodyPost_ret (v := .agg #[.string name, .int .i64 t_4, .int .i64 t_37, .int .i64 t_10, .int .i64 t_13]) ?hr_ ?hd_ ?_
        case hd_ => rfl
        case hr_ => simp [results, Try.results121, kt_0_0__270, kt_0_1__271, kt_0_2__272, kt_0_3__273, kt_0_4__274, go_sem]
        exact ⟨rfl, Kt_37.out, HBwb55_55.out⟩
    | true =>
      replace H := ite_t H
      replace H := let_hid H
      obtain ⟨t_29, ht_29, H⟩ := H
      obtain ⟨w_t_29, hw_t_29⟩ : ∃ x, wt_18.alloc (.cells #[.int .i64 (-1), .int .i64 360] 3) = x := ⟨_, rfl⟩
      have bw_t_29 : Below wt_18.heap.size wt_18 w_t_29 := by rw [← hw_t_29]; exact (Below.refl _ _).alloc (Nat.le_refl _) _
      have hs_t_29 := HBwt_18.out.size
      have nt_29 : t_29.length = 2 := by rw [← ht_29]; rfl
      have Ot_29 : Hid (w_t_29.ownsRow w.heap.size 3 1 (.slice (some ⟨wt_18.heap.size, 0, none⟩) 2 2) 2 (Go.Proofs.Ytkinlkmmelkdnaa.HelpInt.iv t_29)) := by
        rw [← hw_t_29, ← ht_29]
        have e_ : ([.int .i64 (-1), .int .i64 360] : List Value) = (Go.Proofs.Ytkinlkmmelkdnaa.HelpInt.iv ([(-1), 360] : List Int)) := rfl
        exact Lib.hid (own_laid (n := 2) hs_t_29 e_ rfl (by unfold maxLen; omega))
      clear hs_t_29
      have hht_29 := Lib.hid ht_29
      clear ht_29
      replace nt_29 := Lib.hid nt_29
      have Dt_29_t_3 := Lib.hid (apart_fresh Ot_3.out)
      have Dt_29_t_6 := Lib.hid (apart_fresh Ot_6.out)
      have Dt_29_t_9 := Lib.hid (apart_fresh Ot_9.out)
      have Dt_29_t_12 := Lib.hid (apart_fresh Ot_12.out)
      have Dt_29_c0 := Lib.hid (Go.Proofs.Ytkinlkmmelkdnaa.GoC.apart_cur Kt_18.out)
      have Dt_29_t_0 := Lib.hid (apart_box kt_0_0__180)
      have Dt_29_x_15 := Lib.hid (apart_box kx_15_0)
      have HBw_t_29 := Lib.hid (grown_below HBwt_18.out bw_t_29)
      have kt_0_0__275 := cell_below bw_t_29 kt_0_0__180
      have kt_0_1__276 := cell_below bw_t_29 kt_0_1__181
      have kt_0_2__277 := cell_below bw_t_29 kt_0_2__182
      have kt_0_3__278 := cell_below bw_t_29 kt_0_3__183
      have kt_0_4__279 := cell_below bw_t_29 kt_0_4__184
      have kx_15_0__280 := cell_below bw_t_29 kx_15_0
      have kx_15_1__281 := cell_below bw_t_29 kx_15_1
      have kx_15_2__282 := cell_below bw_t_29 kx_15_2
      have kx_15_3__283 := cell_below bw_t_29 kx_15_3
      have kx_15_4__284 := cell_below bw_t_29 kx_15_4
      replace Ot_3 := Lib.hid (own_below Ot_3.out bw_t_29)
      replace Ot_6 := Lib.hid (own_below Ot_6.out bw_t_29)
      replace Ot_9 := Lib.hid (own_below Ot_9.out bw_t_29)
      replace Ot_12 := Lib.hid (own_below Ot_12.out bw_t_29)
      replace Kt_18 := Lib.hid (Go.Proofs.Ytkinlkmmelkdnaa.GoC.cur_below Kt_18.out bw_t_29)
      replace Ot_0 := Lib.hid (own_below Ot_0.out bw_t_29)
      replace Ox_15 := Lib.hid (own_below Ox_15.out bw_t_29)
      clear bw_t_29
      replace H := bind2_hid H
      obtain ⟨t_30, t_30_tp, qt_30, H⟩ := H
      go_wp2_with fail
      clear kt_0_0__180 kt_0_1__181 kt_0_2__182 kt_0_3__183 kt_0_4__184 kx_15_0 kx_15_1 kx_15_2 kx_15_3 kx_15_4
      have hc_ := nt_29.out
      have hv_ : (Value.slice (some ⟨wt_18.heap.size, 0, none⟩) 2 2 : Value) = Value.slice (some ⟨wt_18.heap.size, 0, none⟩) t_29.length 2 := by rw [hc_]
      try rw [hv_]
      replace Ot_29 := Lib.hid (own_len hc_ Ot_29.out)
      clear hc_ hv_
      go_wp2_with fail
      go_at_call 97
      refine (Go.Proofs.Ytkinlkmmelkdnaa.GsL1CurAmong.C (t_18_tp) (t_29) (some ⟨wt_18.heap.size, 0, none⟩) 2 (g0) (Ac0) (cc0) (bc0) _   (Lib.hid (own_cells Ot_29.out)) (Lib.hid (own_max Ot_29.out)) Kt_18 (Lib.hid (fun _ => Dt_29_c0.out)) qt_30).mono ?_
      rintro e_t_30 wt_30 ⟨rfl, kt_30, gt_30⟩
      have Kt_30 := Lib.hid kt_30
      have Gt_30 : Hid (w_t_29.grownBy wt_30 (Value.slice (some ⟨g0, 0, none⟩) 1 1).ownBlock) := Lib.hid gt_30
      clear kt_30 gt_30
      have HBwt_30 := Lib.hid (Aid.grown_tr HBw_t_29.out Gt_30.out)
      replace kt_0_0__275 := cell_other kt_0_0__275 Gt_30.out (Apart.symm Dt_0_c0.out)
      replace kt_0_1__276 := cell_other kt_0_1__276 Gt_30.out (Apart.symm Dt_0_c0.out)
      replace kt_0_2__277 := cell_other kt_0_2__277 Gt_30.out (Apart.symm Dt_0_c0.out)
      replace kt_0_3__278 := cell_other kt_0_3__278 Gt_30.out (Apart.symm Dt_0_c0.out)
      replace kt_0_4__279 := cell_other kt_0_4__279 Gt_30.out (Apart.symm Dt_0_c0.out)
      replace kx_15_0__280 := cell_other kx_15_0__280 Gt_30.out (Apart.symm Dx_15_c0.out)
      replace kx_15_1__281 := cell_other kx_15_1__281 Gt_30.out (Apart.symm Dx_15_c0.out)
      replace kx_15_2__282 := cell_other kx_15_2__282 Gt_30.out (Apart.symm Dx_15_c0.out)
      replace kx_15_3__283 := cell_other kx_15_3__283 Gt_30.out (Apart.symm Dx_15_c0.out)
      replace kx_15_4__284 := cell_other kx_15_4__284 Gt_30.out (Apart.symm Dx_15_c0.out)
      replace Ot_0 := Lib.hid (own_other Ot_0.out Gt_30.out (Apart.symm Dt_0_c0.out))
      replace Ox_15 := Lib.hid (own_other Ox_15.out Gt_30.out (Apart.symm Dx_15_c0.out))
      replace Ot_3 := Lib.hid (own_other Ot_3.out Gt_30.out (Apart.symm Dt_3_c0.out))
      replace Ot_6 := Lib.hid (own_other Ot_6.out Gt_30.out (Apart.symm Dt_6_c0.out))
      replace Ot_9 := Lib.hid (own_other Ot_9.out Gt_30.out (Apart.symm Dt_9_c0.out))
      replace Ot_12 := Lib.hid (own_other Ot_12.out Gt_30.out (Apart.symm Dt_12_c0.out))
      replace Ot_29 := Lib.hid (own_other Ot_29.out Gt_30.out (Apart.symm Dt_29_c0.out))
      clear Kt_18 Gt_30
      obtain ⟨wb32_32, hwb32_32⟩ : ∃ x, (wt_30).setCell ⟨wt_13.heap.size, 1, none⟩ (.int .i64 t_30) = x := ⟨_, rfl⟩
      have z0b32_32 := Ox_15.out.frozenAt 1
      have Sb32_32 := Lib.hid (own_stores [(1, .int .i64 t_30)] Ox_15.out)
      have Pb32_32 : Hid (wb32_32.ownsRow w.heap.size 74 5 (.slice (some ⟨wt_13.heap.size, 0, none⟩) 1 1) 1 [.string name, .int .i64 t_30, .int .i64 t_7, .int .i64 t_10, .int .i64 t_13]) := Lib.hid (by rw [← hwb32_32]; exact Sb32_32.out.1)
      have Gb32_32 : Hid (wt_30.grownBy wb32_32 (Value.slice (some ⟨wt_13.heap.size, 0, none⟩) 1 1).ownBlock) := Lib.hid (by rw [← hwb32_32]; exact Sb32_32.out.2)
      have HBwb32_32 := Lib.hid (Go.Proofs.Ytkinlkmmelkdnaa.GoC.grown_new HBwt_30.out Gb32_32.out (Go.Proofs.Ytkinlkmmelkdnaa.GoC.own_ge Ox_15.out))
      clear Sb32_32
      have kt_0_0__285 := cell_other kt_0_0__275 Gb32_32.out Dx_15_t_0.out
      have kt_0_1__286 := cell_other kt_0_1__276 Gb32_32.out Dx_15_t_0.out
      have kt_0_2__287 := cell_other kt_0_2__277 Gb32_32.out Dx_15_t_0.out
      have kt_0_3__288 := cell_other kt_0_3__278 Gb32_32.out Dx_15_t_0.out
      have kt_0_4__289 := cell_other kt_0_4__279 Gb32_32.out Dx_15_t_0.out
      replace Ot_0 := Lib.hid (own_other Ot_0.out Gb32_32.out Dx_15_t_0.out)
      replace Ot_3 := Lib.hid (own_other Ot_3.out Gb32_32.out Dx_15_t_3.out)
      replace Ot_6 := Lib.hid (own_other Ot_6.out Gb32_32.out Dx_15_t_6.out)
      replace Ot_9 := Lib.hid (own_other Ot_9.out Gb32_32.out Dx_15_t_9.out)
      replace Ot_12 := Lib.hid (own_other Ot_12.out Gb32_32.out Dx_15_t_12.out)
      replace Ot_29 := Lib.hid (own_other Ot_29.out Gb32_32.out (Apart.symm Dt_29_x_15.out))
      replace Kt_30 := Lib.hid (Go.Proofs.Ytkinlkmmelkdnaa.GoC.cur_otherO Kt_30.out Gb32_32.out Dx_15_c0.out L0 Ox_15.out)
      clear Ox_15 Gb32_32
      have kx_15_0__290 : wb32_32.cell? ⟨wt_13.heap.size, 0, none⟩ = some (.string name) := Pb32_32.out.cells rfl 0 _ rfl
      have kx_15_1__291 : wb32_32.cell? ⟨wt_13.heap.size, 1, none⟩ = some (.int .i64 t_30) := Pb32_32.out.cells rfl 1 _ rfl
      have kx_15_2__292 : wb32_32.cell? ⟨wt_13.heap.size, 2, none⟩ = some (.int .i64 t_7) := Pb32_32.out.cells rfl 2 _ rfl
      have kx_15_3__293 : wb32_32.cell? ⟨wt_13.heap.size, 3, none⟩ = some (.int .i64 t_10) := Pb32_32.out.cells rfl 3 _ rfl
      have kx_15_4__294 : wb32_32.cell? ⟨wt_13.heap.size, 4, none⟩ = some (.int .i64 t_13) := Pb32_32.out.cells rfl 4 _ rfl
      obtain ⟨wb55_55, hwb55_55⟩ : ∃ x, (((((wb32_32).setCell ⟨w.heap.size, 0, none⟩ (.string name)).setCell ⟨w.heap.size, 1, none⟩ (.int .i64 t_30)).setCell ⟨w.heap.size, 2, none⟩ (.int .i64 t_7)).setCell ⟨w.heap.size, 3, none⟩ (.int .i64 t_10)).setCell ⟨w.heap.size, 4, none⟩ (.int .i64 t_13) = x := ⟨_, rfl⟩
      have z0b55_55 := Ot_0.out.frozenAt 0
      have z1b55_55 := Ot_0.out.frozenAt 1
      have z2b55_55 := Ot_0.out.frozenAt 2
      have z3b55_55 := Ot_0.out.frozenAt 3
      have z4b55_55 := Ot_0.out.frozenAt 4
      have Sb55_55 := Lib.hid (own_stores [(0, .string name), (1, .int .i64 t_30), (2, .int .i64 t_7), (3, .int .i64 t_10), (4, .int .i64 t_13)] Ot_0.out)
      have Pb55_55 : Hid (wb55_55.ownsRow w.heap.size 74 5 (.slice (some ⟨w.heap.size, 0, none⟩) 1 1) 1 [.string name, .int .i64 t_30, .int .i64 t_7, .int .i64 t_10, .int .i64 t_13]) := Lib.hid (by rw [← hwb55_55]; exact Sb55_55.out.1)
      have Gb55_55 : Hid (wb32_32.grownBy wb55_55 (Value.slice (some ⟨w.heap.size, 0, none⟩) 1 1).ownBlock) := Lib.hid (by rw [← hwb55_55]; exact Sb55_55.out.2)
      have HBwb55_55 := Lib.hid (Go.Proofs.Ytkinlkmmelkdnaa.GoC.grown_new HBwb32_32.out Gb55_55.out (Go.Proofs.Ytkinlkmmelkdnaa.GoC.own_ge Ot_0.out))
      clear Sb55_55
      have kx_15_0__295 := cell_other kx_15_0__290 Gb55_55.out (Apart.symm Dx_15_t_0.out)
      have kx_15_1__296 := cell_other kx_15_1__291 Gb55_55.out (Apart.symm Dx_15_t_0.out)
      have kx_15_2__297 := cell_other kx_15_2__292 Gb55_55.out (Apart.symm Dx_15_t_0.out)
      have kx_15_3__298 := cell_other kx_15_3__293 Gb55_55.out (Apart.symm Dx_15_t_0.out)
      have kx_15_4__299 := cell_other kx_15_4__294 Gb55_55.out (Apart.symm Dx_15_t_0.out)
      replace Pb32_32 := Lib.hid (own_other Pb32_32.out Gb55_55.out (Apart.symm Dx_15_t_0.out))
      replace Ot_3 := Lib.hid (own_other Ot_3.out Gb55_55.out (Apart.symm Dt_3_t_0.out))
      replace Ot_6 := Lib.hid (own_other Ot_6.out Gb55_55.out (Apart.symm Dt_6_t_0.out))
      replace Ot_9 := Lib.hid (own_other Ot_9.out Gb55_55.out (Apart.symm Dt_9_t_0.out))
      replace Ot_12 := Lib.hid (own_other Ot_12.out Gb55_55.out (Apart.symm Dt_12_t_0.out))
      replace Ot_29 := Lib.hid (own_other Ot_29.out Gb55_55.out (Apart.symm Dt_29_t_0.out))
      replace Kt_30 := Lib.hid (Go.Proofs.Ytkinlkmmelkdnaa.GoC.cur_otherO Kt_30.out Gb55_55.out Dt_0_c0.out L0 Ot_0.out)
      clear Ot_0 Gb55_55
      have kt_0_0__300 : wb55_55.cell? ⟨w.heap.size, 0, none⟩ = some (.string name) := Pb55_55.out.cells rfl 0 _ rfl
      have kt_0_1__301 : wb55_55.cell? ⟨w.heap.size, 1, none⟩ = some (.int .i64 t_30) := Pb55_55.out.cells rfl 1 _ rfl
      have kt_0_2__302 : wb55_55.cell? ⟨w.heap.size, 2, none⟩ = some (.int .i64 t_7) := Pb55_55.out.cells rfl 2 _ rfl
      have kt_0_3__303 : wb55_55.cell? ⟨w.heap.size, 3, none⟩ = some (.int .i64 t_10) := Pb55_55.out.cells rfl 3 _ rfl
      have kt_0_4__304 : wb55_55.cell? ⟨w.heap.size, 4, none⟩ = some (.int .i64 t_13) := Pb55_55.out.cells rfl 4 _ rfl
      cases ret_hid H
      go_wp2_with fail
      (try simp only [Exit.inBlock, Exit.then])
      refine bodyPost_ret (v := .agg #[.string name, .int .i64 t_30, .int .i64 t_7, .int .i64 t_10, .int .i64 t_13]) ?hr_ ?hd_ ?_
      case hd_ => rfl
      case hr_ => simp [results, Try.results121, kt_0_0__300, kt_0_1__301, kt_0_2__302, kt_0_3__303, kt_0_4__304, go_sem]
      exact ⟨rfl, Kt_30.out, HBwb55_55.out⟩
  | true =>
    replace H := ite_t H
    replace H := let_hid H
    obtain ⟨t_22, ht_22, H⟩ := H
    obtain ⟨w_t_22, hw_t_22⟩ : ∃ x, wt_18.alloc (.cells #[.string (⟨#[]⟩ : ByteArray), .string (⟨#[82, 101, 100]⟩ : ByteArray), .string (⟨#[97, 98, 99, 100, 101, 102, 103, 104, 105, 106, 107]⟩ : ByteArray)] 9) = x := ⟨_, rfl⟩
    have bw_t_22 : Below wt_18.heap.size wt_18 w_t_22 := by rw [← hw_t_22]; exact (Below.refl _ _).alloc (Nat.le_refl _) _
    have hs_t_22 := HBwt_18.out.size
    have nt_22 : t_22.length = 3 := by rw [← ht_22]; rfl
    have Ot_22 : Hid (w_t_22.ownsRow w.heap.size 9 1 (.slice (some ⟨wt_18.heap.size, 0, none⟩) 3 3) 3 (t_22.map Value.string)) := by
      rw [← hw_t_22, ← ht_22]
      have e_ : ([.string (⟨#[]⟩ : ByteArray), .string (⟨#[82, 101, 100]⟩ : ByteArray), .string (⟨#[97, 98, 99, 100, 101, 102, 103, 104, 105, 106, 107]⟩ : ByteArray)] : List Value) = (([(⟨#[]⟩ : ByteArray), (⟨#[82, 101, 100]⟩ : ByteArray), (⟨#[97, 98, 99, 100, 101, 102, 103, 104, 105, 106, 107]⟩ : ByteArray)] : List ByteArray).map Value.string) := rfl
      exact Lib.hid (own_laid (n := 3) hs_t_22 e_ rfl (by unfold maxLen; omega))
    clear hs_t_22
    have hht_22 := Lib.hid ht_22
    clear ht_22
    replace nt_22 := Lib.hid nt_22
    have Dt_22_t_3 := Lib.hid (apart_fresh Ot_3.out)
    have Dt_22_t_6 := Lib.hid (apart_fresh Ot_6.out)
    have Dt_22_t_9 := Lib.hid (apart_fresh Ot_9.out)
    have Dt_22_t_12 := Lib.hid (apart_fresh Ot_12.out)
    have Dt_22_c0 := Lib.hid (Go.Proofs.Ytkinlkmmelkdnaa.GoC.apart_cur Kt_18.out)
    have Dt_22_t_0 := Lib.hid (apart_box kt_0_0__180)
    have Dt_22_x_15 := Lib.hid (apart_box kx_15_0)
    have HBw_t_22 := Lib.hid (grown_below HBwt_18.out bw_t_22)
    have kt_0_0__305 := cell_below bw_t_22 kt_0_0__180
    have kt_0_1__306 := cell_below bw_t_22 kt_0_1__181
    have kt_0_2__307 := cell_below bw_t_22 kt_0_2__182
    have kt_0_3__308 := cell_below bw_t_22 kt_0_3__183
    have kt_0_4__309 := cell_below bw_t_22 kt_0_4__184
    have kx_15_0__310 := cell_below bw_t_22 kx_15_0
    have kx_15_1__311 := cell_below bw_t_22 kx_15_1
    have kx_15_2__312 := cell_below bw_t_22 kx_15_2
    have kx_15_3__313 := cell_below bw_t_22 kx_15_3
    have kx_15_4__314 := cell_below bw_t_22 kx_15_4
    replace Ot_3 := Lib.hid (own_below Ot_3.out bw_t_22)
    replace Ot_6 := Lib.hid (own_below Ot_6.out bw_t_22)
    replace Ot_9 := Lib.hid (own_below Ot_9.out bw_t_22)
    replace Ot_12 := Lib.hid (own_below Ot_12.out bw_t_22)
    replace Kt_18 := Lib.hid (Go.Proofs.Ytkinlkmmelkdnaa.GoC.cur_below Kt_18.out bw_t_22)
    replace Ot_0 := Lib.hid (own_below Ot_0.out bw_t_22)
    replace Ox_15 := Lib.hid (own_below Ox_15.out bw_t_22)
    clear bw_t_22
    replace H := bind2_hid H
    obtain ⟨t_23, t_23_tp, qt_23, H⟩ := H
    go_wp2_with fail
    clear kt_0_0__180 kt_0_1__181 kt_0_2__182 kt_0_3__183 kt_0_4__184 kx_15_0 kx_15_1 kx_15_2 kx_15_3 kx_15_4
    have hc_ := nt_22.out
    have hv_ : (Value.slice (some ⟨wt_18.heap.size, 0, none⟩) 3 3 : Value) = Value.slice (some ⟨wt_18.heap.size, 0, none⟩) t_22.length 3 := by rw [hc_]
    try rw [hv_]
    replace Ot_22 := Lib.hid (own_len hc_ Ot_22.out)
    clear hc_ hv_
    go_wp2_with fail
    go_at_call 141
    refine (Go.Proofs.Ytkinlkmmelkdnaa.GsL1CurOf.C (t_18_tp) (t_22) (some ⟨wt_18.heap.size, 0, none⟩) 3 (g0) (Ac0) (cc0) (bc0) _   (Lib.hid (own_cells Ot_22.out)) (Lib.hid (own_max Ot_22.out)) Kt_18 (Lib.hid (fun _ => Dt_22_c0.out)) qt_23).mono ?_
    rintro e_t_23 wt_23 ⟨rfl, kt_23, gt_23⟩
    have Kt_23 := Lib.hid kt_23
    have Gt_23 : Hid (w_t_22.grownBy wt_23 (Value.slice (some ⟨g0, 0, none⟩) 1 1).ownBlock) := Lib.hid gt_23
    clear kt_23 gt_23
    have HBwt_23 := Lib.hid (Aid.grown_tr HBw_t_22.out Gt_23.out)
    replace kt_0_0__305 := cell_other kt_0_0__305 Gt_23.out (Apart.symm Dt_0_c0.out)
    replace kt_0_1__306 := cell_other kt_0_1__306 Gt_23.out (Apart.symm Dt_0_c0.out)
    replace kt_0_2__307 := cell_other kt_0_2__307 Gt_23.out (Apart.symm Dt_0_c0.out)
    replace kt_0_3__308 := cell_other kt_0_3__308 Gt_23.out (Apart.symm Dt_0_c0.out)
    replace kt_0_4__309 := cell_other kt_0_4__309 Gt_23.out (Apart.symm Dt_0_c0.out)
    replace kx_15_0__310 := cell_other kx_15_0__310 Gt_23.out (Apart.symm Dx_15_c0.out)
    replace kx_15_1__311 := cell_other kx_15_1__311 Gt_23.out (Apart.symm Dx_15_c0.out)
    replace kx_15_2__312 := cell_other kx_15_2__312 Gt_23.out (Apart.symm Dx_15_c0.out)
    replace kx_15_3__313 := cell_other kx_15_3__313 Gt_23.out (Apart.symm Dx_15_c0.out)
    replace kx_15_4__314 := cell_other kx_15_4__314 Gt_23.out (Apart.symm Dx_15_c0.out)
    replace Ot_0 := Lib.hid (own_other Ot_0.out Gt_23.out (Apart.symm Dt_0_c0.out))
    replace Ox_15 := Lib.hid (own_other Ox_15.out Gt_23.out (Apart.symm Dx_15_c0.out))
    replace Ot_3 := Lib.hid (own_other Ot_3.out Gt_23.out (Apart.symm Dt_3_c0.out))
    replace Ot_6 := Lib.hid (own_other Ot_6.out Gt_23.out (Apart.symm Dt_6_c0.out))
    replace Ot_9 := Lib.hid (own_other Ot_9.out Gt_23.out (Apart.symm Dt_9_c0.out))
    replace Ot_12 := Lib.hid (own_other Ot_12.out Gt_23.out (Apart.symm Dt_12_c0.out))
    replace Ot_22 := Lib.hid (own_other Ot_22.out Gt_23.out (Apart.symm Dt_22_c0.out))
    clear Kt_18 Gt_23
    obtain ⟨wb25_25, hwb25_25⟩ : ∃ x, (wt_23).setCell ⟨wt_13.heap.size, 0, none⟩ (.string t_23) = x := ⟨_, rfl⟩
    have z0b25_25 := Ox_15.out.frozenAt 0
    have Sb25_25 := Lib.hid (own_stores [(0, .string t_23)] Ox_15.out)
    have Pb25_25 : Hid (wb25_25.ownsRow w.heap.size 74 5 (.slice (some ⟨wt_13.heap.size, 0, none⟩) 1 1) 1 [.string t_23, .int .i64 t_4, .int .i64 t_7, .int .i64 t_10, .int .i64 t_13]) := Lib.hid (by rw [← hwb25_25]; exact Sb25_25.out.1)
    have Gb25_25 : Hid (wt_23.grownBy wb25_25 (Value.slice (some ⟨wt_13.heap.size, 0, none⟩) 1 1).ownBlock) := Lib.hid (by rw [← hwb25_25]; exact Sb25_25.out.2)
    have HBwb25_25 := Lib.hid (Go.Proofs.Ytkinlkmmelkdnaa.GoC.grown_new HBwt_23.out Gb25_25.out (Go.Proofs.Ytkinlkmmelkdnaa.GoC.own_ge Ox_15.out))
    clear Sb25_25
    have kt_0_0__315 := cell_other kt_0_0__305 Gb25_25.out Dx_15_t_0.out
    have kt_0_1__316 := cell_other kt_0_1__306 Gb25_25.out Dx_15_t_0.out
    have kt_0_2__317 := cell_other kt_0_2__307 Gb25_25.out Dx_15_t_0.out
    have kt_0_3__318 := cell_other kt_0_3__308 Gb25_25.out Dx_15_t_0.out
    have kt_0_4__319 := cell_other kt_0_4__309 Gb25_25.out Dx_15_t_0.out
    replace Ot_0 := Lib.hid (own_other Ot_0.out Gb25_25.out Dx_15_t_0.out)
    replace Ot_3 := Lib.hid (own_other Ot_3.out Gb25_25.out Dx_15_t_3.out)
    replace Ot_6 := Lib.hid (own_other Ot_6.out Gb25_25.out Dx_15_t_6.out)
    replace Ot_9 := Lib.hid (own_other Ot_9.out Gb25_25.out Dx_15_t_9.out)
    replace Ot_12 := Lib.hid (own_other Ot_12.out Gb25_25.out Dx_15_t_12.out)
    replace Ot_22 := Lib.hid (own_other Ot_22.out Gb25_25.out (Apart.symm Dt_22_x_15.out))
    replace Kt_23 := Lib.hid (Go.Proofs.Ytkinlkmmelkdnaa.GoC.cur_otherO Kt_23.out Gb25_25.out Dx_15_c0.out L0 Ox_15.out)
    clear Ox_15 Gb25_25
    have kx_15_0__320 : wb25_25.cell? ⟨wt_13.heap.size, 0, none⟩ = some (.string t_23) := Pb25_25.out.cells rfl 0 _ rfl
    have kx_15_1__321 : wb25_25.cell? ⟨wt_13.heap.size, 1, none⟩ = some (.int .i64 t_4) := Pb25_25.out.cells rfl 1 _ rfl
    have kx_15_2__322 : wb25_25.cell? ⟨wt_13.heap.size, 2, none⟩ = some (.int .i64 t_7) := Pb25_25.out.cells rfl 2 _ rfl
    have kx_15_3__323 : wb25_25.cell? ⟨wt_13.heap.size, 3, none⟩ = some (.int .i64 t_10) := Pb25_25.out.cells rfl 3 _ rfl
    have kx_15_4__324 : wb25_25.cell? ⟨wt_13.heap.size, 4, none⟩ = some (.int .i64 t_13) := Pb25_25.out.cells rfl 4 _ rfl
    obtain ⟨wb55_55, hwb55_55⟩ : ∃ x, (((((wb25_25).setCell ⟨w.heap.size, 0, none⟩ (.string t_23)).setCell ⟨w.heap.size, 1, none⟩ (.int .i64 t_4)).setCell ⟨w.heap.size, 2, none⟩ (.int .i64 t_7)).setCell ⟨w.heap.size, 3, none⟩ (.int .i64 t_10)).setCell ⟨w.heap.size, 4, none⟩ (.int .i64 t_13) = x := ⟨_, rfl⟩
    have z0b55_55 := Ot_0.out.frozenAt 0
    have z1b55_55 := Ot_0.out.frozenAt 1
    have z2b55_55 := Ot_0.out.frozenAt 2
    have z3b55_55 := Ot_0.out.frozenAt 3
    have z4b55_55 := Ot_0.out.frozenAt 4
    have Sb55_55 := Lib.hid (own_stores [(0, .string t_23), (1, .int .i64 t_4), (2, .int .i64 t_7), (3, .int .i64 t_10), (4, .int .i64 t_13)] Ot_0.out)
    have Pb55_55 : Hid (wb55_55.ownsRow w.heap.size 74 5 (.slice (some ⟨w.heap.size, 0, none⟩) 1 1) 1 [.string t_23, .int .i64 t_4, .int .i64 t_7, .int .i64 t_10, .int .i64 t_13]) := Lib.hid (by rw [← hwb55_55]; exact Sb55_55.out.1)
    have Gb55_55 : Hid (wb25_25.grownBy wb55_55 (Value.slice (some ⟨w.heap.size, 0, none⟩) 1 1).ownBlock) := Lib.hid (by rw [← hwb55_55]; exact Sb55_55.out.2)
    have HBwb55_55 := Lib.hid (Go.Proofs.Ytkinlkmmelkdnaa.GoC.grown_new HBwb25_25.out Gb55_55.out (Go.Proofs.Ytkinlkmmelkdnaa.GoC.own_ge Ot_0.out))
    clear Sb55_55
    have kx_15_0__325 := cell_other kx_15_0__320 Gb55_55.out (Apart.symm Dx_15_t_0.out)
    have kx_15_1__326 := cell_other kx_15_1__321 Gb55_55.out (Apart.symm Dx_15_t_0.out)
    have kx_15_2__327 := cell_other kx_15_2__322 Gb55_55.out (Apart.symm Dx_15_t_0.out)
    have kx_15_3__328 := cell_other kx_15_3__323 Gb55_55.out (Apart.symm Dx_15_t_0.out)
    have kx_15_4__329 := cell_other kx_15_4__324 Gb55_55.out (Apart.symm Dx_15_t_0.out)
    replace Pb25_25 := Lib.hid (own_other Pb25_25.out Gb55_55.out (Apart.symm Dx_15_t_0.out))
    replace Ot_3 := Lib.hid (own_other Ot_3.out Gb55_55.out (Apart.symm Dt_3_t_0.out))
    replace Ot_6 := Lib.hid (own_other Ot_6.out Gb55_55.out (Apart.symm Dt_6_t_0.out))
    replace Ot_9 := Lib.hid (own_other Ot_9.out Gb55_55.out (Apart.symm Dt_9_t_0.out))
    replace Ot_12 := Lib.hid (own_other Ot_12.out Gb55_55.out (Apart.symm Dt_12_t_0.out))
    replace Ot_22 := Lib.hid (own_other Ot_22.out Gb55_55.out (Apart.symm Dt_22_t_0.out))
    replace Kt_23 := Lib.hid (Go.Proofs.Ytkinlkmmelkdnaa.GoC.cur_otherO Kt_23.out Gb55_55.out Dt_0_c0.out L0 Ot_0.out)
    clear Ot_0 Gb55_55
    have kt_0_0__330 : wb55_55.cell? ⟨w.heap.size, 0, none⟩ = some (.string t_23) := Pb55_55.out.cells rfl 0 _ rfl
    have kt_0_1__331 : wb55_55.cell? ⟨w.heap.size, 1, none⟩ = some (.int .i64 t_4) := Pb55_55.out.cells rfl 1 _ rfl
    have kt_0_2__332 : wb55_55.cell? ⟨w.heap.size, 2, none⟩ = some (.int .i64 t_7) := Pb55_55.out.cells rfl 2 _ rfl
    have kt_0_3__333 : wb55_55.cell? ⟨w.heap.size, 3, none⟩ = some (.int .i64 t_10) := Pb55_55.out.cells rfl 3 _ rfl
    have kt_0_4__334 : wb55_55.cell? ⟨w.heap.size, 4, none⟩ = some (.int .i64 t_13) := Pb55_55.out.cells rfl 4 _ rfl
    cases ret_hid H
    go_wp2_with fail
    (try simp only [Exit.inBlock, Exit.then])
    refine bodyPost_ret (v := .agg #[.string t_23, .int .i64 t_4, .int .i64 t_7, .int .i64 t_10, .int .i64 t_13]) ?hr_ ?hd_ ?_
    case hd_ => rfl
    case hr_ => simp [results, Try.results121, kt_0_0__330, kt_0_1__331, kt_0_2__332, kt_0_3__333, kt_0_4__334, go_sem]
    exact ⟨rfl, Kt_23.out, HBwb55_55.out⟩
end Go.Proofs.Ytkinlkmmelkdnaa.GsL1CurShade7

