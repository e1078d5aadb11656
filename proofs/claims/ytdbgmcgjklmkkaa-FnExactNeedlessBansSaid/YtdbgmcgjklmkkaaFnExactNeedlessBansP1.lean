/- The texts on which the proof of FnExactNeedlessBans stands, one behind the other (1 of 4). No condition of their own. -/
import Derived.Lib.Hide
import Derived.Below
import Derived.Laws.OwnMore
import Derived.Laws.World
import Derived.Deep.Draws
import Derived.Lib.QuietBelow
import Derived.Lib.Strings
import Derived.OwnWalk
import Derived.Laws.Strings3
import Derived.Laws.AppendOwnNone
import Derived.Laws.DeepStrings4
import Derived.Laws.Slices
import Derived.Deep.Slices
import Derived.Laws.MakeOwn
import Derived.Maps.AppendAt
import Derived.Lib.LaidU8
import Derived.WalkKit
import Derived.WalkSpells
import Derived.Test.YtdbgmcgjklmkkaaChecked
import Derived.BigQuiet
import Derived.Deep.QuietTactic
import Derived.Outline
import Derived.WalkLawsBesides
import Derived.Deep.LoopGhost
import Derived.IntWalk
import Derived.Lib.SmallJoins
import Derived.Deep.Fields
import Derived.ChangeSame
import Derived.Deep.AppendLies
/- Words in which a Go function is written as a plain function that either has an answer or has none (a panic, or a loop that does not end in time); and how such a sentence is taken apart. No condition. -/
namespace Go.Proofs.Ytdbgmcgjklmkkaa.GoP
set_option linter.unusedVariables false
open Go.RowKit

def idx {α : Type} (l : List α) (i : Int) : Option α := if 0 ≤ i then l[i.toNat]? else none
def letK {α ρ : Type} (x : α) (f : α → Option ρ) : Option ρ := f x
def iteK {ρ : Type} (c : Bool) (a b : Option ρ) : Option ρ := match c with | true => a | false => b
def joinK {γ : Type} {ρ : Type} (rest : γ) (f : γ → Option ρ) : Option ρ := f rest
def appK {α ρ : Type} (j : α → Option ρ) (x : α) : Option ρ := j x
def guardK {ρ : Type} (p : Prop) [Decidable p] (a : Option ρ) : Option ρ := if p then a else none
def bind2 {α β ρ : Type} (x : Option (α × β)) (f : α → β → Option ρ) : Option ρ := match x with | none => none | some (a, b) => f a b
def bind3 {α β γ ρ : Type} (x : Option (α × β × γ)) (f : α → β → γ → Option ρ) : Option ρ := match x with | none => none | some (a, b, c) => f a b c
def bind4 {α β γ δ ρ : Type} (x : Option (α × β × γ × δ)) (f : α → β → γ → δ → Option ρ) : Option ρ := match x with | none => none | some (a, b, c, d) => f a b c d
def unp2 {α β ρ : Type} (s : α × β) (f : α → β → Option ρ) : Option ρ := f s.1 s.2
def unp3 {α β γ ρ : Type} (s : α × β × γ) (f : α → β → γ → Option ρ) : Option ρ := f s.1 s.2.1 s.2.2
def unp4 {α β γ δ ρ : Type} (s : α × β × γ × δ) (f : α → β → γ → δ → Option ρ) : Option ρ := f s.1 s.2.1 s.2.2.1 s.2.2.2
/-- m rounds, counted from k on -/
def cntK {σ ρ : Type} (f : Nat → σ → (σ → Option ρ) → (σ → Option ρ) → Option ρ) : Nat → Nat → σ → (σ → Option ρ) → Option ρ
  | 0, _, s, fin => fin s
  | m + 1, k, s, fin => f k s (fun s' => cntK f m (k + 1) s' fin) fin
/-- rounds until one ends the loop, n at most -/
def loopK {σ ρ : Type} (f : σ → (σ → Option ρ) → (σ → Option ρ) → Option ρ) : Nat → σ → (σ → Option ρ) → Option ρ
  | 0, _, _ => none
  | n + 1, s, fin => f s (fun s' => loopK f n s' fin) fin

theorem let_hid {α ρ : Type} {x : α} {f : α → Option ρ} {r : ρ} (H : Hid (letK x f = some r)) : ∃ y, x = y ∧ Hid (f y = some r) := ⟨x, rfl, H⟩
theorem bind_hid {α ρ : Type} {x : Option α} {f : α → Option ρ} {r : ρ} (H : Hid (x.bind f = some r)) : ∃ y, Hid (x = some y) ∧ Hid (f y = some r) := by
  have h : x.bind f = some r := H
  cases x with
  | none => simp at h
  | some y => exact ⟨y, rfl, h⟩
theorem bind2_hid {α β ρ : Type} {x : Option (α × β)} {f : α → β → Option ρ} {r : ρ} (H : Hid (bind2 x f = some r)) : ∃ a b, Hid (x = some (a, b)) ∧ Hid (f a b = some r) := by
  have h : bind2 x f = some r := H
  cases x with
  | none => simp [bind2] at h
  | some y => exact ⟨y.1, y.2, rfl, h⟩
theorem bind3_hid {α β γ ρ : Type} {x : Option (α × β × γ)} {f : α → β → γ → Option ρ} {r : ρ} (H : Hid (bind3 x f = some r)) : ∃ a b c, Hid (x = some (a, b, c)) ∧ Hid (f a b c = some r) := by
  have h : bind3 x f = some r := H
  cases x with
  | none => simp [bind3] at h
  | some y => exact ⟨y.1, y.2.1, y.2.2, rfl, h⟩
theorem bind4_hid {α β γ δ ρ : Type} {x : Option (α × β × γ × δ)} {f : α → β → γ → δ → Option ρ} {r : ρ} (H : Hid (bind4 x f = some r)) : ∃ a b c d, Hid (x = some (a, b, c, d)) ∧ Hid (f a b c d = some r) := by
  have h : bind4 x f = some r := H
  cases x with
  | none => simp [bind4] at h
  | some y => exact ⟨y.1, y.2.1, y.2.2.1, y.2.2.2, rfl, h⟩
theorem ite_t {ρ : Type} {a b : Option ρ} {r : ρ} (H : Hid (iteK true a b = some r)) : Hid (a = some r) := H
theorem ite_f {ρ : Type} {a b : Option ρ} {r : ρ} (H : Hid (iteK false a b = some r)) : Hid (b = some r) := H
theorem join_hid {γ ρ : Type} {j : γ} {f : γ → Option ρ} {r : ρ} (H : Hid (joinK j f = some r)) : Hid (f j = some r) := H
theorem app_hid {α ρ : Type} {j : α → Option ρ} {x : α} {r : ρ} (H : Hid (appK j x = some r)) : Hid (j x = some r) := H
theorem guard_hid {ρ : Type} {p : Prop} [Decidable p] {a : Option ρ} {r : ρ} (H : Hid (guardK p a = some r)) : p ∧ Hid (a = some r) := by
  have h : guardK p a = some r := H
  unfold guardK at h
  by_cases hp : p
  · rw [if_pos hp] at h; exact ⟨hp, h⟩
  · rw [if_neg hp] at h; simp at h
theorem unp2_hid {α β ρ : Type} {a : α} {b : β} {f : α → β → Option ρ} {r : ρ} (H : Hid (unp2 (a, b) f = some r)) : Hid (f a b = some r) := H
theorem unp3_hid {α β γ ρ : Type} {a : α} {b : β} {c : γ} {f : α → β → γ → Option ρ} {r : ρ} (H : Hid (unp3 (a, b, c) f = some r)) : Hid (f a b c = some r) := H
theorem unp4_hid {α β γ δ ρ : Type} {a : α} {b : β} {c : γ} {d : δ} {f : α → β → γ → δ → Option ρ} {r : ρ} (H : Hid (unp4 (a, b, c, d) f = some r)) : Hid (f a b c d = some r) := H
theorem cnt_zero {σ ρ : Type} {f : Nat → σ → (σ → Option ρ) → (σ → Option ρ) → Option ρ} {k : Nat} {s : σ} {fin : σ → Option ρ} {r : ρ} (H : Hid (cntK f 0 k s fin = some r)) : Hid (fin s = some r) := H
theorem cnt_succ {σ ρ : Type} {f : Nat → σ → (σ → Option ρ) → (σ → Option ρ) → Option ρ} {m k : Nat} {s : σ} {fin : σ → Option ρ} {r : ρ} (H : Hid (cntK f (m + 1) k s fin = some r)) :
    Hid (f k s (fun s' => cntK f m (k + 1) s' fin) fin = some r) := H
theorem loop_zero {σ ρ : Type} {f : σ → (σ → Option ρ) → (σ → Option ρ) → Option ρ} {s : σ} {fin : σ → Option ρ} {r : ρ} (H : Hid (loopK f 0 s fin = some r)) : False := by
  have h : loopK f 0 s fin = some r := H
  simp [loopK] at h
theorem loop_succ {σ ρ : Type} {f : σ → (σ → Option ρ) → (σ → Option ρ) → Option ρ} {n : Nat} {s : σ} {fin : σ → Option ρ} {r : ρ} (H : Hid (loopK f (n + 1) s fin = some r)) :
    Hid (f s (fun s' => loopK f n s' fin) fin = some r) := H
theorem ret_hid {ρ : Type} {v r : ρ} (H : Hid (some v = some r)) : v = r := Option.some.inj H
theorem none_hid {ρ : Type} {r : ρ} (H : Hid ((none : Option ρ) = some r)) : False := by
  have h : (none : Option ρ) = some r := H
  simp at h
theorem idx_hid {α ρ : Type} {l : List α} {i : Int} {f : α → Option ρ} {r : ρ} (H : Hid ((idx l i).bind f = some r)) :
    ∃ (k : Nat) (x : α), i = (k : Int) ∧ k < l.length ∧ Hid (l[k]? = some x) ∧ Hid (f x = some r) := by
  have h : (idx l i).bind f = some r := H
  unfold idx at h
  by_cases hi : 0 ≤ i
  · rw [if_pos hi] at h
    cases hx : l[i.toNat]? with
    | none => rw [hx] at h; simp at h
    | some x =>
      rw [hx] at h
      exact ⟨i.toNat, x, (Int.toNat_of_nonneg hi).symm, (List.getElem?_eq_some_iff.1 hx).1, hx, h⟩
  · rw [if_neg hi] at h; simp at h
theorem idx_nat {α : Type} (l : List α) (k : Nat) : idx l (k : Int) = l[k]? := by unfold idx; rw [if_pos (by omega)]; simp
end Go.Proofs.Ytdbgmcgjklmkkaa.GoP

/- Words for a slice that reads as a list of values, nil and empty let in; for slices of strings; and what becomes of them in later worlds. No condition. -/
namespace Go.Proofs.Ytdbgmcgjklmkkaa.Rowed
set_option linter.unusedVariables false
open Go.RowKit

theorem add_block (a : Addr) (n : Nat) : (a.add n).block = a.block := by unfold Addr.add; split <;> rfl
theorem cell_lt {w : World} {a : Addr} {v : Value} (h : w.cell? a = some v) : a.block < w.heap.size := World.block_lt_of_cell? w a h
theorem cell_below {w w' : World} (hb : Below w.heap.size w w') {a : Addr} {v : Value} (hc : w.cell? a = some v) : w'.cell? a = some v := (hb.cell (cell_lt hc)).trans hc
theorem below_drewN (w : World) (m : Nat) : Below w.heap.size w (w.drewN m) := ⟨rfl, rfl, rfl, Nat.le_refl _, fun _ _ => rfl⟩
theorem Below.step {a b c : World} (h : Below a.heap.size a b) (k : Below b.heap.size b c) : Below a.heap.size a c := h.trans (k.mono h.size)

/-- the world has drawn, and nothing else has turned -/
def DrawnTo (w w' : World) : Prop := ∃ m, w' = w.drewN m
theorem DrawnTo.refl (w : World) : DrawnTo w w := ⟨0, rfl⟩
theorem DrawnTo.more {w w' : World} (h : DrawnTo w w') (n : Nat) : DrawnTo w (w'.drewN n) := let ⟨m, e⟩ := h; ⟨m + n, by rw [e, World.drewN_drewN]⟩
theorem DrawnTo.trans {a b c : World} (h : DrawnTo a b) (k : DrawnTo b c) : DrawnTo a c := by
  obtain ⟨m, rfl⟩ := h
  obtain ⟨n, rfl⟩ := k
  exact ⟨m + n, World.drewN_drewN ..⟩
theorem DrawnTo.cell {w w' : World} (h : DrawnTo w w') {a : Addr} {v : Value} (hc : w.cell? a = some v) : w'.cell? a = some v := by
  obtain ⟨m, rfl⟩ := h; exact hc
theorem DrawnTo.below {w w' : World} (h : DrawnTo w w') : Below w.heap.size w w' := by
  obtain ⟨m, rfl⟩ := h; exact below_drewN w m

/-- the slice 'A, n' reads as the cells xs (size cells each element) -/
def Cells (w : World) (size : Nat) (A : Option Addr) (n : Nat) (xs : List Value) : Prop :=
  xs.length = n * size ∧ (0 < xs.length → ∃ ad : Addr, A = some ad ∧ ∀ j u, xs[j]? = some u → w.cell? (ad.add j) = some u)

theorem Cells.below {w w' : World} {size n : Nat} {A : Option Addr} {xs : List Value} (h : Cells w size A n xs) (hb : Below w.heap.size w w') : Cells w' size A n xs :=
  ⟨h.1, fun hn => let ⟨ad, e, hc⟩ := h.2 hn; ⟨ad, e, fun j u hu => cell_below hb (hc j u hu)⟩⟩
theorem Cells.drewN {w : World} {size n : Nat} {A : Option Addr} {xs : List Value} (h : Cells w size A n xs) (m : Nat) : Cells (w.drewN m) size A n xs := h
theorem Cells.nil_ (w : World) (size : Nat) (A : Option Addr) : Cells w size A 0 [] := ⟨by simp, fun h => by simp at h⟩
theorem Cells.at_ {w : World} {n k : Nat} {A : Option Addr} {xs : List Value} (h : Cells w 1 A n xs) (hk : k < n) : ∃ ad u, A = some ad ∧ xs[k]? = some u ∧ w.cell? (ad.add k) = some u := by
  have hl : k < xs.length := by have := h.1; omega
  obtain ⟨ad, e, hc⟩ := h.2 (by omega)
  exact ⟨ad, xs[k], e, List.getElem?_eq_getElem hl, hc k _ (List.getElem?_eq_getElem hl)⟩
theorem Cells.of_own {w : World} {base size n c g : Nat} {e : TypeId} {xs : List Value} (h : w.ownsRow base e size (.slice (some ⟨g, 0, none⟩) n c) n xs) : Cells w size (some ⟨g, 0, none⟩) n xs :=
  ⟨h.1, fun _ => ⟨_, rfl, fun j u hu => h.cells (g := g) rfl j u hu⟩⟩

/-- a row that is filled from the left -/
def fill (a ys : List Value) (k : Nat) : List Value := a.take k ++ ys.drop k
theorem fill_zero (a ys : List Value) : fill a ys 0 = ys := by simp [fill]
theorem fill_all (a ys : List Value) (h : ys.length = a.length) : fill a ys a.length = a := by
  unfold fill; rw [List.take_of_length_le (Nat.le_refl _), ← h, List.drop_of_length_le (Nat.le_refl _), List.append_nil]
theorem fill_set (a ys : List Value) (k : Nat) (u : Value) (hk : k < ys.length) (hu : a[k]? = some u) : (fill a ys k).set k u = fill a ys (k + 1) := by
  have ha := (List.getElem?_eq_some_iff.1 hu).1
  have hau := (List.getElem?_eq_some_iff.1 hu).2
  unfold fill
  have hl : (a.take k).length = k := by rw [List.length_take]; omega
  rw [List.set_append_right _ _ (by omega), hl, Nat.sub_self, List.take_succ_eq_append_getElem ha, hau, List.drop_eq_getElem_cons hk, List.set_cons_zero, List.append_assoc]
  rfl
theorem fill_len (a ys : List Value) (k : Nat) (h : ys.length = a.length) : (fill a ys k).length = ys.length := by
  unfold fill; rw [List.length_append, List.length_take, List.length_drop]; omega

/-- the slice 'A, n' reads as the strings l -/
def Strs (w : World) (A : Option Addr) (n : Nat) (l : List ByteArray) : Prop := Cells w 1 A n (l.map Value.string)
theorem Strs.len {w : World} {A : Option Addr} {n : Nat} {l : List ByteArray} (h : Strs w A n l) : l.length = n := by have := h.1; simpa using this
theorem Strs.below {w w' : World} {A : Option Addr} {n : Nat} {l : List ByteArray} (h : Strs w A n l) (hb : Below w.heap.size w w') : Strs w' A n l := Cells.below h hb
theorem Strs.at_ {w : World} {A : Option Addr} {n k : Nat} {l : List ByteArray} (h : Strs w A n l) (hk : k < n) : ∃ ad x, A = some ad ∧ l[k]? = some x ∧ w.cell? (ad.add k) = some (.string x) := by
  obtain ⟨ad, u, e, hx, hc⟩ := Cells.at_ h hk
  rw [List.getElem?_map] at hx
  cases hl : l[k]? with
  | none => rw [hl] at hx; simp at hx
  | some x => rw [hl] at hx; obtain rfl : Value.string x = u := by simpa using hx
              exact ⟨ad, x, e, rfl, hc⟩

end Go.Proofs.Ytdbgmcgjklmkkaa.Rowed

/- Words on what may turn between two worlds: only the blocks of one span; and on rows that lie in a span of blocks, read or owned. No condition. -/
namespace Go.Proofs.Ytdbgmcgjklmkkaa.Turn
set_option linter.unusedVariables false
open Go.RowKit
open Go.Proofs.Ytdbgmcgjklmkkaa.Rowed

/-- of what was there, only blocks from lo on and below hi may have turned -/
structure Turned (lo hi : Nat) (w w' : World) : Prop where
  os : w'.os = w.os
  tape : w'.tape = w.tape
  output : w'.output = w.output
  size : w.heap.size ≤ w'.heap.size
  block : ∀ k, k < w.heap.size → ¬ (lo ≤ k ∧ k < hi) → w'.heap[k]? = w.heap[k]?
theorem Turned.of_grown {w w' : World} {lo hi : Nat} {r : Option Nat} (h : w.grownBy w' r) (hr : ∀ k, r = some k → lo ≤ k ∧ k < hi) : Turned lo hi w w' :=
  ⟨h.os, h.tape, h.output, h.size, fun k hk hn => h.block k hk (fun e => hn (hr k e.symm))⟩
theorem below_turned {w wr w' : World} {lo hi : Nat} (h : Below w.heap.size w wr) (t : Turned lo hi wr w') (hl : w.heap.size ≤ lo) : Below w.heap.size w w' :=
  ⟨t.os.trans h.os, t.tape.trans h.tape, t.output.trans h.output, Nat.le_trans h.size t.size, fun k hk => (t.block k (Nat.lt_of_lt_of_le hk h.size) (by omega)).trans (h.block k hk)⟩

/-- the slice 'A, n' reads as the cells xs, and they lie in blocks from lo on and below hi -/
structure Rd (w : World) (size lo hi : Nat) (A : Option Addr) (n : Nat) (xs : List Value) : Prop where
  cells : Cells w size A n xs
  span : ∀ ad, A = some ad → 0 < xs.length → lo ≤ ad.block ∧ ad.block < hi
  top : hi ≤ w.heap.size
theorem Rd.below {w w' : World} {size lo hi n : Nat} {A : Option Addr} {xs : List Value} (h : Rd w size lo hi A n xs) (hb : Below w.heap.size w w') : Rd w' size lo hi A n xs :=
  ⟨h.cells.below hb, h.span, Nat.le_trans h.top hb.size⟩
theorem Rd.turned {w w' : World} {size lo hi a b n : Nat} {A : Option Addr} {xs : List Value} (h : Rd w size lo hi A n xs) (t : Turned a b w w') (hd : hi ≤ a ∨ b ≤ lo) : Rd w' size lo hi A n xs :=
  ⟨⟨h.cells.1, fun hn => by
    obtain ⟨ad, e, hc⟩ := h.cells.2 hn
    have hs := h.span ad e hn
    have ht := h.top
    exact ⟨ad, e, fun j u hu => (World.cell?_of_block (by rw [add_block]; exact t.block _ (by omega) (by omega))).trans (hc j u hu)⟩⟩, h.span, Nat.le_trans h.top t.size⟩
/-- cells that came in -/
theorem Rd.came {w : World} {size n : Nat} {A : Option Addr} {xs : List Value} (h : Cells w size A n xs) : Rd w size 0 w.heap.size A n xs :=
  ⟨h, fun ad e hn => by
    obtain ⟨ad', e', hc⟩ := h.2 hn
    obtain rfl : ad = ad' := by rw [e] at e'; exact Option.some.inj e'
    have h0 := cell_lt (hc 0 _ (List.getElem?_eq_getElem hn))
    rw [add_block] at h0
    exact ⟨Nat.zero_le _, h0⟩, Nat.le_refl _⟩

/-- the slice 'A, n, c' is a row of the call's own with the cells xs, in a block from lo on and below hi -/
structure Ow (w : World) (T : TypeId) (size lo hi : Nat) (A : Option Addr) (n c : Nat) (xs : List Value) : Prop where
  own : w.ownsRow lo T size (.slice A n c) n xs
  span : ∀ q, (Value.slice A n c).ownBlock = some q → q < hi
  top : hi ≤ w.heap.size
theorem Ow.of {w : World} {T : TypeId} {size lo n c : Nat} {A : Option Addr} {xs : List Value} (h : w.ownsRow lo T size (.slice A n c) n xs) : Ow w T size lo w.heap.size A n c xs :=
  ⟨h, fun q hq => (h.lt q hq).2, Nat.le_refl _⟩
theorem Ow.kept {w w' : World} {T : TypeId} {size lo hi a b n c : Nat} {A : Option Addr} {xs : List Value} (h : Ow w T size lo hi A n c xs) (t : Turned a b w w') (hd : hi ≤ a ∨ b ≤ lo) : w'.ownsRow lo T size (.slice A n c) n xs := by
  refine ⟨h.own.1, ?_⟩
  rcases h.own.2 with h0 | ⟨g, cap, cur, hv, hb, hh, rest⟩
  · exact .inl h0
  · have hg : g < hi := h.span g (by rw [hv]; rfl)
    have ht := h.top
    exact .inr ⟨g, cap, cur, hv, hb, (t.block g (by omega) (by omega)).trans hh, rest⟩
theorem Ow.turned {w w' : World} {T : TypeId} {size lo hi a b n c : Nat} {A : Option Addr} {xs : List Value} (h : Ow w T size lo hi A n c xs) (t : Turned a b w w') (hd : hi ≤ a ∨ b ≤ lo) : Ow w' T size lo hi A n c xs :=
  ⟨h.kept t hd, h.span, Nat.le_trans h.top t.size⟩
theorem Turned.of_below {w w' : World} (h : Below w.heap.size w w') : Turned 0 0 w w' := ⟨h.os, h.tape, h.output, h.size, fun k hk _ => h.block k hk⟩
theorem Ow.below {w w' : World} {T : TypeId} {size lo hi n c : Nat} {A : Option Addr} {xs : List Value} (h : Ow w T size lo hi A n c xs) (hb : Below w.heap.size w w') : Ow w' T size lo hi A n c xs :=
  h.turned (Turned.of_below hb) (.inr (Nat.zero_le _))
theorem own_cells {w : World} {base n c size : Nat} {A : Option Addr} {e : TypeId} {xs : List Value} (h : w.ownsRow base e size (.slice A n c) n xs) : Cells w size A n xs := by
  rcases h.2 with ⟨hv, h0⟩ | ⟨g, cap, cur, hv, _⟩
  · subst h0
    have := h.1
    exact ⟨this, fun hn => by rw [Nat.zero_mul] at this; omega⟩
  · injection hv with e1 e2 e3
    subst e1
    exact Cells.of_own h
theorem Ow.cells {w : World} {T : TypeId} {size lo hi n c : Nat} {A : Option Addr} {xs : List Value} (h : Ow w T size lo hi A n c xs) : Cells w size A n xs := own_cells h.own
/-- what is read only -/
theorem Ow.rd {w : World} {T : TypeId} {size lo hi n c : Nat} {A : Option Addr} {xs : List Value} (h : Ow w T size lo hi A n c xs) : Rd w size lo hi A n xs :=
  ⟨h.cells, fun ad e hn => by
    rcases h.own.2 with ⟨hv, h0⟩ | ⟨g, cap, cur, hv, hb, _⟩
    · have := h.own.1
      rw [h0, Nat.zero_mul] at this
      omega
    · have hg : g < hi := h.span g (by rw [hv]; rfl)
      injection hv with e1 e2 e3
      subst e1
      obtain rfl := Option.some.inj e
      exact ⟨hb, hg⟩, h.top⟩
/-- a mark, or another writing of one row -/
theorem Ow.writes {w w' : World} {T : TypeId} {size lo hi n c : Nat} {A : Option Addr} {xs : List Value} (h : Ow w T size lo hi A n c xs) (hg : w.grownBy w' (Value.slice A n c).ownBlock) : Turned lo hi w w' :=
  Turned.of_grown hg (fun k hk => ⟨(h.own.lt k hk).1, h.span k hk⟩)
theorem Ow.written {w w' : World} {T : TypeId} {size lo hi n c : Nat} {A : Option Addr} {xs ys : List Value} (h : Ow w T size lo hi A n c xs) (hs : w.heap.size ≤ w'.heap.size) (ho : w'.ownsRow lo T size (.slice A n c) n ys) : Ow w' T size lo hi A n c ys :=
  ⟨ho, h.span, Nat.le_trans h.top hs⟩

/-- the answer has no memory, and nothing has turned -/
def Gives (v : Value) (w : World) (e : Ending) (w' : World) : Prop := e = .returned v ∧ Below w.heap.size w w'
end Go.Proofs.Ytdbgmcgjklmkkaa.Turn

/- Small words on types' facts, on classes of worlds, and on rows that are written. No condition. -/
namespace Go.Proofs.Ytdbgmcgjklmkkaa.Aid
set_option linter.unusedVariables false
open Go.RowKit
open Go.Proofs.Ytdbgmcgjklmkkaa.Rowed Go.Proofs.Ytdbgmcgjklmkkaa.Turn

theorem info_parts {P : Program} {T : TypeId} {z : Value} {s b : Nat} (h : (P.info? T).map (fun i => (i.zero, i.size, i.bytes)) = some (some z, s, b)) : ∃ i, P.info? T = some i ∧ i.zero = some z ∧ i.size = s ∧ i.bytes = b := by
  cases hi : P.info? T with
  | none => rw [hi] at h; simp at h
  | some i => rw [hi] at h; simp at h; exact ⟨i, rfl, h.1, h.2.1, h.2.2⟩
theorem below_class {X Y : World} (h : ∃ p : Regrown, Y = Go.Sort.grow (redrawn X p.d) p.os) : Below X.heap.size X Y := by
  obtain ⟨⟨d, os⟩, rfl⟩ := h; exact below_regrown _ _ _
theorem grown_of {W W' : World} (h : Below W.heap.size W W') : W.grownBy W' none := ⟨h.os, h.tape, h.output, h.size, fun k hk _ => h.block k hk⟩
theorem grown_weak {W W' : World} (h : W.grownBy W' none) (g : Nat) : W.grownBy W' (some g) := ⟨h.os, h.tape, h.output, h.size, fun k hk _ => h.block k hk (by simp)⟩
theorem grown_tr {a b c : World} {r : Option Nat} (h : a.grownBy b r) (k : b.grownBy c r) : a.grownBy c r :=
  ⟨k.os.trans h.os, k.tape.trans h.tape, k.output.trans h.output, Nat.le_trans h.size k.size, fun i hi hr => (k.block i (Nat.lt_of_lt_of_le hi h.size) hr).trans (h.block i hi hr)⟩
theorem grown_refl (w : World) (r : Option Nat) : w.grownBy w r := ⟨rfl, rfl, rfl, Nat.le_refl _, fun _ _ _ => rfl⟩
theorem ret_int {k : IntKind} {a b : Int} (h : a = b) : Ending.returned (.int k a) = .returned (.int k b) := by rw [h]
theorem ret_bool {a b : Bool} (h : a = b) : Ending.returned (.bool a) = .returned (.bool b) := by rw [h]
end Go.Proofs.Ytdbgmcgjklmkkaa.Aid

/- Words on memory for the contracts of plain functions. No condition. -/
namespace Go.Proofs.Ytdbgmcgjklmkkaa.GoM
set_option linter.unusedVariables false
open Go.RowKit
open Go.Proofs.Ytdbgmcgjklmkkaa.Rowed Go.Proofs.Ytdbgmcgjklmkkaa.Turn

theorem box_new (w : World) (cs : List Value) (T : TypeId) (j : Nat) (u : Value) (h : cs[j]? = some u) : (w.alloc (.cells ⟨cs⟩ T)).cell? ⟨w.heap.size, j, none⟩ = some u := by
  have hb : (w.alloc (.cells ⟨cs⟩ T)).heap[w.heap.size]? = some (.cells ⟨cs⟩ T) := heap_alloc_new w _
  unfold World.cell?
  rw [hb]
  simpa using h
theorem size_list (s : ByteArray) : s.toList.length = s.size := by rw [Lib.toList_data]; rfl
theorem byte_rule {s : ByteArray} {n : Nat} {y : UInt8} (l : n < s.toList.length) (g : s.toList[n]? = some y) : ∀ h : n < s.size, s[n]'h = y := by
  intro h
  have e := List.getElem?_eq_getElem l
  rw [g] at e
  have := Option.some.inj e
  rw [this]
  simp [Lib.toList_data]
  rfl
theorem own_empty {w wc : World} {T K : Nat} (h : w.heap.size ≤ wc.heap.size) : (wc.alloc (.cells #[] T)).ownsRow w.heap.size T K (.slice (some ⟨wc.heap.size, 0, none⟩) 0 0) 0 [] :=
  ⟨by simp, .inr ⟨wc.heap.size, 0, #[], rfl, h, heap_alloc_new wc _, Nat.le_refl _, by unfold maxLen; omega, by simp, by simp⟩⟩
theorem own_laid {w wc : World} {T K n : Nat} {cs : List Value} {xs : List Value} (h : w.heap.size ≤ wc.heap.size) (hx : cs = xs) (hl : cs.length = n * K) (hn : n ≤ maxLen) : (wc.alloc (.cells ⟨cs⟩ T)).ownsRow w.heap.size T K (.slice (some ⟨wc.heap.size, 0, none⟩) n n) n xs := by
  subst hx
  exact ⟨hl, .inr ⟨wc.heap.size, n, ⟨cs⟩, rfl, h, heap_alloc_new wc _, Nat.le_refl _, hn, by simpa using hl, by rw [← hl]; simp⟩⟩
theorem add_flat (b o n : Nat) : (⟨b, o, none⟩ : Addr).add n = ⟨b, o + n, none⟩ := by
  unfold Addr.add; split
  · rename_i h; subst h; rfl
  · rfl
theorem strs_at {w : World} {A : Option Addr} {n k : Nat} {l : List ByteArray} (h : Cells w 1 A n (l.map Value.string)) (hk : k < n) : ∃ (b o : Nat) (x : ByteArray), A = some ⟨b, o, none⟩ ∧ l[k]? = some x ∧ w.cell? ⟨b, o + k, none⟩ = some (.string x) := by
  have hl : k < l.length := by have := h.1; rw [List.length_map] at this; omega
  obtain ⟨⟨b, o, sp⟩, e, hc⟩ := h.2 (by rw [List.length_map]; omega)
  have h0 := hc 0 (.string l[0]) (by rw [List.getElem?_map, List.getElem?_eq_getElem (show 0 < l.length by omega)]; rfl)
  obtain rfl : sp = none := cell_spot (b := b) (o := o) h0
  have hs := List.getElem?_eq_getElem hl
  have := hc k (.string l[k]) (by rw [List.getElem?_map, hs]; rfl)
  rw [add_flat] at this
  exact ⟨b, o, l[k], e, hs, this⟩
theorem bools_at {w : World} {A : Option Addr} {n k : Nat} {l : List Bool} (h : Cells w 1 A n (l.map Value.bool)) (hk : k < n) : ∃ (b o : Nat) (x : Bool), A = some ⟨b, o, none⟩ ∧ l[k]? = some x ∧ w.cell? ⟨b, o + k, none⟩ = some (.bool x) := by
  have hl : k < l.length := by have := h.1; rw [List.length_map] at this; omega
  obtain ⟨⟨b, o, sp⟩, e, hc⟩ := h.2 (by rw [List.length_map]; omega)
  have h0 := hc 0 (.bool l[0]) (by rw [List.getElem?_map, List.getElem?_eq_getElem (show 0 < l.length by omega)]; rfl)
  obtain rfl : sp = none := cell_spot (b := b) (o := o) h0
  have hs := List.getElem?_eq_getElem hl
  have := hc k (.bool l[k]) (by rw [List.getElem?_map, hs]; rfl)
  rw [add_flat] at this
  exact ⟨b, o, l[k], e, hs, this⟩
theorem own_nil {w : World} {b T K : Nat} : w.ownsRow b T K (.slice none 0 0) 0 [] := ⟨by simp, .inl ⟨rfl, rfl⟩⟩
theorem own_lower {w : World} {b base n size : Nat} {v : Value} {e : TypeId} {xs : List Value} (h : w.ownsRow base e size v n xs) (hb : b ≤ base) : w.ownsRow b e size v n xs :=
  ⟨h.1, by
    rcases h.2 with h0 | ⟨g, cap, cur, hv, hb', rest⟩
    · exact .inl h0
    · exact .inr ⟨g, cap, cur, hv, Nat.le_trans hb hb', rest⟩⟩
theorem own_below {w w' : World} {base n size : Nat} {v : Value} {e : TypeId} {xs : List Value} (h : w.ownsRow base e size v n xs) (hb : Below w.heap.size w w') : w'.ownsRow base e size v n xs :=
  h.kept (Aid.grown_of hb) (by cases v.ownBlock <;> simp)
theorem own_push {α : Type} {f : List α → List Value} {cx : List Value} {l t : List α} {x : α} {w' : World} {b T K : Nat} {v' : Value} {n : Nat} (ht : l ++ [x] = t) (hf : f (l ++ [x]) = f l ++ cx) (hn : l.length = n) (h : w'.ownsRow b T K v' (n + 1) (f l ++ cx)) :
    ∃ g cap, v' = .slice (some ⟨g, 0, none⟩) t.length cap ∧ w'.ownsRow b T K (.slice (some ⟨g, 0, none⟩) t.length cap) t.length (f t) := by
  subst ht
  subst hn
  have el : (l ++ [x]).length = l.length + 1 := by simp
  obtain ⟨g, cap, rfl⟩ : ∃ g cap, v' = .slice (some ⟨g, 0, none⟩) (l.length + 1) cap := by
    rcases h.2 with ⟨_, h⟩ | ⟨g3, cap3, _, h, _⟩
    · omega
    · exact ⟨g3, cap3, h⟩
  exact ⟨g, cap, by rw [el], by rw [el, hf]; exact h⟩
theorem news_new {w w2 : World} {cs : List Value} {T : TypeId} (h : w.alloc (.cells ⟨cs⟩ T) = w2) : ∀ j u, cs[j]? = some u → w2.cell? ((⟨w.heap.size, 0, none⟩ : Addr).add j) = some u := by
  intro j u hu
  subst h
  have : (⟨w.heap.size, 0, none⟩ : Addr).add j = ⟨w.heap.size, j, none⟩ := by
    unfold Addr.add; split
    · rename_i hj; subst hj; rfl
    · simp
  rw [this]
  exact box_new w cs T j u hu
theorem one_cells {l : List Value} (h : l.all (fun u => u.oneCell') = true) : ∀ u ∈ l, u.oneCell' = true := fun u hu => List.all_eq_true.1 h u hu
theorem cat_rule {P : Program} {a b c : ByteArray} (h : a ++ b = c) (hl : a.size + b.size ≤ maxLen) : ∀ W, (Op.stringOp .add a b).run P W = .ok (.string c) W := by
  intro W
  rw [run_string_add_sum]
  · subst h; rfl
  · unfold maxLen at hl; omega
theorem slice_both {P : Program} {t : TypeId} {s c : ByteArray} {k k' : IntKind} {i j : Int} (hu : P.underlying t = some .string) (h : s.extract i.toNat j.toNat = c) (hl : 0 ≤ i ∧ i ≤ j ∧ j ≤ (s.size : Int)) :
    ∀ W, (Instr.slice t (.string s) (some (.int k i)) (some (.int k' j)) none).run P W = .ok (.string c) W := by
  intro W
  rw [run_slice_string_if _ _ _ _ _ _ _ hu, if_pos ⟨by omega, hl.2.2⟩, if_pos ⟨hl.1, hl.2.1⟩, h]
theorem slice_from {P : Program} {t : TypeId} {s c : ByteArray} {k : IntKind} {i : Int} (hu : P.underlying t = some .string) (h : s.extract i.toNat s.size = c) (hl : 0 ≤ i ∧ i ≤ (s.size : Int)) :
    ∀ W, (Instr.slice t (.string s) (some (.int k i)) none none).run P W = .ok (.string c) W := by
  intro W
  rw [run_slice_string_from_if _ _ _ _ _ hu, if_pos hl, h]
theorem slice_to {P : Program} {t : TypeId} {s c : ByteArray} {k : IntKind} {j : Int} (hu : P.underlying t = some .string) (h : s.extract 0 j.toNat = c) (hl : 0 ≤ j ∧ j ≤ (s.size : Int)) :
    ∀ W, (Instr.slice t (.string s) none (some (.int k j)) none).run P W = .ok (.string c) W := by
  intro W
  rw [run_slice_string_to_if _ _ _ _ _ hu, if_pos hl, h]
theorem results_tmp4 {fn : Func} {t u v x : Tmp} (h : fn.results = #[.tmp t, .tmp u, .tmp v, .tmp x]) (tmps : Array Value) (P : Program) (w : World) :
    (results fn tmps).run P w = .ok (.tuple #[tmps.getD t undef, tmps.getD u undef, tmps.getD v undef, tmps.getD x undef]) w := by
  simp [results, h]
/-- the walk stands here -/
def Stop (p : Prop) : Prop := p
theorem stop_in {p : Prop} (h : Stop p) : p := h
theorem stop_out {p : Prop} (h : p) : Stop p := h
/-- two rows lie in different blocks -/
def Apart (A B : Option Addr) : Prop := ∀ a b, A = some a → B = some b → a.block ≠ b.block
theorem Apart.symm {A B : Option Addr} (h : Apart A B) : Apart B A := fun a b ha hb e => h b a hb ha e.symm
theorem own_lt {w : World} {b T K n m c : Nat} {A : Option Addr} {xs : List Value} (h : w.ownsRow b T K (.slice A m c) n xs) (a : Addr) (ha : A = some a) : b ≤ a.block ∧ a.block < w.heap.size := by
  subst ha
  exact h.lt a.block rfl
theorem apart_fresh {w : World} {b T K n m c : Nat} {A : Option Addr} {xs : List Value} (h : w.ownsRow b T K (.slice A m c) n xs) : Apart (some ⟨w.heap.size, 0, none⟩) A := by
  intro a a' ha ha' e
  have := (own_lt h a' ha').2
  injection ha with ha
  subst ha
  simp at e
  omega
theorem apart_call {w w1 : World} {b T K n m c T' K' n' m' c' : Nat} {A B : Option Addr} {xs ys : List Value} (h1 : w1.ownsRow w.heap.size T K (.slice A m c) n xs) (h : w.ownsRow b T' K' (.slice B m' c') n' ys) : Apart A B := by
  intro a a' ha ha' e
  have := (own_lt h a' ha').2
  have := (own_lt h1 a ha).1
  omega
theorem apart_box {w : World} {g j : Nat} {v : Value} (h : w.cell? ⟨g, j, none⟩ = some v) : Apart (some ⟨w.heap.size, 0, none⟩) (some ⟨g, 0, none⟩) := by
  intro a a' ha ha' e
  have hl : g < w.heap.size := cell_lt h
  injection ha with ha
  injection ha' with ha'
  subst ha
  subst ha'
  simp at e
  omega
theorem apart_callbox {w w1 : World} {T K n m c g j : Nat} {A : Option Addr} {xs : List Value} {v : Value} (h1 : w1.ownsRow w.heap.size T K (.slice A m c) n xs) (h : w.cell? ⟨g, j, none⟩ = some v) : Apart A (some ⟨g, 0, none⟩) := by
  intro a a' ha ha' e
  have hl : g < w.heap.size := cell_lt h
  have := (own_lt h1 a ha).1
  injection ha' with ha'
  subst ha'
  simp at e
  omega
theorem apart_app {w : World} {n c n' c' : Nat} {A A' B : Option Addr} (hD : Apart A B) (hB : ∀ a, B = some a → a.block < w.heap.size) (h : (Value.slice A' n' c').ownBlock = (Value.slice A n c).ownBlock ∨ (Value.slice A' n' c').ownBlock = some w.heap.size) : Apart A' B := by
  intro a a' ha ha' e
  have hl := hB a' ha'
  subst ha
  rcases h with h | h
  · cases A with
    | none => simp [Value.ownBlock] at h
    | some x => simp only [Value.ownBlock, Option.some.injEq] at h; exact hD x a' rfl ha' (h ▸ e)
  · simp only [Value.ownBlock, Option.some.injEq] at h; omega
theorem own_other {w w' : World} {b T K n m c n' c' : Nat} {A B : Option Addr} {ys : List Value} (h : w.ownsRow b T K (.slice B m c) n ys) (hg : w.grownBy w' (Value.slice A n' c').ownBlock) (hD : Apart A B) : w'.ownsRow b T K (.slice B m c) n ys := by
  refine h.kept hg ?_
  cases B with
  | none => exact .inl rfl
  | some y =>
    refine .inr ?_
    cases A with
    | none => simp [Value.ownBlock]
    | some x => simp only [Value.ownBlock, ne_eq, Option.some.injEq]; exact fun e => hD x y rfl rfl e.symm
theorem cell_other {w w' : World} {n' c' : Nat} {A : Option Addr} {a : Addr} {v : Value} (h : w.cell? a = some v) (hg : w.grownBy w' (Value.slice A n' c').ownBlock) (hD : Apart A (some ⟨a.block, 0, none⟩)) : w'.cell? a = some v := by
  rw [World.cell?_of_block (hg.block a.block (cell_lt h) ?_)]
  · exact h
  · cases A with
    | none => simp [Value.ownBlock]
    | some x => simp only [Value.ownBlock, ne_eq, Option.some.injEq]; exact fun e => hD x _ rfl rfl e.symm
theorem apart_old {wr : World} {b T K n m c g : Nat} {A : Option Addr} {xs : List Value} (h : wr.ownsRow b T K (.slice A m c) n xs) (hg : g < b) : Apart A (some ⟨g, 0, none⟩) := by
  intro a a' ha ha' e
  have := (own_lt h a ha).1
  injection ha' with ha'
  subst ha'
  simp at e
  omega
theorem own_len {w : World} {b T K n m c : Nat} {A : Option Addr} {xs : List Value} (h : m = n) (hO : w.ownsRow b T K (.slice A n c) n xs) : w.ownsRow b T K (.slice A m c) m xs := by subst h; exact hO
theorem own_max {w : World} {b T K n c : Nat} {A : Option Addr} {xs : List Value} (h : w.ownsRow b T K (.slice A n c) n xs) : n ≤ 9223372036854775807 := by
  rcases h.2 with ⟨_, h0⟩ | ⟨g, cap, cur, hv, _, _, h1, h2, _⟩
  · omega
  · unfold maxLen at h2; omega
theorem grown_below {w wr w2 : World} {q : Option Nat} (h : w.grownBy wr q) (hb : Below wr.heap.size wr w2) : w.grownBy w2 q :=
  Aid.grown_tr h ⟨hb.os, hb.tape, hb.output, hb.size, fun k hk _ => hb.block k hk⟩
theorem own_some {w : World} {b T K n c : Nat} {A : Option Addr} {xs : List Value} (h : w.ownsRow b T K (.slice A n c) n xs) (hn : 0 < n) : ∃ g, A = some ⟨g, 0, none⟩ := by
  rcases h.2 with ⟨_, h0⟩ | ⟨g, cap, cur, hv, _⟩
  · omega
  · injection hv with e1; exact ⟨g, e1⟩
theorem own_stores {b T K n c g : Nat} (ps : List (Nat × Value)) : ∀ {w : World} {xs : List Value}, w.ownsRow b T K (.slice (some ⟨g, 0, none⟩) n c) n xs →
    (ps.foldl (fun w p => w.setCell ⟨g, p.1, none⟩ p.2) w).ownsRow b T K (.slice (some ⟨g, 0, none⟩) n c) n (ps.foldl (fun xs p => xs.set p.1 p.2) xs) ∧ w.grownBy (ps.foldl (fun w p => w.setCell ⟨g, p.1, none⟩ p.2) w) (some g) := by
  induction ps with
  | nil => intro w xs h; exact ⟨h, Aid.grown_refl _ _⟩
  | cons p ps ih =>
    intro w xs h
    have h1 := h.stored p.1 p.2
    have h2 := ih h1.1
    exact ⟨h2.1, Aid.grown_tr h1.2 h2.2⟩
theorem flat_set {α : Type} (f : α → List Value) (K : Nat) (hK : ∀ x, (f x).length = K) : ∀ (l : List α) (k j : Nat) (s1 s2 : α) (v : Value), k < l.length → j < K → (f s1).set j v = f s2 → ((l.set k s1).flatMap f).set (k * K + j) v = (l.set k s2).flatMap f := by
  intro l
  induction l with
  | nil => intro k j s1 s2 v hk; simp at hk
  | cons x l ih =>
    intro k j s1 s2 v hk hj hc
    cases k with
    | zero =>
      simp only [List.set_cons_zero, List.flatMap_cons, Nat.zero_mul, Nat.zero_add]
      rw [List.set_append_left _ _ (by rw [hK]; exact hj), hc]
    | succ k =>
      simp only [List.set_cons_succ, List.flatMap_cons]
      rw [List.set_append_right _ _ (by rw [hK, Nat.add_mul]; omega), hK, show (k + 1) * K + j - K = k * K + j by rw [Nat.add_mul]; omega, ih k j s1 s2 v (by simpa using hk) hj hc]
theorem set_self {α : Type} {l : List α} {k : Nat} {x : α} (h : l[k]? = some x) : l.set k x = l := by
  obtain ⟨hk, e⟩ := List.getElem?_eq_some_iff.1 h
  rw [← e]; simp
theorem map_flat {α : Type} (g : α → Value) (l : List α) : l.map g = l.flatMap (fun x => [g x]) := by
  induction l with
  | nil => rfl
  | cons x l ih => simp [List.flatMap_cons, ih]
theorem made_flat {α : Type} (f : α → List Value) (x0 : α) (z : Value) (K n : Nat) (hz : z.cells.toList = f x0) (hK : z.cells.size = K) (hp : 0 < K) : (madeCells z.cells (n * K)).toList = (List.replicate n x0).flatMap f := by
  have hl : (f x0).length = K := by rw [← hz, ← hK]; simp
  have hr : ∀ n, (List.range (n * K)).map (fun i => z.cells[i % z.cells.size]!) = (List.replicate n x0).flatMap f := by
    intro n
    induction n with
    | zero => simp
    | succ n ih =>
      rw [List.replicate_succ', List.flatMap_append, ← ih, Nat.add_mul, Nat.one_mul, List.range_add, List.map_append]
      congr 1
      simp only [List.map_map, List.flatMap_cons, List.flatMap_nil, List.append_nil]
      apply List.ext_getElem
      · simp [hl]
      · intro i h1 h2
        have hi : i < K := by simpa using h1
        simp only [List.getElem_map, List.getElem_range, Function.comp]
        rw [hK, Nat.add_comm, Nat.add_mul_mod_self_right, Nat.mod_eq_of_lt hi]
        have h3 : i < z.cells.size := by omega
        rw [getElem!_pos z.cells i h3]
        have : z.cells.toList[i]'(by simpa using h3) = z.cells[i] := by simp
        rw [← this]
        congr 1
  unfold madeCells
  rw [← hr n]
  simp
/-- a row is no longer than its room; nil has none -/
def Room (A : Option Addr) (n c : Nat) : Prop := n ≤ c ∧ (A = none → c = 0)
theorem own_room {w : World} {b T K n c : Nat} {A : Option Addr} {xs : List Value} (h : w.ownsRow b T K (.slice A n c) n xs) : Room A n c := by
  rcases h.2 with ⟨h1, h2⟩ | ⟨g, cap, cur, h1, _, _, hr, _⟩
  · simp only [Value.slice.injEq] at h1
    exact ⟨by omega, fun _ => by omega⟩
  · simp only [Value.slice.injEq] at h1
    exact ⟨by omega, fun e => by rw [h1.1] at e; simp at e⟩
theorem flat_drop {α : Type} (f : α → List Value) (K : Nat) (hK : ∀ x, (f x).length = K) : ∀ (l : List α) (j : Nat), (l.flatMap f).drop (j * K) = (l.drop j).flatMap f := by
  intro l
  induction l with
  | nil => intro j; simp
  | cons x l ih =>
    intro j
    cases j with
    | zero => simp
    | succ j =>
      have e : (j + 1) * K = (f x).length + j * K := by rw [hK x, Nat.add_mul]; omega
      rw [List.flatMap_cons, e, List.drop_append, List.drop_of_length_le (by omega), List.drop_succ_cons, ← ih j]
      simp
/-- s[lo:] of a row that came in -/
theorem slice_tail {P : Program} {t e : TypeId} {i : TypeInfo} {k : IntKind} {K n c : Nat} {A : Option Addr} {lo : Int} {w : World} {xs ys : List Value} {m : Nat}
    (ht : P.underlying t = some (.slice (P.elem t))) (he : P.elem t = e) (hi : P.info? e = some i) (hs : i.size = K) (hc : Cells w K A n xs) (hR : Room A n c) (hl : 0 ≤ lo ∧ lo ≤ (n : Int)) (hm : n - lo.toNat = m) (hd : xs.drop (lo.toNat * K) = ys) :
    ∃ A' c', (∀ W, (Instr.slice t (.slice A n c) (some (.int k lo)) none none).run P W = .ok (.slice A' m c') W) ∧ Cells w K A' m ys ∧ Room A' m c' := by
  subst hm; subst hd
  have hr := hR.1
  have hsz : ∀ W, (sizeOf (P.elem t)).run P W = .ok K W := by intro W; subst he; simp [sizeOf, typeInfo, hi, hs]
  refine ⟨if c = lo.toNat then A else A.map (·.add (lo.toNat * K)), c - lo.toNat, ?_, ?_, ⟨by omega, fun e => by
    have : A = none := by
      by_cases h : c = lo.toNat
      · rw [if_pos h] at e; exact e
      · rw [if_neg h] at e; simpa using e
    have := hR.2 this; omega⟩⟩
  · intro W
    rw [run_slice_l (P := P) W t A n c ht k lo hl.1 hl.2, hsz W]
    rfl
  · refine ⟨by rw [List.length_drop, hc.1, Nat.sub_mul], fun h0 => ?_⟩
    rw [List.length_drop] at h0
    obtain ⟨ad, rfl, h⟩ := hc.2 (by omega)
    have h1 := hc.1
    have hne : ¬ c = lo.toNat := by
      intro e2
      have : n = lo.toNat := by omega
      rw [h1, this] at h0; omega
    refine ⟨ad.add (lo.toNat * K), by rw [if_neg hne]; rfl, fun j u hu => ?_⟩
    rw [List.getElem?_drop] at hu
    have := h _ u hu
    rwa [Go.Deep.add_add]
theorem flat_take {α : Type} (f : α → List Value) (K : Nat) (hK : ∀ x, (f x).length = K) : ∀ (l : List α) (j : Nat), (l.flatMap f).take (j * K) = (l.take j).flatMap f := by
  intro l
  induction l with
  | nil => intro j; simp
  | cons x l ih =>
    intro j
    cases j with
    | zero => simp
    | succ j =>
      have e : (j + 1) * K = (f x).length + j * K := by rw [hK x, Nat.add_mul]; omega
      rw [List.flatMap_cons, e, List.take_append, List.take_of_length_le (by omega), List.take_succ_cons, List.flatMap_cons, ← ih j]
      simp
/-- s[:hi] of a row of its own -/
theorem slice_head {P : Program} {t e : TypeId} {i : TypeInfo} {k : IntKind} {K n c b : Nat} {A : Option Addr} {hi : Int} {w : World} {xs ys : List Value} {m : Nat}
    (ht : P.underlying t = some (.slice (P.elem t))) (he : P.elem t = e) (hi_ : P.info? e = some i) (hs : i.size = K) (h : w.ownsRow b e K (.slice A n c) n xs) (hl : 0 ≤ hi ∧ hi ≤ (n : Int)) (hm : hi.toNat = m) (hd : xs.take (hi.toNat * K) = ys) :
    (∀ W, (Instr.slice t (.slice A n c) none (some (.int k hi)) none).run P W = .ok (.slice A m c) W) ∧ w.ownsRow b e K (.slice A m c) m ys := by
  subst hm; subst hd
  have hR := own_room h
  have hsz : ∀ W, (sizeOf (P.elem t)).run P W = .ok K W := by intro W; subst he; simp [sizeOf, typeInfo, hi_, hs]
  have hz : ∀ a : Addr, a.add 0 = a := by intro a; unfold Addr.add; simp
  refine ⟨fun W => ?_, ?_, ?_⟩
  · rw [run_slice_h (P := P) W t A n c ht k hi hl.1 (by have := hR.1; omega), hsz W]
    cases A <;> simp [Result.andThen, sliced, hz]
  · rw [List.length_take, h.1]
    exact Nat.min_eq_left (Nat.mul_le_mul_right K (by omega))
  · rcases h.2 with ⟨h1, h2⟩ | ⟨g, cap, cur, h1, h2, h3, h4, h5, h6, h7⟩
    · simp only [Value.slice.injEq] at h1
      left
      have : hi.toNat = 0 := by omega
      exact ⟨by rw [h1.1, h1.2.2, this], this⟩
    · simp only [Value.slice.injEq] at h1
      right
      refine ⟨g, cap, cur, by rw [h1.1, h1.2.2], h2, h3, by omega, h5, h6, ?_⟩
      rw [← h7, List.take_take, Nat.min_eq_left (Nat.mul_le_mul_right K (by omega))]
/-- s[:hi] of a row that came in -/
theorem slice_headB {P : Program} {t e : TypeId} {i : TypeInfo} {k : IntKind} {K n c : Nat} {A : Option Addr} {hi : Int} {w : World} {xs ys : List Value} {m : Nat}
    (ht : P.underlying t = some (.slice (P.elem t))) (he : P.elem t = e) (hi_ : P.info? e = some i) (hs : i.size = K) (h : Cells w K A n xs) (hR : Room A n c) (hl : 0 ≤ hi ∧ hi ≤ (n : Int)) (hm : hi.toNat = m) (hd : xs.take (hi.toNat * K) = ys) :
    (∀ W, (Instr.slice t (.slice A n c) none (some (.int k hi)) none).run P W = .ok (.slice A m c) W) ∧ Cells w K A m ys ∧ Room A m c := by
  subst hm; subst hd
  have hsz : ∀ W, (sizeOf (P.elem t)).run P W = .ok K W := by intro W; subst he; simp [sizeOf, typeInfo, hi_, hs]
  have hz : ∀ a : Addr, a.add 0 = a := by intro a; unfold Addr.add; simp
  refine ⟨fun W => ?_, ⟨?_, fun h0 => ?_⟩, ⟨by have := hR.1; omega, hR.2⟩⟩
  · rw [run_slice_h (P := P) W t A n c ht k hi hl.1 (by have := hR.1; omega), hsz W]
    cases A <;> simp [Result.andThen, sliced, hz]
  · rw [List.length_take, h.1]
    exact Nat.min_eq_left (Nat.mul_le_mul_right K (by omega))
  · rw [List.length_take] at h0
    obtain ⟨ad, e, hc⟩ := h.2 (by omega)
    refine ⟨ad, e, fun j u hu => hc j u ?_⟩
    have := List.getElem?_take (l := xs) (i := hi.toNat * K) (j := j)
    rw [this] at hu
    split at hu
    · exact hu
    · cases hu
/-- append(a, b...) onto a row of its own -/
theorem append_spread {P : Program} {w : World} {ops : Array Oper} {rest : List Oper} {o : Oper} {a : Act} {Q : Exit → Act → World → Prop} (hgd : o.guard = none) (s x : Operand) (t : TypeId)
    (ho : o.op = .call { callee := .builtin .append, args := #[s, x], argTypes := #[t, t] })
    (base : Nat) (e : TypeId) (i : TypeInfo) (z : Value) (size bytes : Nat) (ht : P.underlying t = some (.slice e)) (hi : P.info? e = some i) (hz : i.zero = some z)
    (hsize : i.size = size) (hby : i.bytes = bytes) (hzs : z.cells.size = size) (hsz : 0 < size)
    (A1 : Option Addr) (c1 n : Nat) (xs : List Value) (hs : a.eval s = .slice A1 n c1) (hown : w.ownsRow base e size (.slice A1 n c1) n xs)
    (A : Option Addr) (m c : Nat) (news : List Value) (hx : a.eval x = .slice A m c) (hN : Room A m c) (hc : Cells w size A m news) (h1 : ∀ u ∈ news, u.oneCell' = true)
    (h63 : n + m ≤ maxLen) (hbytes : (n + m) * bytes ≤ 140737488355328) (hbase : base ≤ w.heap.size)
    (h : ∀ v' w', w'.ownsRow base e size v' (n + m) (xs ++ news) → w.grownBy w' (Value.slice A1 n c1).ownBlock → (v'.ownBlock = (Value.slice A1 n c1).ownBlock ∨ v'.ownBlock = some w.heap.size) → wpList P ops Q rest (a.put o.dst v') w') :
    wpList P ops Q (o :: rest) a w := by
  cases A with
  | some ad =>
    refine wpList_append_own_at w hgd s x t ho base e i z size bytes ht hi hz hsize hby hzs hsz _ n xs hs hown ad m c news hx hc.1 (fun j u hu => ?_) h1 h63 hbytes hbase (fun v' w' o1 g1 _ y1 => h v' w' o1 g1 y1)
    obtain ⟨ad', e', hcell⟩ := hc.2 (by have := (List.getElem?_eq_some_iff.1 hu).1; omega)
    obtain rfl : ad = ad' := Option.some.inj e'
    exact hcell j u hu
  | none =>
    have hm : m = 0 := by
      cases news with
      | nil =>
        have h0 : ([] : List Value).length = m * size := hc.1
        rw [List.length_nil] at h0
        rcases Nat.mul_eq_zero.1 h0.symm with h1 | h1 <;> omega
      | cons y l => obtain ⟨ad, e', _⟩ := hc.2 (by simp); simp at e'
    obtain rfl : c = 0 := hN.2 rfl
    subst hm
    have hn : news = [] := List.eq_nil_of_length_eq_zero (by have := hc.1; simpa using this)
    subst hn
    refine Go.wpList_append_own_none hgd s x t ho base e i size ht hi _ n xs hs hown hx ?_
    exact h _ w (by simpa using hown) (World.grownBy.refl w _) (.inl rfl)
theorem own_pushS {α : Type} {f : List α → List Value} {l b t : List α} {w' : World} {bs T K : Nat} {v' : Value} {n : Nat} (ht : l ++ b = t) (hf : f (l ++ b) = f l ++ f b) (hn : l.length = n) (h : w'.ownsRow bs T K v' (n + b.length) (f l ++ f b)) :
    ∃ A cap, v' = .slice A t.length cap ∧ w'.ownsRow bs T K (.slice A t.length cap) t.length (f t) := by
  subst ht
  subst hn
  rw [← List.length_append, ← hf] at h
  rcases h.2 with ⟨h1, h2⟩ | ⟨g3, cap3, _, h2, _⟩
  · have hv : v' = .slice none (l ++ b).length 0 := by rw [h1, h2]
    exact ⟨none, 0, hv, hv ▸ h⟩
  · exact ⟨_, _, h2, h2 ▸ h⟩
/-- w' is w but for two rows and for new blocks -/
structure Grown2 (w w' : World) (A1 A2 : Option Addr) : Prop where
  os : w'.os = w.os
  tape : w'.tape = w.tape
  output : w'.output = w.output
  size : w.heap.size ≤ w'.heap.size
  block : ∀ k, k < w.heap.size → (∀ a, A1 = some a → a.block ≠ k) → (∀ a, A2 = some a → a.block ≠ k) → w'.heap[k]? = w.heap[k]?
theorem grown2_refl (w : World) (A1 A2 : Option Addr) : Grown2 w w A1 A2 := ⟨rfl, rfl, rfl, Nat.le_refl _, fun _ _ _ _ => rfl⟩
theorem grown2_below {w wr w2 : World} {A1 A2 : Option Addr} (h : Grown2 w wr A1 A2) (hb : Below wr.heap.size wr w2) : Grown2 w w2 A1 A2 :=
  ⟨hb.os.trans h.os, hb.tape.trans h.tape, hb.output.trans h.output, Nat.le_trans h.size hb.size, fun k hk h1 h2 => (hb.block k (Nat.lt_of_lt_of_le hk h.size)).trans (h.block k hk h1 h2)⟩
theorem grown2_l {w wr w2 : World} {A1 A2 : Option Addr} {n c : Nat} (h : Grown2 w wr A1 A2) (hg : wr.grownBy w2 (Value.slice A1 n c).ownBlock) : Grown2 w w2 A1 A2 :=
  ⟨hg.os.trans h.os, hg.tape.trans h.tape, hg.output.trans h.output, Nat.le_trans h.size hg.size, fun k hk h1 h2 => (hg.block k (Nat.lt_of_lt_of_le hk h.size) (by
    cases A1 with
    | none => simp [Value.ownBlock]
    | some a => simp only [Value.ownBlock, ne_eq, Option.some.injEq]; exact fun e => h1 a rfl e.symm)).trans (h.block k hk h1 h2)⟩
theorem grown2_r {w wr w2 : World} {A1 A2 : Option Addr} {n c : Nat} (h : Grown2 w wr A1 A2) (hg : wr.grownBy w2 (Value.slice A2 n c).ownBlock) : Grown2 w w2 A1 A2 :=
  ⟨hg.os.trans h.os, hg.tape.trans h.tape, hg.output.trans h.output, Nat.le_trans h.size hg.size, fun k hk h1 h2 => (hg.block k (Nat.lt_of_lt_of_le hk h.size) (by
    cases A2 with
    | none => simp [Value.ownBlock]
    | some a => simp only [Value.ownBlock, ne_eq, Option.some.injEq]; exact fun e => h2 a rfl e.symm)).trans (h.block k hk h1 h2)⟩
theorem below2 {w wr w2 : World} {B : Nat} {A1 A2 : Option Addr} (h : Below B w wr) (hg : Grown2 wr w2 A1 A2) (hB : B ≤ wr.heap.size) (h1 : ∀ a, A1 = some a → B ≤ a.block) (h2 : ∀ a, A2 = some a → B ≤ a.block) : Below B w w2 :=
  ⟨hg.os.trans h.os, hg.tape.trans h.tape, hg.output.trans h.output, Nat.le_trans h.size hg.size, fun k hk => (hg.block k (Nat.lt_of_lt_of_le hk hB) (fun a e e2 => by have := h1 a e; omega) (fun a e e2 => by have := h2 a e; omega)).trans (h.block k hk)⟩
theorem own_other2 {w w' : World} {b T K n m c : Nat} {A1 A2 B : Option Addr} {ys : List Value} (h : w.ownsRow b T K (.slice B m c) n ys) (hg : Grown2 w w' A1 A2) (h1 : Apart A1 B) (h2 : Apart A2 B) : w'.ownsRow b T K (.slice B m c) n ys := by
  refine ⟨h.1, ?_⟩
  rcases h.2 with hn | ⟨g, cap, cur, hv, hb, hgg, rest⟩
  · exact .inl hn
  · have hlt := (h.lt g (by rw [hv]; rfl)).2
    have hB : B = some ⟨g, 0, none⟩ := by simp only [Value.slice.injEq] at hv; exact hv.1
    refine .inr ⟨g, cap, cur, hv, hb, ?_, rest⟩
    rw [hg.block g hlt (fun a e e2 => h1 a _ e hB e2) (fun a e e2 => h2 a _ e hB e2)]
    exact hgg
theorem cell_other2 {w w' : World} {A1 A2 : Option Addr} {a : Addr} {v : Value} (h : w.cell? a = some v) (hg : Grown2 w w' A1 A2) (h1 : Apart A1 (some ⟨a.block, 0, none⟩)) (h2 : Apart A2 (some ⟨a.block, 0, none⟩)) : w'.cell? a = some v := by
  rw [World.cell?_of_block (hg.block a.block (cell_lt h) (fun x e e2 => h1 x _ e rfl e2) (fun x e e2 => h2 x _ e rfl e2))]
  exact h
theorem own_ge2 {w : World} {b T K n m c : Nat} {A : Option Addr} {xs : List Value} (h : w.ownsRow b T K (.slice A m c) n xs) : ∀ a, A = some a → b ≤ a.block := fun a e => (own_lt h a e).1
end Go.Proofs.Ytdbgmcgjklmkkaa.GoM

/- Plain words on the record Ban: its fields, its cells, a list of it as cells one after the other. No condition. -/
namespace Go.Proofs.Ytdbgmcgjklmkkaa.PBan
set_option linter.unusedVariables false
set_option maxRecDepth 100000

structure Ban where
  a : Int
  x : Int
  b : Int
  y : Int
def Ban.cells (s : Ban) : List Value := [.int .i64 s.a, .int .i64 s.x, .int .i64 s.b, .int .i64 s.y]
def Ban.val (s : Ban) : Value := .agg #[.int .i64 s.a, .int .i64 s.x, .int .i64 s.b, .int .i64 s.y]
/-- each field fits -/
def Ban.fits (s : Ban) : Prop := (Lit.int .i64 s.a).wf = true ∧ (Lit.int .i64 s.x).wf = true ∧ (Lit.int .i64 s.b).wf = true ∧ (Lit.int .i64 s.y).wf = true
def zero : Ban := ⟨0, 0, 0, 0⟩
/-- the letters of its texts -/
def Ban.wt (s : Ban) : Nat := 0
def wts (l : List Ban) : Nat := (l.map Ban.wt).sum
theorem wts_snoc (l : List Ban) (s : Ban) : wts (l ++ [s]) = wts l + s.wt := by unfold wts; simp [List.sum_append]
theorem wts_succ {l : List Ban} {k : Nat} {s : Ban} (h : l[k]? = some s) : wts (l.take (k + 1)) = wts (l.take k) + s.wt := by
  have hk := List.getElem?_eq_some_iff.1 h
  rw [List.take_succ_eq_append_getElem hk.1, hk.2, wts_snoc]
theorem wts_take (l : List Ban) (k : Nat) : wts (l.take k) ≤ wts l := by
  have : wts l = wts (l.take k) + wts (l.drop k) := by
    unfold wts; rw [← List.sum_append, ← List.map_append, List.take_append_drop]
  omega
theorem wts_all (l : List Ban) : wts (l.take l.length) = wts l := by rw [List.take_of_length_le (Nat.le_refl _)]

/-- the cells of a list of records, one after the other -/
def flat (l : List Ban) : List Value := l.flatMap Ban.cells
theorem flat_nil : flat [] = [] := rfl
theorem flat_cons (s : Ban) (l : List Ban) : flat (s :: l) = s.cells ++ flat l := by simp [flat]
theorem flat_snoc (l : List Ban) (s : Ban) : flat (l ++ [s]) = flat l ++ s.cells := by simp [flat]
theorem flat_len (l : List Ban) : (flat l).length = l.length * 4 := by
  induction l with
  | nil => rfl
  | cons s l ih => rw [flat_cons, List.length_append, ih]; simp [Ban.cells]; omega
theorem flat_at : ∀ (l : List Ban) (k : Nat) (s : Ban), l[k]? = some s → ∀ j, j < 4 → (flat l)[k * 4 + j]? = s.cells[j]?
  | [], k, s, h, _, _ => by simp at h
  | r :: l, 0, s, h, j, hj => by
    obtain rfl : r = s := by simpa using h
    rw [flat_cons, List.getElem?_append_left (by simp [Ban.cells]; omega)]; simp
  | r :: l, k + 1, s, h, j, hj => by
    rw [flat_cons, List.getElem?_append_right (by simp [Ban.cells]; omega), show (k + 1) * 4 + j - r.cells.length = k * 4 + j by simp [Ban.cells]; omega]
    exact flat_at l k s (by simpa using h) j hj
end Go.Proofs.Ytdbgmcgjklmkkaa.PBan

/- A record Ban opened into its fields. No condition. -/
namespace Go.Proofs.Ytdbgmcgjklmkkaa.GoP
set_option linter.unusedVariables false
open Go.RowKit
def unBan {ρ : Type} (s : Go.Proofs.Ytdbgmcgjklmkkaa.PBan.Ban) (f : Int → Int → Int → Int → Option ρ) : Option ρ := f s.a s.x s.b s.y
theorem unBan_hid {ρ : Type} {x0 : Int} {x1 : Int} {x2 : Int} {x3 : Int} {f : Int → Int → Int → Int → Option ρ} {r : ρ} (H : Hid (unBan ⟨x0, x1, x2, x3⟩ f = some r)) : Hid (f x0 x1 x2 x3 = some r) := H
end Go.Proofs.Ytdbgmcgjklmkkaa.GoP

/- A record KindTable, whose fields are lists too. No condition. -/
namespace Go.Proofs.Ytdbgmcgjklmkkaa.PKindTable
structure KindTable where
  sizes : (List Int)
  bans : (List Go.Proofs.Ytdbgmcgjklmkkaa.PBan.Ban)
end Go.Proofs.Ytdbgmcgjklmkkaa.PKindTable

/- A record KindTable opened into its fields. No condition. -/
namespace Go.Proofs.Ytdbgmcgjklmkkaa.GoP
set_option linter.unusedVariables false
open Go.RowKit
def unKindTable {ρ : Type} (s : Go.Proofs.Ytdbgmcgjklmkkaa.PKindTable.KindTable) (f : (List Int) → (List Go.Proofs.Ytdbgmcgjklmkkaa.PBan.Ban) → Option ρ) : Option ρ := f s.sizes s.bans
theorem unKindTable_hid {ρ : Type} {x0 : (List Int)} {x1 : (List Go.Proofs.Ytdbgmcgjklmkkaa.PBan.Ban)} {f : (List Int) → (List Go.Proofs.Ytdbgmcgjklmkkaa.PBan.Ban) → Option ρ} {r : ρ} (H : Hid (unKindTable ⟨x0, x1⟩ f = some r)) : Hid (f x0 x1 = some r) := H
end Go.Proofs.Ytdbgmcgjklmkkaa.GoP

/- The contracts of the laws' helpers on slices of ints: toIntS, eqIntS, markIntS, heldIntS. Condition: the slice reads as a list of ints. -/
namespace Go.Proofs.Ytdbgmcgjklmkkaa.HelpInt
set_option linter.unusedVariables false
open Go.RowKit
open Go.Proofs.Ytdbgmcgjklmkkaa.Rowed

/-- ints as values -/
def iv (l : List Int) : List Value := l.map (Value.int .i64)
theorem iv_len (l : List Int) : (iv l).length = l.length := by simp [iv]
theorem iv_at (l : List Int) (k : Nat) : (iv l)[k]? = (l[k]?).map (Value.int .i64) := by simp [iv]
theorem iv_snoc (l : List Int) (x : Int) : iv (l ++ [x]) = iv l ++ [.int .i64 x] := by simp [iv]
/-- the slice 'A, n' reads as the ints l -/
abbrev Ints (w : World) (A : Option Addr) (n : Nat) (l : List Int) : Prop := Cells w 1 A n (iv l)
theorem add_none (b o n : Nat) : (⟨b, o, none⟩ : Addr).add n = ⟨b, o + n, none⟩ := by
  unfold Addr.add; split
  · rename_i h; subst h; rfl
  · rfl
theorem Ints.at_ {w : World} {A : Option Addr} {n k : Nat} {l : List Int} (h : Ints w A n l) (hk : k < n) : ∃ (b o : Nat) (x : Int), A = some ⟨b, o, none⟩ ∧ l[k]? = some x ∧ w.cell? ⟨b, o + k, none⟩ = some (.int .i64 x) := by
  have hl : k < l.length := by have := h.1; rw [iv_len] at this; omega
  obtain ⟨⟨b, o, sp⟩, e, hc⟩ := h.2 (by rw [iv_len]; omega)
  have h0 := hc 0 _ (by rw [iv_at, List.getElem?_eq_getElem (show 0 < l.length by omega)]; rfl)
  obtain rfl : sp = none := cell_spot (b := b) (o := o) h0
  have hs := List.getElem?_eq_getElem hl
  have := hc k (.int .i64 l[k]) (by rw [iv_at, hs]; rfl)
  rw [add_none] at this
  exact ⟨b, o, l[k], e, hs, this⟩

set_option maxHeartbeats 800000 in
/-- eqIntS, where both slices hold the same ints -/
theorem eq_same (A B : Option Addr) (n c d : Nat) (l : List Int) (w : World) (h1 : Ints w A n l) (h2 : Ints w B n l) (hn : n ≤ 9223372036854775807) :
    Calls Try.prog 16 #[.slice A n c, .slice B n d] w fun e w' => e = .returned (.bool true) ∧ DrawnTo w w' := by
  have H1 := Lib.hid h1
  have H2 := Lib.hid h2
  clear h1 h2
  go_enter Try.func16, Try.ntmps16
  go_wp2
  go_loopw [5] (fun i wr => ∃ k : Nat, k ≤ n ∧ i = .int .i64 k ∧ DrawnTo w wr) (fun i _ => n - (intOf i).toNat)
  case atStart => exact ⟨0, Nat.zero_le _, rfl, 0, rfl⟩
  case round =>
    obtain ⟨k, hk, rfl, m, rfl⟩ := hrel
    by_cases hlt : k < n
    · obtain ⟨ab, ao, x, rfl, hx, hc1⟩ := Ints.at_ H1.out hlt
      obtain ⟨bb, bo, y, rfl, hy, hc2⟩ := Ints.at_ H2.out hlt
      obtain rfl : x = y := by rw [hx] at hy; exact Option.some.inj hy
      clear hx hy
      have hb1 : 0 ≤ (k : Int) := by omega
      have hb2 : (k : Int) < n := by omega
      go_wp2_with fail
      go_quiet (fail)
      go_wp2_with fail
      go_roundw
      case rel => exact ⟨k + 1, by omega, by go_num, _, rfl⟩
      case measure => simp [intOf]; omega
    · go_wp2
      go_ret
      exact ⟨rfl, m, rfl⟩

/-- the marks k, k + 1, .. -/
def imarks (k n : Nat) : List Value := (List.range n).map fun i => Value.int .i64 ((k + i : Nat) : Int)
theorem imarks_len (k n : Nat) : (imarks k n).length = n := by simp [imarks]
theorem imarks_at (k n i : Nat) (h : i < n) : (imarks k n)[i]? = some (.int .i64 ((k + i : Nat) : Int)) := by
  unfold imarks; rw [List.getElem?_map, List.getElem?_range h]; rfl
theorem grown_of {W W' : World} (h : Below W.heap.size W W') : W.grownBy W' none := ⟨h.os, h.tape, h.output, h.size, fun k hk _ => h.block k hk⟩
theorem grown_tr {a b c : World} {r : Option Nat} (h : a.grownBy b r) (k : b.grownBy c r) : a.grownBy c r :=
  ⟨k.os.trans h.os, k.tape.trans h.tape, k.output.trans h.output, Nat.le_trans h.size k.size, fun i hi hr => (k.block i (Nat.lt_of_lt_of_le hi h.size) hr).trans (h.block i hi hr)⟩
theorem grown_refl (w : World) (r : Option Nat) : w.grownBy w r := ⟨rfl, rfl, rfl, Nat.le_refl _, fun _ _ _ => rfl⟩

def MarkRel (w : World) (base n c k : Nat) (A : Option Addr) (xs : List Value) (i : Nat) (wr : World) : Prop :=
  wr.ownsRow base 3 1 (.slice A n c) n (fill (imarks k n) xs i) ∧ w.grownBy wr (Value.slice A n c).ownBlock

theorem mark_next {w wr : World} {base n c k i : Nat} {A : Option Addr} {xs : List Value} (h : MarkRel w base n c k A xs i wr) (hxs : xs.length = n) (hi : i < n) :
    ∃ g y, A = some ⟨g, 0, none⟩ ∧ wr.cell? ⟨g, i, none⟩ = some y ∧ wr.frozen? ⟨g, i, none⟩ = false ∧ MarkRel w base n c k A xs (i + 1) (wr.setCell ⟨g, i, none⟩ (.int .i64 ((k + i : Nat) : Int))) := by
  obtain ⟨g, rfl⟩ : ∃ g, A = some ⟨g, 0, none⟩ := by
    rcases h.1.2 with ⟨_, h0⟩ | ⟨g, cap, cur, hv, _⟩
    · omega
    · injection hv with h1 h2 h3; exact ⟨g, h1⟩
  have h1 := h.1
  have hlen : (fill (imarks k n) xs i).length = n := by rw [fill_len _ _ _ (by rw [imarks_len, hxs])]; exact hxs
  have hc := h1.cellAt i (by omega)
  rw [List.getElem?_eq_getElem (by omega)] at hc
  refine ⟨g, _, rfl, hc, h1.frozenAt i, ?_, ?_⟩
  · have := (h1.stored i (.int .i64 ((k + i : Nat) : Int))).1
    rw [fill_set _ _ _ _ (by omega) (imarks_at k n i hi)] at this
    exact this
  · exact grown_tr h.2 (h1.stored i (.int .i64 ((k + i : Nat) : Int))).2

def MarkPost (w : World) (base n c k : Nat) (A : Option Addr) (e : Ending) (w' : World) : Prop :=
  e = .returned (.int .i64 ((k + n : Nat) : Int)) ∧ w'.ownsRow base 3 1 (.slice A n c) n (imarks k n) ∧ w.grownBy w' (Value.slice A n c).ownBlock

set_option maxHeartbeats 1000000 in
theorem mark_any (w : World) (base n c k : Nat) (A : Option Addr) (xs : List Value) (h : w.ownsRow base 3 1 (.slice A n c) n xs) (hn : n ≤ 1048576) (hk2 : k ≤ 100000000000) :
    Calls Try.prog 19 #[.slice A n c, .int .i64 (k : Int)] w (MarkPost w base n c k A) := by
  have hxs : Hid (xs.length = n) := Lib.hid (by have := h.1; omega)
  have HR0 : Hid (MarkRel w base n c k A xs 0 w) := Lib.hid ⟨by rw [fill_zero]; exact h, grown_refl _ _⟩
  clear h
  go_enter Try.func19, Try.ntmps19
  go_wp2_with fail
  go_loopw [1, 5] (fun t i wr => ∃ j : Nat, j ≤ n ∧ i = .int .i64 j ∧ t = .int .i64 ((k + j : Nat) : Int) ∧ Hid (MarkRel w base n c k A xs j wr)) (fun _ i _ => n - (intOf i).toNat)
  case atStart => exact ⟨0, Nat.zero_le _, rfl, rfl, HR0⟩
  case round =>
    obtain ⟨j, hj, rfl, rfl, HR⟩ := hrel
    by_cases hlt : j < n
    · obtain ⟨g, y, rfl, hc, hf, hR1⟩ := mark_next HR.out hxs.out hlt
      have HR1 := Lib.hid hR1
      clear hR1
      go_wp2_with fail
      go_roundw
      case rel => exact ⟨j + 1, by omega, by go_num, by go_num, HR1⟩
      case measure => simp [intOf]; omega
    · obtain rfl : j = n := by omega
      have HF := Lib.hid HR.out.1
      go_wp2_with fail
      go_ret
      exact ⟨rfl, by rw [← fill_all (imarks k j) xs (by rw [imarks_len]; exact hxs.out), imarks_len]; exact HF.out, HR.out.2⟩

set_option maxHeartbeats 1000000 in
theorem held_any (w : World) (n c k : Nat) (A : Option Addr) (h : Cells w 1 A n (imarks k n)) (hn : n ≤ 1048576) (hk2 : k ≤ 100000000000) :
    Calls Try.prog 20 #[.slice A n c, .int .i64 (k : Int)] w fun e w' => e = .returned (.int .i64 ((k + n : Nat) : Int)) ∧ w = w' := by
  have HH : Hid (Ints w A n ((List.range n).map fun i => ((k + i : Nat) : Int))) := Lib.hid (by show Cells w 1 A n _; unfold iv; rw [List.map_map]; exact h)
  clear h
  go_enter Try.func20, Try.ntmps20
  go_wp2_with fail
  go_loop [1, 5] (fun t i => ∃ j : Nat, j ≤ n ∧ i = .int .i64 j ∧ t = .int .i64 ((k + j : Nat) : Int)) (fun _ i => n - (intOf i).toNat)
  case atStart => exact ⟨0, Nat.zero_le _, rfl, rfl⟩
  case round =>
    obtain ⟨j, hj, rfl, rfl⟩ := hrel
    by_cases hlt : j < n
    · obtain ⟨ab, ao, x, rfl, hx, hc⟩ := Ints.at_ HH.out hlt
      rw [List.getElem?_map, List.getElem?_range hlt] at hx
      obtain rfl : ((k + j : Nat) : Int) = x := by simpa using hx
      clear hx
      go_wp2_with fail
      go_round
      case rel => exact ⟨j + 1, by omega, by go_num, by go_num⟩
      case measure => simp [intOf]; omega
    · obtain rfl : j = n := by omega
      go_wp2_with fail
      go_ret
      exact ⟨rfl, rfl⟩

/-- a slice that is owned, as a slice that reads -/
theorem own_cells {w : World} {base n c size : Nat} {A : Option Addr} {e : TypeId} {xs : List Value} (h : w.ownsRow base e size (.slice A n c) n xs) : Cells w size A n xs := by
  rcases h.2 with ⟨hv, h0⟩ | ⟨g, cap, cur, hv, _⟩
  · subst h0
    have := h.1
    exact ⟨h.1, fun hn => by omega⟩
  · injection hv with h1 h2 h3
    subst h1
    exact Cells.of_own h
theorem own_base_le {w : World} {base n c size b : Nat} {A : Option Addr} {e : TypeId} {xs : List Value} (h : w.ownsRow base e size (.slice A n c) n xs) (hb : (Value.slice A n c).ownBlock = some b) : base ≤ b ∧ b < w.heap.size := h.lt b hb
theorem own_below {w w' : World} {base n c size : Nat} {A : Option Addr} {e : TypeId} {xs : List Value} (h : w.ownsRow base e size (.slice A n c) n xs) (hb : Below w.heap.size w w') : w'.ownsRow base e size (.slice A n c) n xs :=
  h.kept (grown_of hb) (by cases (Value.slice A n c).ownBlock <;> simp)
/-- what is written is another block -/
theorem own_grown {w w' : World} {base n c size : Nat} {A : Option Addr} {e : TypeId} {xs : List Value} {r : Option Nat} (h : w.ownsRow base e size (.slice A n c) n xs) (hg : w.grownBy w' r) (hne : ∀ b, (Value.slice A n c).ownBlock = some b → r ≠ some b) : w'.ownsRow base e size (.slice A n c) n xs := by
  refine h.kept hg ?_
  cases ho : (Value.slice A n c).ownBlock with
  | none => exact .inl rfl
  | some b => exact .inr (fun e => hne b ho e.symm)
theorem cells_grown {w w' : World} {size n : Nat} {A : Option Addr} {xs : List Value} {r : Option Nat} (h : Cells w size A n xs) (hg : w.grownBy w' r) (hne : ∀ a, A = some a → r ≠ some a.block) : Cells w' size A n xs :=
  ⟨h.1, fun hn => by
    obtain ⟨ad, rfl, hc⟩ := h.2 hn
    exact ⟨_, rfl, fun j u hu => hg.cell (hc j u hu) (by rw [add_block]; exact fun e => hne ad rfl e.symm)⟩⟩
end Go.Proofs.Ytdbgmcgjklmkkaa.HelpInt

/- loop.example/g01062/laws.szIntS as a plain function, and the contract of the program's: where the plain one has an answer, the program has it. Conditions: slices read as lists. -/
namespace Go.Proofs.Ytdbgmcgjklmkkaa.GlSzIntS
set_option linter.unusedVariables false
set_option linter.unusedSimpArgs false
open Go.RowKit
open Go.Proofs.Ytdbgmcgjklmkkaa.Rowed Go.Proofs.Ytdbgmcgjklmkkaa.Turn Go.Proofs.Ytdbgmcgjklmkkaa.Aid Go.Proofs.Ytdbgmcgjklmkkaa.GoP Go.Proofs.Ytdbgmcgjklmkkaa.GoM

def P (a : (List Int)) (left : Int) : Option (Int) :=
  letK (IntKind.i64.wrap (left - (a.length : Int))) fun (t_4 : Int) =>
  letK (decide (t_4 < 0)) fun (t_7 : Bool) =>
  iteK t_7
  (some (-1))
  (some t_4)

set_option maxRecDepth 100000 in
set_option maxHeartbeats 2000000 in
theorem C (a : (List Int)) (left : Int) (A0 : Option Addr) (c0 : Nat)  (w : World) (M0 : Hid (Cells w 1 A0 a.length (Go.Proofs.Ytdbgmcgjklmkkaa.HelpInt.iv a))) (N0 : Hid (a.length ≤ 9223372036854775807))  {r : Int} (H : Hid (P a left = some r)) :
    Calls Try.prog 66 #[.slice A0 a.length c0, .int .i64 left] w (Gives (.int .i64 r) w) := by
  have HB := Lib.hid (Below.refl w.heap.size w)
  unfold P at H
  have N0o := N0.out
  go_enter Try.func66, Try.ntmps66
  replace H := let_hid H
  obtain ⟨t_4, ht_4, H⟩ := H
  replace H := let_hid H
  obtain ⟨t_7, ht_7, H⟩ := H
  cases t_7 with
  | false =>
    replace H := ite_f H
    obtain rfl := ret_hid H
    go_wp2_with fail
    go_ret
    exact ⟨rfl, HB.out⟩
  | true =>
    replace H := ite_t H
    obtain rfl := ret_hid H
    go_wp2_with fail
    go_ret
    exact ⟨rfl, HB.out⟩

set_option maxRecDepth 100000 in
set_option maxHeartbeats 2000000 in
theorem C0 (a : (List Int)) (left : Int) (A0 : Option Addr) (c0 : Nat)  (w : World) (M0 : Hid (Cells w 1 A0 a.length (Go.Proofs.Ytdbgmcgjklmkkaa.HelpInt.iv a))) (N0 : Hid (a.length ≤ 9223372036854775807))  {r : Int} (H : Hid (P a left = some r)) :
    Calls Try.prog 66 #[.slice A0 a.length c0, .int .i64 left] w (fun e w'' => e = .returned (.int .i64 r) ∧ w'' = w) := by
  have HB := Lib.hid (Below.refl w.heap.size w)
  unfold P at H
  have N0o := N0.out
  go_enter Try.func66, Try.ntmps66
  replace H := let_hid H
  obtain ⟨t_4, ht_4, H⟩ := H
  replace H := let_hid H
  obtain ⟨t_7, ht_7, H⟩ := H
  cases t_7 with
  | false =>
    replace H := ite_f H
    obtain rfl := ret_hid H
    go_wp2_with fail
    go_ret
    exact ⟨rfl, rfl⟩
  | true =>
    replace H := ite_t H
    obtain rfl := ret_hid H
    go_wp2_with fail
    go_ret
    exact ⟨rfl, rfl⟩
end Go.Proofs.Ytdbgmcgjklmkkaa.GlSzIntS

/- loop.example/g01062/laws.szBanS as a plain function, and the contract of the program's: where the plain one has an answer, the program has it. Conditions: slices read as lists. -/
namespace Go.Proofs.Ytdbgmcgjklmkkaa.GlSzBanS
set_option linter.unusedVariables false
set_option linter.unusedSimpArgs false
open Go.RowKit
open Go.Proofs.Ytdbgmcgjklmkkaa.Rowed Go.Proofs.Ytdbgmcgjklmkkaa.Turn Go.Proofs.Ytdbgmcgjklmkkaa.Aid Go.Proofs.Ytdbgmcgjklmkkaa.GoP Go.Proofs.Ytdbgmcgjklmkkaa.GoM

def P (a : (List Go.Proofs.Ytdbgmcgjklmkkaa.PBan.Ban)) (left : Int) : Option (Int) :=
  letK (IntKind.i64.wrap (left - (a.length : Int))) fun (t_4 : Int) =>
  letK (decide (t_4 < 0)) fun (t_7 : Bool) =>
  iteK t_7
  (some (-1))
  (some t_4)

set_option maxRecDepth 100000 in
set_option maxHeartbeats 2000000 in
theorem C (a : (List Go.Proofs.Ytdbgmcgjklmkkaa.PBan.Ban)) (left : Int) (A0 : Option Addr) (c0 : Nat)  (w : World) (M0 : Hid (Cells w 4 A0 a.length (Go.Proofs.Ytdbgmcgjklmkkaa.PBan.flat a))) (N0 : Hid (a.length ≤ 9223372036854775807))  {r : Int} (H : Hid (P a left = some r)) :
    Calls Try.prog 67 #[.slice A0 a.length c0, .int .i64 left] w (Gives (.int .i64 r) w) := by
  have HB := Lib.hid (Below.refl w.heap.size w)
  unfold P at H
  have N0o := N0.out
  go_enter Try.func67, Try.ntmps67
  replace H := let_hid H
  obtain ⟨t_4, ht_4, H⟩ := H
  replace H := let_hid H
  obtain ⟨t_7, ht_7, H⟩ := H
  cases t_7 with
  | false =>
    replace H := ite_f H
    obtain rfl := ret_hid H
    go_wp2_with fail
    go_ret
    exact ⟨rfl, HB.out⟩
  | true =>
    replace H := ite_t H
    obtain rfl := ret_hid H
    go_wp2_with fail
    go_ret
    exact ⟨rfl, HB.out⟩

set_option maxRecDepth 100000 in
set_option maxHeartbeats 2000000 in
theorem C0 (a : (List Go.Proofs.Ytdbgmcgjklmkkaa.PBan.Ban)) (left : Int) (A0 : Option Addr) (c0 : Nat)  (w : World) (M0 : Hid (Cells w 4 A0 a.length (Go.Proofs.Ytdbgmcgjklmkkaa.PBan.flat a))) (N0 : Hid (a.length ≤ 9223372036854775807))  {r : Int} (H : Hid (P a left = some r)) :
    Calls Try.prog 67 #[.slice A0 a.length c0, .int .i64 left] w (fun e w'' => e = .returned (.int .i64 r) ∧ w'' = w) := by
  have HB := Lib.hid (Below.refl w.heap.size w)
  unfold P at H
  have N0o := N0.out
  go_enter Try.func67, Try.ntmps67
  replace H := let_hid H
  obtain ⟨t_4, ht_4, H⟩ := H
  replace H := let_hid H
  obtain ⟨t_7, ht_7, H⟩ := H
  cases t_7 with
  | false =>
    replace H := ite_f H
    obtain rfl := ret_hid H
    go_wp2_with fail
    go_ret
    exact ⟨rfl, rfl⟩
  | true =>
    replace H := ite_t H
    obtain rfl := ret_hid H
    go_wp2_with fail
    go_ret
    exact ⟨rfl, rfl⟩
end Go.Proofs.Ytdbgmcgjklmkkaa.GlSzBanS

/- loop.example/g01062/laws.szKindTable as a plain function, and the contract of the program's: where the plain one has an answer, the program has it. Conditions: slices read as lists. -/
namespace Go.Proofs.Ytdbgmcgjklmkkaa.GlSzKindTable
set_option linter.unusedVariables false
set_option linter.unusedSimpArgs false
open Go.RowKit
open Go.Proofs.Ytdbgmcgjklmkkaa.Rowed Go.Proofs.Ytdbgmcgjklmkkaa.Turn Go.Proofs.Ytdbgmcgjklmkkaa.Aid Go.Proofs.Ytdbgmcgjklmkkaa.GoP Go.Proofs.Ytdbgmcgjklmkkaa.GoM

def P (a_sizes : (List Int)) (a_bans : (List Go.Proofs.Ytdbgmcgjklmkkaa.PBan.Ban)) (left : Int) : Option (Int) :=
  Option.bind (Go.Proofs.Ytdbgmcgjklmkkaa.GlSzIntS.P a_sizes left) fun (t_5 : Int) =>
  letK (decide (t_5 < 0)) fun (t_8 : Bool) =>
  iteK t_8
  (some (-1))
  (Option.bind (Go.Proofs.Ytdbgmcgjklmkkaa.GlSzBanS.P a_bans t_5) fun (t_13 : Int) =>
  letK (decide (t_13 < 0)) fun (t_16 : Bool) =>
  iteK t_16
  (some (-1))
  (some t_13))

set_option maxRecDepth 100000 in
set_option maxHeartbeats 2000000 in
theorem C (a_sizes : (List Int)) (a_bans : (List Go.Proofs.Ytdbgmcgjklmkkaa.PBan.Ban)) (left : Int) (A0_0 : Option Addr) (c0_0 : Nat) (A0_1 : Option Addr) (c0_1 : Nat)  (w : World) (M0_0 : Hid (Cells w 1 A0_0 a_sizes.length (Go.Proofs.Ytdbgmcgjklmkkaa.HelpInt.iv a_sizes))) (N0_0 : Hid (a_sizes.length ≤ 9223372036854775807)) (M0_1 : Hid (Cells w 4 A0_1 a_bans.length (Go.Proofs.Ytdbgmcgjklmkkaa.PBan.flat a_bans))) (N0_1 : Hid (a_bans.length ≤ 9223372036854775807))  {r : Int} (H : Hid (P a_sizes a_bans left = some r)) :
    Calls Try.prog 12 #[.agg #[.slice A0_0 a_sizes.length c0_0, .slice A0_1 a_bans.length c0_1], .int .i64 left] w (Gives (.int .i64 r) w) := by
  have HB := Lib.hid (Below.refl w.heap.size w)
  unfold P at H
  have N0_0o := N0_0.out
  have N0_1o := N0_1.out
  go_enter Try.func12, Try.ntmps12
  obtain ⟨w_a_0, hw_a_0⟩ : ∃ x, w.alloc (.cells #[.slice A0_0 a_sizes.length c0_0, .slice A0_1 a_bans.length c0_1] 25) = x := ⟨_, rfl⟩
  have bw_a_0 : Below w.heap.size w w_a_0 := by rw [← hw_a_0]; exact (Below.refl _ _).alloc (Nat.le_refl _) _
  have HBw_a_0 := Lib.hid (Below.step HB.out bw_a_0)
  clear bw_a_0
  have ka_0_0 : w_a_0.cell? ⟨w.heap.size, 0, none⟩ = some (.slice A0_0 a_sizes.length c0_0) := by rw [← hw_a_0]; exact box_new _ _ _ 0 _ rfl
  have ka_0_1 : w_a_0.cell? ⟨w.heap.size, 1, none⟩ = some (.slice A0_1 a_bans.length c0_1) := by rw [← hw_a_0]; exact box_new _ _ _ 1 _ rfl
  replace H := bind_hid H
  obtain ⟨t_5, qt_5, H⟩ := H
  go_wp2_with fail
  go_at_call 66
  refine (Go.Proofs.Ytdbgmcgjklmkkaa.GlSzIntS.C (a_sizes) (left) A0_0 c0_0 _   (Lib.hid (Cells.below M0_0.out HBw_a_0.out)) N0_0 qt_5).mono ?_
  rintro e_t_5 wt_5 ⟨rfl, bt_5⟩
  have HBwt_5 := Lib.hid (Below.step HBw_a_0.out bt_5)
  replace ka_0_0 := cell_below bt_5 ka_0_0
  replace ka_0_1 := cell_below bt_5 ka_0_1
  clear bt_5
  replace H := let_hid H
  obtain ⟨t_8, ht_8, H⟩ := H
  cases t_8 with
  | false =>
    replace H := ite_f H
    replace H := bind_hid H
    obtain ⟨t_13, qt_13, H⟩ := H
    go_wp2_with fail
    go_at_call 67
    refine (Go.Proofs.Ytdbgmcgjklmkkaa.GlSzBanS.C (a_bans) (t_5) A0_1 c0_1 _   (Lib.hid (Cells.below M0_1.out HBwt_5.out)) N0_1 qt_13).mono ?_
    rintro e_t_13 wt_13 ⟨rfl, bt_13⟩
    have HBwt_13 := Lib.hid (Below.step HBwt_5.out bt_13)
    replace ka_0_0 := cell_below bt_13 ka_0_0
    replace ka_0_1 := cell_below bt_13 ka_0_1
    clear bt_13
    replace H := let_hid H
    obtain ⟨t_16, ht_16, H⟩ := H
    cases t_16 with
    | false =>
      replace H := ite_f H
      obtain rfl := ret_hid H
      go_wp2_with fail
      go_ret
      exact ⟨rfl, HBwt_13.out⟩
    | true =>
      replace H := ite_t H
      obtain rfl := ret_hid H
      go_wp2_with fail
      go_ret
      exact ⟨rfl, HBwt_13.out⟩
  | true =>
    replace H := ite_t H
    obtain rfl := ret_hid H
    go_wp2_with fail
    go_ret
    exact ⟨rfl, HBwt_5.out⟩
end Go.Proofs.Ytdbgmcgjklmkkaa.GlSzKindTable

/- loop.example/g01062/laws.toIntS as a plain function, and the contract of the program's: where the plain one has an answer, the program has it. Conditions: slices read as lists. -/
namespace Go.Proofs.Ytdbgmcgjklmkkaa.GlToIntS
set_option linter.unusedVariables false
set_option linter.unusedSimpArgs false
open Go.RowKit
open Go.Proofs.Ytdbgmcgjklmkkaa.Rowed Go.Proofs.Ytdbgmcgjklmkkaa.Turn Go.Proofs.Ytdbgmcgjklmkkaa.Aid Go.Proofs.Ytdbgmcgjklmkkaa.GoP Go.Proofs.Ytdbgmcgjklmkkaa.GoM

def l0 (a : (List Int)) (k0 : Nat) (s : (List Int)) (nx0 bk0 : (List Int) → Option ((List Int))) : Option ((List Int)) :=
  letK s fun out_3l0 =>
  Option.bind (idx a (k0 : Int)) fun (yt_14 : Int) =>
  Option.bind (idx out_3l0 (k0 : Int)) fun (yt_16 : Int) =>
  letK (out_3l0.set k0 yt_14) fun (l17_17 : (List Int)) =>
  appK nx0 (l17_17)

def e0  (s : (List Int)) : Option ((List Int)) :=
  letK s fun out_3l0 =>
  some out_3l0

def P (a : (List Int)) : Option ((List Int)) :=
  guardK (0 ≤ (a.length : Int) ∧ (a.length : Int) ≤ 1099511627776) <|
  letK (List.replicate a.length 0) fun (t_3 : (List Int)) =>
  cntK (l0 a) (a.length) 0 (t_3) (e0 )

set_option maxRecDepth 100000 in
set_option maxHeartbeats 2000000 in
theorem C (a : (List Int)) (A0 : Option Addr) (c0 : Nat)  (w : World) (M0 : Hid (Cells w 1 A0 a.length (Go.Proofs.Ytdbgmcgjklmkkaa.HelpInt.iv a))) (N0 : Hid (a.length ≤ 9223372036854775807))  {r : (List Int)} (H : Hid (P a = some r)) :
    Calls Try.prog 70 #[.slice A0 a.length c0] w (fun e w' => ∃ A_r c_r, e = .returned (.slice A_r r.length c_r) ∧ w'.ownsRow w.heap.size 3 1 (.slice A_r r.length c_r) r.length (Go.Proofs.Ytdbgmcgjklmkkaa.HelpInt.iv r) ∧ Below w.heap.size w w') := by
  have HB := Lib.hid (Below.refl w.heap.size w)
  unfold P at H
  have N0o := N0.out
  obtain ⟨i0_3, hi_3, hz0_3, hz1_3, hz2_3⟩ := Aid.info_parts (P := Try.prog) (T := 3) (z := .int .i64 0) (s := 1) (b := 8) (by kernel_rfl)
  go_enter Try.func70, Try.ntmps70
  replace H := guard_hid H
  obtain ⟨hnt_3, H⟩ := H
  replace H := let_hid H
  obtain ⟨t_3, ht_3, H⟩ := H
  have hst_3 := HB.out.size
  have hlt_3 : t_3.length = a.length := by rw [← ht_3]; simp
  have hht_3 := Lib.hid ht_3
  clear ht_3
  go_wp2_with (at_make; refine wpList_make_full _ rfl _ _ 22 rfl w.heap.size 3 i0_3 (.int .i64 0) 1 Try.underlying22 hi_3 hz0_3 hz1_3 .i64 .i64 _ _ a.length rfl rfl (by omega) (by omega) (by rw [hz2_3]; omega) (by unfold maxLen; omega) hst_3 ?_; intro wt_3 ot_3 gt_3; have Qt_3 := Lib.hid ot_3; have Gt_3 := Lib.hid gt_3; clear ot_3 gt_3; refine stop_in ?_)
  refine stop_out ?_
  have hv_ : (Value.slice (some ⟨w.heap.size, 0, none⟩) a.length a.length : Value) = Value.slice (some ⟨w.heap.size, 0, none⟩) t_3.length a.length := by rw [hlt_3]
  rw [hv_]
  clear hv_
  have Et_3 : (Go.Proofs.Ytdbgmcgjklmkkaa.HelpInt.iv t_3) = (madeCells (.int .i64 0 : Value).cells (a.length * 1)).toList := by
    rw [made_flat (fun x => [.int .i64 x]) 0 _ 1 _ rfl rfl (by decide), ← hht_3.out]
    exact map_flat _ _
  have Pt_3 : Hid (wt_3.ownsRow w.heap.size 3 1 (.slice (some ⟨w.heap.size, 0, none⟩) a.length a.length) a.length (Go.Proofs.Ytdbgmcgjklmkkaa.HelpInt.iv t_3)) := Lib.hid (by rw [Et_3]; exact Qt_3.out)
  clear Et_3
  replace hlt_3 := Lib.hid hlt_3
  clear Qt_3 hst_3
  have bt_3 : Below w.heap.size w wt_3 := (Below.refl _ _).grown Gt_3.out (Nat.le_refl _) (by simp)
  clear Gt_3
  have HBwt_3 := Lib.hid (Below.step HB.out bt_3)
  clear bt_3
  replace Pt_3 := Lib.hid (own_len hlt_3.out Pt_3.out)
  go_wp2_with fail
  go_wp2_with fail
  go_loopg [4] (a.length) (fun m_ v4_ wr => ∃ (k0 : Nat) (out_3l0 : (List Int)), k0 + m_ = a.length ∧ v4_ = .int .i64 (k0 : Int) ∧ Hid (cntK (l0 a) m_ k0 (out_3l0) (e0 ) = some r) ∧ Hid (Below w.heap.size w wr) ∧ Hid (wr.ownsRow w.heap.size 3 1 (.slice (some ⟨w.heap.size, 0, none⟩) t_3.length a.length) t_3.length (Go.Proofs.Ytdbgmcgjklmkkaa.HelpInt.iv out_3l0)) ∧ Hid (out_3l0.length = t_3.length))
  case atStart => exact ⟨0, _, by omega, rfl, H, HBwt_3, Pt_3, Lib.hid (rfl)⟩
  case round =>
    obtain ⟨k0, out_3l0, hkm0, rfl, H, HBwr0, Oout_3l0, hnout_3l0⟩ := hrel
    rename World => wr0
    cases gk with
    | zero =>
      obtain rfl : k0 = a.length := by omega
      have hc0 : decide (((a.length : Nat) : Int) < ((a.length : Nat) : Int)) = false := by simp
      replace H := cnt_zero H
      unfold e0 at H
      replace H := let_hid H
      obtain ⟨_, rfl, H⟩ := H
      obtain rfl := ret_hid H
      go_wp2_with fail
      go_ret
      have hr_0 := hnout_3l0.out
      replace Oout_3l0 := Lib.hid (own_len hr_0 Oout_3l0.out)
      exact ⟨(some ⟨w.heap.size, 0, none⟩), a.length, (by first | (rw [hr_0]; done) | (rw [hr_0]; rfl)), Oout_3l0.out, HBwr0.out⟩
    | succ m0 =>
      have hlt0 : k0 < a.length := by omega
      have hc0 : decide ((k0 : Int) < ((a.length : Nat) : Int)) = true := by simp; omega
      replace H := cnt_succ H
      unfold l0 at H
      replace H := let_hid H
      obtain ⟨_, rfl, H⟩ := H
      replace H := idx_hid H
      obtain ⟨nt_14, yt_14, et_14, lt_14, gt_14, H⟩ := H
      obtain rfl : k0 = nt_14 := by omega
      clear et_14
      obtain ⟨ab_t_14, ao_t_14, zt_14, At_14, z_t_14, ct_14_0⟩ := Go.Proofs.Ytdbgmcgjklmkkaa.HelpInt.Ints.at_ M0.out lt_14
      obtain rfl := Option.some.inj (gt_14.out.symm.trans z_t_14)
      subst At_14
      have ltt_14 := cell_lt ct_14_0
      replace ct_14_0 := cell_below HBwr0.out ct_14_0
      clear z_t_14
      have b0t_14 : (0 : Int) ≤ (k0 : Int) := by omega
      have b1t_14 : (k0 : Int) < ((a.length : Nat) : Int) := by omega
      have b2t_14 : ((k0 : Int)).toNat = k0 := by omega
      replace H := idx_hid H
      obtain ⟨nt_16, yt_16, et_16, lt_16, gt_16, H⟩ := H
      obtain rfl : k0 = nt_16 := by omega
      clear et_16
      have hqt_16 := hnout_3l0.out
      obtain ⟨ab_t_16, ao_t_16, zt_16, At_16, z_t_16, ct_16_0⟩ := Go.Proofs.Ytdbgmcgjklmkkaa.HelpInt.Ints.at_ (own_cells Oout_3l0.out) (k := k0) (by omega)
      obtain rfl := Option.some.inj (gt_16.out.symm.trans z_t_16)
      simp only [Option.some.injEq, Addr.mk.injEq] at At_16
      obtain ⟨rfl, rfl, _⟩ := At_16
      clear z_t_16
      simp only [Nat.zero_add] at ct_16_0
      have b0t_16 : (0 : Int) ≤ (k0 : Int) := by omega
      have b1t_16 : (k0 : Int) < ((t_3.length : Nat) : Int) := by omega
      have b2t_16 : ((k0 : Int)).toNat = k0 := by omega
      clear hqt_16
      replace H := let_hid H
      obtain ⟨l17_17, hl17_17, H⟩ := H
      try simp only [Int.toNat_natCast] at hl17_17
      obtain ⟨wl17_17, hwl17_17⟩ : ∃ x, (wr0).setCell ⟨w.heap.size, k0, none⟩ (.int .i64 yt_14) = x := ⟨_, rfl⟩
      have z0l17_17 := Oout_3l0.out.frozenAt (k0)
      have Sl17_17 := Lib.hid (own_stores [(k0, .int .i64 yt_14)] Oout_3l0.out)
      have nl17_17 : Hid (l17_17.length = t_3.length) := Lib.hid (by rw [← hl17_17, List.length_set]; exact hnout_3l0.out)
      have Pl17_17 : Hid (wl17_17.ownsRow w.heap.size 3 1 (.slice (some ⟨w.heap.size, 0, none⟩) t_3.length a.length) t_3.length (Go.Proofs.Ytdbgmcgjklmkkaa.HelpInt.iv l17_17)) := Lib.hid (by have e_ : ([(k0, .int .i64 yt_14)] : List (Nat × Value)).foldl (fun xs p => xs.set p.1 p.2) (Go.Proofs.Ytdbgmcgjklmkkaa.HelpInt.iv out_3l0) = (Go.Proofs.Ytdbgmcgjklmkkaa.HelpInt.iv l17_17) := (by rw [← hl17_17]; first | done | simp [Go.Proofs.Ytdbgmcgjklmkkaa.HelpInt.iv, List.map_set]); rw [← hwl17_17, ← e_]; exact Sl17_17.out.1)
      have Gl17_17 : Hid (wr0.grownBy wl17_17 (Value.slice (some ⟨w.heap.size, 0, none⟩) t_3.length a.length).ownBlock) := Lib.hid (by rw [← hwl17_17]; exact Sl17_17.out.2)
      have HBwl17_17 := Lib.hid (HBwr0.out.grown Gl17_17.out HBwr0.out.size (fun q hq => (Oout_3l0.out.lt q hq).1))
      have hhl17_17 := Lib.hid hl17_17
      clear hl17_17 Sl17_17
      have ct_14_0__1 := cell_other ct_14_0 Gl17_17.out (apart_old Oout_3l0.out ltt_14)
      clear Oout_3l0 Gl17_17
      replace H := app_hid H
      go_wp2_with fail
      clear z0l17_17 ct_14_0 ct_16_0
      go_roundg m0
      case measure => omega
      case rel => exact ⟨k0 + 1, _, by omega, by go_num, H, HBwl17_17, Pl17_17, Lib.hid (nl17_17.out)⟩
end Go.Proofs.Ytdbgmcgjklmkkaa.GlToIntS

/- How a struct of one-cell fields that comes in as data is opened, whatever the number of its fields; lists by their members. No condition. -/
namespace Go.Proofs.Ytdbgmcgjklmkkaa.OpenAny
set_option linter.unusedVariables false
open Go.Joins Go.ChangeShapes Go.WideShapes Go.RowKit Go.Deep

theorem add_none (b o n : Nat) : (⟨b, o, none⟩ : Addr).add n = ⟨b, o + n, none⟩ := by
  unfold Addr.add; split
  · rename_i h; subst h; rfl
  · rfl
section
variable {H : Type} {enc : TypeId × Value → H} {P : Program} {w : World} {base : Nat} {spare : Nat → Bool} {held : Bool}
/-- each field reads on its own -/
theorem read_fields {t : TypeId} {fs : Array Field} {fuel : Nat} {cs : List Value} {x : DataW H × List MemPlace} (hs : P.underlying t = some (.struct fs)) (hone : oneCellFields P fs = true) (hC : P.cellsOf t = fs.size)
    (h : DataW.trod enc P w base spare held fuel t cs = some x) :
    cs.length = P.cellsOf t ∧ ∀ (j : Nat) (f : Field), fs[j]? = some f → ∃ (u : Value) (n : Nat) (y : DataW H × List MemPlace), cs[j]? = some u ∧ DataW.trod enc P w base spare held n f.type [u] = some y := by
  obtain ⟨xs, n, _, _, hlen, hxl, hg⟩ := DataW.trod_struct hs h
  refine ⟨hlen, fun j f hj => ?_⟩
  obtain ⟨ho, hk⟩ := hone_of hone j f hj
  have hjl : j < fs.size := (Array.getElem?_eq_some_iff.1 hj).1
  have h1 := hg j f hj
  rw [ho, hk, List.getElem?_eq_getElem (by omega : j < xs.length)] at h1
  have hc : j < cs.length := by omega
  rw [List.drop_eq_getElem_cons hc] at h1
  exact ⟨cs[j], n, _, List.getElem?_eq_getElem hc, h1⟩
/-- an aggregate that comes in reads as its cells do -/
theorem agg_any {r : Reach} {b0 : Nat} {t : TypeId} {fs : Array Field} {v : Value} {d : DataW H} {p : List MemPlace} (hs : P.underlying t = some (.struct fs)) (hv : Value.okWide P w r b0 t v) (h : DataW.Trod enc P w base spare held t v d p) :
    ∃ (cs : Array Value) (n : Nat) (x : DataW H × List MemPlace), v = .agg cs ∧ DataW.trod enc P w base spare held n t cs.toList = some x := by
  obtain ⟨cs, rfl, _⟩ := okWide_struct hs hv
  obtain ⟨fuel, hf⟩ := h
  exact ⟨cs, fuel, _, rfl, hf⟩
end
/-- a list by its members -/
theorem list_of {α : Type} (p : Nat → α → Prop) : ∀ (n : Nat), (∀ k, k < n → ∃ a, p k a) → ∃ l : List α, l.length = n ∧ ∀ k a, l[k]? = some a → p k a
  | 0, _ => ⟨[], rfl, fun k a h => by simp at h⟩
  | n + 1, h => by
    obtain ⟨l, hl, hp⟩ := list_of p n (fun k hk => h k (by omega))
    obtain ⟨a, ha⟩ := h n (by omega)
    refine ⟨l ++ [a], by simp [hl], fun k b hb => ?_⟩
    by_cases hk : k < n
    · rw [List.getElem?_append_left (by omega)] at hb; exact hp k b hb
    · have hk' : k < (l ++ [a]).length := (List.getElem?_eq_some_iff.1 hb).1
      simp [hl] at hk'
      obtain rfl : k = n := by omega
      rw [List.getElem?_append_right (by omega), hl, Nat.sub_self] at hb
      obtain rfl : a = b := by simpa using hb
      exact ha
end Go.Proofs.Ytdbgmcgjklmkkaa.OpenAny

/- The record Ban as data that comes in, and a slice of it. No condition. -/
namespace Go.Proofs.Ytdbgmcgjklmkkaa.OBan
set_option linter.unusedVariables false
set_option maxRecDepth 100000
open Go.Joins Go.ChangeShapes Go.WideShapes Go.RowKit Go.Deep
open Go.Proofs.Ytdbgmcgjklmkkaa.Rowed Go.Proofs.Ytdbgmcgjklmkkaa.OpenAny Go.Proofs.Ytdbgmcgjklmkkaa.PBan

/-- the slice 'A, n' reads as the records l -/
abbrev Bans (w : World) (A : Option Addr) (n : Nat) (l : List Ban) : Prop := Cells w 4 A n (flat l)
theorem at_ {w : World} {A : Option Addr} {n k : Nat} {l : List Ban} (h : Bans w A n l) (hk : k < n) :
    ∃ (b o : Nat) (s : Ban), A = some ⟨b, o, none⟩ ∧ l[k]? = some s ∧ w.cell? ⟨b, o + k * 4, none⟩ = some (.int .i64 s.a) ∧ w.cell? ⟨b, o + k * 4 + 1, none⟩ = some (.int .i64 s.x) ∧ w.cell? ⟨b, o + k * 4 + 2, none⟩ = some (.int .i64 s.b) ∧ w.cell? ⟨b, o + k * 4 + 3, none⟩ = some (.int .i64 s.y) := by
  have hl : k < l.length := by have := h.1; rw [flat_len] at this; omega
  obtain ⟨⟨b, o, sp⟩, e, hc⟩ := h.2 (by rw [flat_len]; omega)
  have h0 := hc 0 _ (flat_at l 0 l[0] (List.getElem?_eq_getElem (by omega)) 0 (by omega))
  obtain rfl : sp = none := cell_spot (b := b) (o := o) h0
  have hs := List.getElem?_eq_getElem hl
  have f := flat_at l k _ hs
  have g := fun j u hu => add_none b o j ▸ hc j u hu
  exact ⟨b, o, l[k], e, hs, g _ _ (f 0 (by omega)), g _ _ (f 1 (by omega)), g _ _ (f 2 (by omega)), g _ _ (f 3 (by omega))⟩
theorem len_of {w : World} {A : Option Addr} {n : Nat} {l : List Ban} (h : Bans w A n l) : l.length = n := by
  have := h.1
  rw [flat_len] at this; omega

/-- a slice of records that came in: the list that it reads as -/
structure Came (w : World) (A : Option Addr) (len cap : Nat) (l : List Ban) : Prop where
  cells : Bans w A len l
  small : len ≤ maxLen
  fits : ∀ s ∈ l, s.fits
theorem Came.len {w : World} {A : Option Addr} {len cap : Nat} {l : List Ban} (h : Came w A len cap l) : l.length = len := len_of h.cells

section
variable {H : Type} {enc : TypeId × Value → H} {w : World} {base : Nat} {spare : Nat → Bool} {held : Bool}
theorem read_one {n : Nat} {cs : List Value} {x : DataW H × List MemPlace} (h : DataW.trod enc Try.prog w base spare held n 93 cs = some x) : ∃ s : Ban, cs = s.cells ∧ s.fits := by
  have hc : Try.prog.cellsOf 93 = 4 := by kernel_rfl
  obtain ⟨hl, hf⟩ := read_fields Try.underlying93 (by kernel_rfl) hc h
  rw [hc] at hl
  match cs, hl with
  | [v0, v1, v2, v3], _ =>
    obtain ⟨u0, n0, y0, eu0, t0⟩ := hf 0 _ rfl
    obtain ⟨x0, e0, _, f0⟩ := DataW.trod_int Try.underlying3 t0
    obtain rfl : v0 = u0 := by simpa using eu0
    obtain rfl : v0 = .int .i64 x0 := by simpa using e0
    obtain ⟨u1, n1, y1, eu1, t1⟩ := hf 1 _ rfl
    obtain ⟨x1, e1, _, f1⟩ := DataW.trod_int Try.underlying3 t1
    obtain rfl : v1 = u1 := by simpa using eu1
    obtain rfl : v1 = .int .i64 x1 := by simpa using e1
    obtain ⟨u2, n2, y2, eu2, t2⟩ := hf 2 _ rfl
    obtain ⟨x2, e2, _, f2⟩ := DataW.trod_int Try.underlying3 t2
    obtain rfl : v2 = u2 := by simpa using eu2
    obtain rfl : v2 = .int .i64 x2 := by simpa using e2
    obtain ⟨u3, n3, y3, eu3, t3⟩ := hf 3 _ rfl
    obtain ⟨x3, e3, _, f3⟩ := DataW.trod_int Try.underlying3 t3
    obtain rfl : v3 = u3 := by simpa using eu3
    obtain rfl : v3 = .int .i64 x3 := by simpa using e3
    exact ⟨⟨x0, x1, x2, x3⟩, rfl, f0, f1, f2, f3⟩
theorem open_one {r : Reach} {b0 : Nat} {v : Value} {d : DataW H} {p : List MemPlace} (hv : Value.okWide Try.prog w r b0 93 v) (h : DataW.Trod enc Try.prog w base spare held 93 v d p) :
    ∃ s : Ban, v = s.val ∧ s.fits := by
  obtain ⟨cs, n, x, rfl, ht⟩ := agg_any Try.underlying93 hv h
  obtain ⟨s, e, hs⟩ := read_one ht
  refine ⟨s, ?_, hs⟩
  obtain ⟨l⟩ := cs
  obtain rfl : l = s.cells := by simpa using e
  rfl
end
theorem open_field {H : Type} {enc : TypeId × Value → H} {W : World} {fuel : Nat} {u : Value} {y : DataW H × List MemPlace}
    (hf : DataW.trod enc Try.prog W 0 (fun _ => true) true fuel 23 [u] = some y) : ∃ (a : Option Addr) (len cap : Nat) (l : List Ban), u = .slice a len cap ∧ Came W a len cap l := by
  have ck : Try.prog.cellsOf 93 = 4 := by kernel_rfl
  rcases open_slice Try.underlying23 hf with ⟨hcs, _⟩ | ⟨x, ln, cp, m, n, D, Pl, hcs, hb, hl, hm, hmm, _, hi⟩
  · obtain rfl : u = .slice none 0 0 := by simpa using hcs
    exact ⟨none, 0, 0, [], rfl, Cells.nil_ _ _ _, by unfold maxLen; omega, by intro s hs; simp at hs⟩
  · obtain rfl : u = .slice (some x) ln cp := by simpa using hcs
    simp only [if_true] at hmm
    subst hmm
    rw [ck] at hi
    obtain ⟨l, hll, hp⟩ := list_of (fun k s => Ban.fits s ∧ ∀ j, j < 4 → W.cell? (x.add (k * 4 + j)) = s.cells[j]?) ln (fun k hk => by
      obtain ⟨cs', hc, ht⟩ := hi k (by omega)
      obtain ⟨s, rfl, hfit⟩ := read_one ht
      refine ⟨s, hfit, fun j hj => ?_⟩
      have := (World.cells?_some hc).2.2 j hj
      rw [Go.Deep.add_add] at this
      exact this)
    refine ⟨some x, ln, _, l, rfl, ⟨by rw [flat_len, hll], fun h0 => ⟨x, rfl, fun j u hu => ?_⟩⟩, by omega, fun s hs => ?_⟩
    · have hj : j < (flat l).length := (List.getElem?_eq_some_iff.1 hu).1
      rw [flat_len] at hj
      have hk : j / 4 < l.length := by omega
      have e := flat_at l (j / 4) l[j/4] (List.getElem?_eq_getElem hk) (j % 4) (by omega)
      rw [show j / 4 * 4 + j % 4 = j by omega, hu] at e
      have := (hp (j / 4) l[j/4] (List.getElem?_eq_getElem hk)).2 (j % 4) (by omega)
      rw [show j / 4 * 4 + j % 4 = j by omega, ← e] at this
      exact this
    · obtain ⟨k, hk⟩ := List.getElem?_of_mem hs
      exact (hp k s hk).1
theorem open_many {H : Type} {enc : TypeId × Value → H} {W : World} {a : Option Addr} {len cap : Nat} {d : DataW H} {p : List MemPlace}
    (h : DataW.Trod enc Try.prog W 0 (fun _ => true) true 23 (.slice a len cap) d p) : ∃ l : List Ban, Came W a len cap l := by
  obtain ⟨fuel, hf⟩ := h
  obtain ⟨a2, l2, c2, l, e, hl⟩ := open_field (u := .slice a len cap) hf
  simp only [Value.slice.injEq] at e
  obtain ⟨rfl, rfl, rfl⟩ := e
  exact ⟨l, hl⟩

/-- a record that was boxed -/
theorem box_ {w : World} {s : Ban} {g : Nat} (h : Cells w 4 (some ⟨g, 0, none⟩) 1 s.cells) : w.cell? ⟨g, 0, none⟩ = some (.int .i64 s.a) ∧ w.cell? ⟨g, 1, none⟩ = some (.int .i64 s.x) ∧ w.cell? ⟨g, 2, none⟩ = some (.int .i64 s.b) ∧ w.cell? ⟨g, 3, none⟩ = some (.int .i64 s.y) := by
  obtain ⟨ad, e, hc⟩ := h.2 (by simp [Ban.cells])
  obtain rfl := Option.some.inj e
  have gg := fun j u hu => add_none g 0 j ▸ hc j u hu
  exact ⟨by simpa using gg 0 _ rfl, by simpa using gg 1 _ rfl, by simpa using gg 2 _ rfl, by simpa using gg 3 _ rfl⟩
theorem box_new (w : World) (s : Ban) (T : TypeId) : Cells (w.alloc (.cells #[.int .i64 s.a, .int .i64 s.x, .int .i64 s.b, .int .i64 s.y] T)) 4 (some ⟨w.heap.size, 0, none⟩) 1 s.cells :=
  ⟨by simp [Ban.cells], fun _ => ⟨_, rfl, fun j u hu => by
    have hj : j < 4 := by have := (List.getElem?_eq_some_iff.1 hu).1; simpa [Ban.cells] using this
    rw [add_none, World.cell?_alloc_new]
    match j, hj with
    | 0, _ => simpa [Ban.cells] using hu
    | 1, _ => simpa [Ban.cells] using hu
    | 2, _ => simpa [Ban.cells] using hu
    | 3, _ => simpa [Ban.cells] using hu
⟩⟩
end Go.Proofs.Ytdbgmcgjklmkkaa.OBan

/- loop.example/g01062/laws.toBan as a plain function, and the contract of the program's: where the plain one has an answer, the program has it. Conditions: slices read as lists. -/
namespace Go.Proofs.Ytdbgmcgjklmkkaa.GlToBan
set_option linter.unusedVariables false
set_option linter.unusedSimpArgs false
open Go.RowKit
open Go.Proofs.Ytdbgmcgjklmkkaa.Rowed Go.Proofs.Ytdbgmcgjklmkkaa.Turn Go.Proofs.Ytdbgmcgjklmkkaa.Aid Go.Proofs.Ytdbgmcgjklmkkaa.GoP Go.Proofs.Ytdbgmcgjklmkkaa.GoM

def P (a : Go.Proofs.Ytdbgmcgjklmkkaa.PBan.Ban) : Option (Go.Proofs.Ytdbgmcgjklmkkaa.PBan.Ban) :=
  unBan a fun (a_a : Int) (a_x : Int) (a_b : Int) (a_y : Int) =>
  some (Go.Proofs.Ytdbgmcgjklmkkaa.PBan.Ban.mk a_a a_x a_b a_y)

set_option maxRecDepth 100000 in
set_option maxHeartbeats 2000000 in
theorem C (a : Go.Proofs.Ytdbgmcgjklmkkaa.PBan.Ban)   (w : World)   {r : Go.Proofs.Ytdbgmcgjklmkkaa.PBan.Ban} (H : Hid (P a = some r)) :
    Calls Try.prog 63 #[a.val] w (Gives ((Go.Proofs.Ytdbgmcgjklmkkaa.PBan.Ban.val r)) w) := by
  have HB := Lib.hid (Below.refl w.heap.size w)
  unfold P at H
  obtain ⟨a_a, a_x, a_b, a_y⟩ := a
  replace H := unBan_hid H
  unfold Go.Proofs.Ytdbgmcgjklmkkaa.PBan.Ban.val
  go_enter Try.func63, Try.ntmps63
  obtain ⟨w_a_0, hw_a_0⟩ : ∃ x, w.alloc (.cells #[.int .i64 a_a, .int .i64 a_x, .int .i64 a_b, .int .i64 a_y] 93) = x := ⟨_, rfl⟩
  have bw_a_0 : Below w.heap.size w w_a_0 := by rw [← hw_a_0]; exact (Below.refl _ _).alloc (Nat.le_refl _) _
  have HBw_a_0 := Lib.hid (Below.step HB.out bw_a_0)
  clear bw_a_0
  have ka_0_0 : w_a_0.cell? ⟨w.heap.size, 0, none⟩ = some (.int .i64 a_a) := by rw [← hw_a_0]; exact box_new _ _ _ 0 _ rfl
  have ka_0_1 : w_a_0.cell? ⟨w.heap.size, 1, none⟩ = some (.int .i64 a_x) := by rw [← hw_a_0]; exact box_new _ _ _ 1 _ rfl
  have ka_0_2 : w_a_0.cell? ⟨w.heap.size, 2, none⟩ = some (.int .i64 a_b) := by rw [← hw_a_0]; exact box_new _ _ _ 2 _ rfl
  have ka_0_3 : w_a_0.cell? ⟨w.heap.size, 3, none⟩ = some (.int .i64 a_y) := by rw [← hw_a_0]; exact box_new _ _ _ 3 _ rfl
  obtain ⟨w_t_1, hw_t_1⟩ : ∃ x, w_a_0.alloc (.cells #[.int .i64 0, .int .i64 0, .int .i64 0, .int .i64 0] 96) = x := ⟨_, rfl⟩
  have bw_t_1 : Below w_a_0.heap.size w_a_0 w_t_1 := by rw [← hw_t_1]; exact (Below.refl _ _).alloc (Nat.le_refl _) _
  have Dt_1_a_0 := Lib.hid (apart_box ka_0_0)
  have HBw_t_1 := Lib.hid (Below.step HBw_a_0.out bw_t_1)
  have ka_0_0__2 := cell_below bw_t_1 ka_0_0
  have ka_0_1__3 := cell_below bw_t_1 ka_0_1
  have ka_0_2__4 := cell_below bw_t_1 ka_0_2
  have ka_0_3__5 := cell_below bw_t_1 ka_0_3
  clear bw_t_1
  have kt_1_0 : w_t_1.cell? ⟨w_a_0.heap.size, 0, none⟩ = some (.int .i64 0) := by rw [← hw_t_1]; exact box_new _ _ _ 0 _ rfl
  have kt_1_1 : w_t_1.cell? ⟨w_a_0.heap.size, 1, none⟩ = some (.int .i64 0) := by rw [← hw_t_1]; exact box_new _ _ _ 1 _ rfl
  have kt_1_2 : w_t_1.cell? ⟨w_a_0.heap.size, 2, none⟩ = some (.int .i64 0) := by rw [← hw_t_1]; exact box_new _ _ _ 2 _ rfl
  have kt_1_3 : w_t_1.cell? ⟨w_a_0.heap.size, 3, none⟩ = some (.int .i64 0) := by rw [← hw_t_1]; exact box_new _ _ _ 3 _ rfl
  have Ot_1 : Hid (w_t_1.ownsRow w.heap.size 96 4 (.slice (some ⟨w_a_0.heap.size, 0, none⟩) 1 1) 1 [.int .i64 0, .int .i64 0, .int .i64 0, .int .i64 0]) := Lib.hid (by rw [← hw_t_1]; exact own_laid (n := 1) HBw_a_0.out.size rfl rfl (by unfold maxLen; omega))
  obtain ⟨w_out_2, hw_out_2⟩ : ∃ x, w_t_1.alloc (.cells #[.int .i64 0, .int .i64 0, .int .i64 0, .int .i64 0] 96) = x := ⟨_, rfl⟩
  have bw_out_2 : Below w_t_1.heap.size w_t_1 w_out_2 := by rw [← hw_out_2]; exact (Below.refl _ _).alloc (Nat.le_refl _) _
  have Dout_2_a_0 := Lib.hid (apart_box ka_0_0__2)
  have Dout_2_t_1 := Lib.hid (apart_box kt_1_0)
  have HBw_out_2 := Lib.hid (Below.step HBw_t_1.out bw_out_2)
  have ka_0_0__6 := cell_below bw_out_2 ka_0_0__2
  have ka_0_1__7 := cell_below bw_out_2 ka_0_1__3
  have ka_0_2__8 := cell_below bw_out_2 ka_0_2__4
  have ka_0_3__9 := cell_below bw_out_2 ka_0_3__5
  have kt_1_0__10 := cell_below bw_out_2 kt_1_0
  have kt_1_1__11 := cell_below bw_out_2 kt_1_1
  have kt_1_2__12 := cell_below bw_out_2 kt_1_2
  have kt_1_3__13 := cell_below bw_out_2 kt_1_3
  replace Ot_1 := Lib.hid (own_below Ot_1.out bw_out_2)
  clear bw_out_2
  have kout_2_0 : w_out_2.cell? ⟨w_t_1.heap.size, 0, none⟩ = some (.int .i64 0) := by rw [← hw_out_2]; exact box_new _ _ _ 0 _ rfl
  have kout_2_1 : w_out_2.cell? ⟨w_t_1.heap.size, 1, none⟩ = some (.int .i64 0) := by rw [← hw_out_2]; exact box_new _ _ _ 1 _ rfl
  have kout_2_2 : w_out_2.cell? ⟨w_t_1.heap.size, 2, none⟩ = some (.int .i64 0) := by rw [← hw_out_2]; exact box_new _ _ _ 2 _ rfl
  have kout_2_3 : w_out_2.cell? ⟨w_t_1.heap.size, 3, none⟩ = some (.int .i64 0) := by rw [← hw_out_2]; exact box_new _ _ _ 3 _ rfl
  have Oout_2 : Hid (w_out_2.ownsRow w.heap.size 96 4 (.slice (some ⟨w_t_1.heap.size, 0, none⟩) 1 1) 1 [.int .i64 0, .int .i64 0, .int .i64 0, .int .i64 0]) := Lib.hid (by rw [← hw_out_2]; exact own_laid (n := 1) HBw_t_1.out.size rfl rfl (by unfold maxLen; omega))
  obtain ⟨wb6_6, hwb6_6⟩ : ∃ x, (w_out_2).setCell ⟨w_t_1.heap.size, 0, none⟩ (.int .i64 a_a) = x := ⟨_, rfl⟩
  have z0b6_6 := Oout_2.out.frozenAt 0
  have Sb6_6 := Lib.hid (own_stores [(0, .int .i64 a_a)] Oout_2.out)
  have Pb6_6 : Hid (wb6_6.ownsRow w.heap.size 96 4 (.slice (some ⟨w_t_1.heap.size, 0, none⟩) 1 1) 1 [.int .i64 a_a, .int .i64 0, .int .i64 0, .int .i64 0]) := Lib.hid (by rw [← hwb6_6]; exact Sb6_6.out.1)
  have Gb6_6 : Hid (w_out_2.grownBy wb6_6 (Value.slice (some ⟨w_t_1.heap.size, 0, none⟩) 1 1).ownBlock) := Lib.hid (by rw [← hwb6_6]; exact Sb6_6.out.2)
  have HBwb6_6 := Lib.hid (HBw_out_2.out.grown Gb6_6.out HBw_out_2.out.size (fun q hq => (Oout_2.out.lt q hq).1))
  clear Sb6_6
  have ka_0_0__14 := cell_other ka_0_0__6 Gb6_6.out Dout_2_a_0.out
  have ka_0_1__15 := cell_other ka_0_1__7 Gb6_6.out Dout_2_a_0.out
  have ka_0_2__16 := cell_other ka_0_2__8 Gb6_6.out Dout_2_a_0.out
  have ka_0_3__17 := cell_other ka_0_3__9 Gb6_6.out Dout_2_a_0.out
  have kt_1_0__18 := cell_other kt_1_0__10 Gb6_6.out Dout_2_t_1.out
  have kt_1_1__19 := cell_other kt_1_1__11 Gb6_6.out Dout_2_t_1.out
  have kt_1_2__20 := cell_other kt_1_2__12 Gb6_6.out Dout_2_t_1.out
  have kt_1_3__21 := cell_other kt_1_3__13 Gb6_6.out Dout_2_t_1.out
  replace Ot_1 := Lib.hid (own_other Ot_1.out Gb6_6.out Dout_2_t_1.out)
  clear Oout_2 Gb6_6
  have kout_2_0__22 : wb6_6.cell? ⟨w_t_1.heap.size, 0, none⟩ = some (.int .i64 a_a) := Pb6_6.out.cells rfl 0 _ rfl
  have kout_2_1__23 : wb6_6.cell? ⟨w_t_1.heap.size, 1, none⟩ = some (.int .i64 0) := Pb6_6.out.cells rfl 1 _ rfl
  have kout_2_2__24 : wb6_6.cell? ⟨w_t_1.heap.size, 2, none⟩ = some (.int .i64 0) := Pb6_6.out.cells rfl 2 _ rfl
  have kout_2_3__25 : wb6_6.cell? ⟨w_t_1.heap.size, 3, none⟩ = some (.int .i64 0) := Pb6_6.out.cells rfl 3 _ rfl
  obtain ⟨wb10_10, hwb10_10⟩ : ∃ x, (wb6_6).setCell ⟨w_t_1.heap.size, 1, none⟩ (.int .i64 a_x) = x := ⟨_, rfl⟩
  have z0b10_10 := Pb6_6.out.frozenAt 1
  have Sb10_10 := Lib.hid (own_stores [(1, .int .i64 a_x)] Pb6_6.out)
  have Pb10_10 : Hid (wb10_10.ownsRow w.heap.size 96 4 (.slice (some ⟨w_t_1.heap.size, 0, none⟩) 1 1) 1 [.int .i64 a_a, .int .i64 a_x, .int .i64 0, .int .i64 0]) := Lib.hid (by rw [← hwb10_10]; exact Sb10_10.out.1)
  have Gb10_10 : Hid (wb6_6.grownBy wb10_10 (Value.slice (some ⟨w_t_1.heap.size, 0, none⟩) 1 1).ownBlock) := Lib.hid (by rw [← hwb10_10]; exact Sb10_10.out.2)
  have HBwb10_10 := Lib.hid (HBwb6_6.out.grown Gb10_10.out HBwb6_6.out.size (fun q hq => (Pb6_6.out.lt q hq).1))
  clear Sb10_10
  have ka_0_0__26 := cell_other ka_0_0__14 Gb10_10.out Dout_2_a_0.out
  have ka_0_1__27 := cell_other ka_0_1__15 Gb10_10.out Dout_2_a_0.out
  have ka_0_2__28 := cell_other ka_0_2__16 Gb10_10.out Dout_2_a_0.out
  have ka_0_3__29 := cell_other ka_0_3__17 Gb10_10.out Dout_2_a_0.out
  have kt_1_0__30 := cell_other kt_1_0__18 Gb10_10.out Dout_2_t_1.out
  have kt_1_1__31 := cell_other kt_1_1__19 Gb10_10.out Dout_2_t_1.out
  have kt_1_2__32 := cell_other kt_1_2__20 Gb10_10.out Dout_2_t_1.out
  have kt_1_3__33 := cell_other kt_1_3__21 Gb10_10.out Dout_2_t_1.out
  replace Ot_1 := Lib.hid (own_other Ot_1.out Gb10_10.out Dout_2_t_1.out)
  clear Pb6_6 Gb10_10
  have kout_2_0__34 : wb10_10.cell? ⟨w_t_1.heap.size, 0, none⟩ = some (.int .i64 a_a) := Pb10_10.out.cells rfl 0 _ rfl
  have kout_2_1__35 : wb10_10.cell? ⟨w_t_1.heap.size, 1, none⟩ = some (.int .i64 a_x) := Pb10_10.out.cells rfl 1 _ rfl
  have kout_2_2__36 : wb10_10.cell? ⟨w_t_1.heap.size, 2, none⟩ = some (.int .i64 0) := Pb10_10.out.cells rfl 2 _ rfl
  have kout_2_3__37 : wb10_10.cell? ⟨w_t_1.heap.size, 3, none⟩ = some (.int .i64 0) := Pb10_10.out.cells rfl 3 _ rfl
  obtain ⟨wb14_14, hwb14_14⟩ : ∃ x, (wb10_10).setCell ⟨w_t_1.heap.size, 2, none⟩ (.int .i64 a_b) = x := ⟨_, rfl⟩
  have z0b14_14 := Pb10_10.out.frozenAt 2
  have Sb14_14 := Lib.hid (own_stores [(2, .int .i64 a_b)] Pb10_10.out)
  have Pb14_14 : Hid (wb14_14.ownsRow w.heap.size 96 4 (.slice (some ⟨w_t_1.heap.size, 0, none⟩) 1 1) 1 [.int .i64 a_a, .int .i64 a_x, .int .i64 a_b, .int .i64 0]) := Lib.hid (by rw [← hwb14_14]; exact Sb14_14.out.1)
  have Gb14_14 : Hid (wb10_10.grownBy wb14_14 (Value.slice (some ⟨w_t_1.heap.size, 0, none⟩) 1 1).ownBlock) := Lib.hid (by rw [← hwb14_14]; exact Sb14_14.out.2)
  have HBwb14_14 := Lib.hid (HBwb10_10.out.grown Gb14_14.out HBwb10_10.out.size (fun q hq => (Pb10_10.out.lt q hq).1))
  clear Sb14_14
  have ka_0_0__38 := cell_other ka_0_0__26 Gb14_14.out Dout_2_a_0.out
  have ka_0_1__39 := cell_other ka_0_1__27 Gb14_14.out Dout_2_a_0.out
  have ka_0_2__40 := cell_other ka_0_2__28 Gb14_14.out Dout_2_a_0.out
  have ka_0_3__41 := cell_other ka_0_3__29 Gb14_14.out Dout_2_a_0.out
  have kt_1_0__42 := cell_other kt_1_0__30 Gb14_14.out Dout_2_t_1.out
  have kt_1_1__43 := cell_other kt_1_1__31 Gb14_14.out Dout_2_t_1.out
  have kt_1_2__44 := cell_other kt_1_2__32 Gb14_14.out Dout_2_t_1.out
  have kt_1_3__45 := cell_other kt_1_3__33 Gb14_14.out Dout_2_t_1.out
  replace Ot_1 := Lib.hid (own_other Ot_1.out Gb14_14.out Dout_2_t_1.out)
  clear Pb10_10 Gb14_14
  have kout_2_0__46 : wb14_14.cell? ⟨w_t_1.heap.size, 0, none⟩ = some (.int .i64 a_a) := Pb14_14.out.cells rfl 0 _ rfl
  have kout_2_1__47 : wb14_14.cell? ⟨w_t_1.heap.size, 1, none⟩ = some (.int .i64 a_x) := Pb14_14.out.cells rfl 1 _ rfl
  have kout_2_2__48 : wb14_14.cell? ⟨w_t_1.heap.size, 2, none⟩ = some (.int .i64 a_b) := Pb14_14.out.cells rfl 2 _ rfl
  have kout_2_3__49 : wb14_14.cell? ⟨w_t_1.heap.size, 3, none⟩ = some (.int .i64 0) := Pb14_14.out.cells rfl 3 _ rfl
  obtain ⟨wb18_18, hwb18_18⟩ : ∃ x, (wb14_14).setCell ⟨w_t_1.heap.size, 3, none⟩ (.int .i64 a_y) = x := ⟨_, rfl⟩
  have z0b18_18 := Pb14_14.out.frozenAt 3
  have Sb18_18 := Lib.hid (own_stores [(3, .int .i64 a_y)] Pb14_14.out)
  have Pb18_18 : Hid (wb18_18.ownsRow w.heap.size 96 4 (.slice (some ⟨w_t_1.heap.size, 0, none⟩) 1 1) 1 [.int .i64 a_a, .int .i64 a_x, .int .i64 a_b, .int .i64 a_y]) := Lib.hid (by rw [← hwb18_18]; exact Sb18_18.out.1)
  have Gb18_18 : Hid (wb14_14.grownBy wb18_18 (Value.slice (some ⟨w_t_1.heap.size, 0, none⟩) 1 1).ownBlock) := Lib.hid (by rw [← hwb18_18]; exact Sb18_18.out.2)
  have HBwb18_18 := Lib.hid (HBwb14_14.out.grown Gb18_18.out HBwb14_14.out.size (fun q hq => (Pb14_14.out.lt q hq).1))
  clear Sb18_18
  have ka_0_0__50 := cell_other ka_0_0__38 Gb18_18.out Dout_2_a_0.out
  have ka_0_1__51 := cell_other ka_0_1__39 Gb18_18.out Dout_2_a_0.out
  have ka_0_2__52 := cell_other ka_0_2__40 Gb18_18.out Dout_2_a_0.out
  have ka_0_3__53 := cell_other ka_0_3__41 Gb18_18.out Dout_2_a_0.out
  have kt_1_0__54 := cell_other kt_1_0__42 Gb18_18.out Dout_2_t_1.out
  have kt_1_1__55 := cell_other kt_1_1__43 Gb18_18.out Dout_2_t_1.out
  have kt_1_2__56 := cell_other kt_1_2__44 Gb18_18.out Dout_2_t_1.out
  have kt_1_3__57 := cell_other kt_1_3__45 Gb18_18.out Dout_2_t_1.out
  replace Ot_1 := Lib.hid (own_other Ot_1.out Gb18_18.out Dout_2_t_1.out)
  clear Pb14_14 Gb18_18
  have kout_2_0__58 : wb18_18.cell? ⟨w_t_1.heap.size, 0, none⟩ = some (.int .i64 a_a) := Pb18_18.out.cells rfl 0 _ rfl
  have kout_2_1__59 : wb18_18.cell? ⟨w_t_1.heap.size, 1, none⟩ = some (.int .i64 a_x) := Pb18_18.out.cells rfl 1 _ rfl
  have kout_2_2__60 : wb18_18.cell? ⟨w_t_1.heap.size, 2, none⟩ = some (.int .i64 a_b) := Pb18_18.out.cells rfl 2 _ rfl
  have kout_2_3__61 : wb18_18.cell? ⟨w_t_1.heap.size, 3, none⟩ = some (.int .i64 a_y) := Pb18_18.out.cells rfl 3 _ rfl
  obtain ⟨wb20_20, hwb20_20⟩ : ∃ x, ((((wb18_18).setCell ⟨w_a_0.heap.size, 0, none⟩ (.int .i64 a_a)).setCell ⟨w_a_0.heap.size, 1, none⟩ (.int .i64 a_x)).setCell ⟨w_a_0.heap.size, 2, none⟩ (.int .i64 a_b)).setCell ⟨w_a_0.heap.size, 3, none⟩ (.int .i64 a_y) = x := ⟨_, rfl⟩
  have z0b20_20 := Ot_1.out.frozenAt 0
  have z1b20_20 := Ot_1.out.frozenAt 1
  have z2b20_20 := Ot_1.out.frozenAt 2
  have z3b20_20 := Ot_1.out.frozenAt 3
  have Sb20_20 := Lib.hid (own_stores [(0, .int .i64 a_a), (1, .int .i64 a_x), (2, .int .i64 a_b), (3, .int .i64 a_y)] Ot_1.out)
  have Pb20_20 : Hid (wb20_20.ownsRow w.heap.size 96 4 (.slice (some ⟨w_a_0.heap.size, 0, none⟩) 1 1) 1 [.int .i64 a_a, .int .i64 a_x, .int .i64 a_b, .int .i64 a_y]) := Lib.hid (by rw [← hwb20_20]; exact Sb20_20.out.1)
  have Gb20_20 : Hid (wb18_18.grownBy wb20_20 (Value.slice (some ⟨w_a_0.heap.size, 0, none⟩) 1 1).ownBlock) := Lib.hid (by rw [← hwb20_20]; exact Sb20_20.out.2)
  have HBwb20_20 := Lib.hid (HBwb18_18.out.grown Gb20_20.out HBwb18_18.out.size (fun q hq => (Ot_1.out.lt q hq).1))
  clear Sb20_20
  have ka_0_0__62 := cell_other ka_0_0__50 Gb20_20.out Dt_1_a_0.out
  have ka_0_1__63 := cell_other ka_0_1__51 Gb20_20.out Dt_1_a_0.out
  have ka_0_2__64 := cell_other ka_0_2__52 Gb20_20.out Dt_1_a_0.out
  have ka_0_3__65 := cell_other ka_0_3__53 Gb20_20.out Dt_1_a_0.out
  have kout_2_0__66 := cell_other kout_2_0__58 Gb20_20.out (Apart.symm Dout_2_t_1.out)
  have kout_2_1__67 := cell_other kout_2_1__59 Gb20_20.out (Apart.symm Dout_2_t_1.out)
  have kout_2_2__68 := cell_other kout_2_2__60 Gb20_20.out (Apart.symm Dout_2_t_1.out)
  have kout_2_3__69 := cell_other kout_2_3__61 Gb20_20.out (Apart.symm Dout_2_t_1.out)
  replace Pb18_18 := Lib.hid (own_other Pb18_18.out Gb20_20.out (Apart.symm Dout_2_t_1.out))
  clear Ot_1 Gb20_20
  have kt_1_0__70 : wb20_20.cell? ⟨w_a_0.heap.size, 0, none⟩ = some (.int .i64 a_a) := Pb20_20.out.cells rfl 0 _ rfl
  have kt_1_1__71 : wb20_20.cell? ⟨w_a_0.heap.size, 1, none⟩ = some (.int .i64 a_x) := Pb20_20.out.cells rfl 1 _ rfl
  have kt_1_2__72 : wb20_20.cell? ⟨w_a_0.heap.size, 2, none⟩ = some (.int .i64 a_b) := Pb20_20.out.cells rfl 2 _ rfl
  have kt_1_3__73 : wb20_20.cell? ⟨w_a_0.heap.size, 3, none⟩ = some (.int .i64 a_y) := Pb20_20.out.cells rfl 3 _ rfl
  cases ret_hid H
  go_wp2_with fail
  (try simp only [Exit.inBlock, Exit.then])
  refine bodyPost_ret (v := .agg #[.int .i64 a_a, .int .i64 a_x, .int .i64 a_b, .int .i64 a_y]) ?hr_ ?hd_ ?_
  case hd_ => rfl
  case hr_ => simp [results, Try.results63, kt_1_0__70, kt_1_1__71, kt_1_2__72, kt_1_3__73, go_sem]
  exact ⟨rfl, HBwb20_20.out⟩
end Go.Proofs.Ytdbgmcgjklmkkaa.GlToBan

/- loop.example/g01062/laws.toBanS as a plain function, and the contract of the program's: where the plain one has an answer, the program has it. Conditions: slices read as lists. -/
namespace Go.Proofs.Ytdbgmcgjklmkkaa.GlToBanS
set_option linter.unusedVariables false
set_option linter.unusedSimpArgs false
open Go.RowKit
open Go.Proofs.Ytdbgmcgjklmkkaa.Rowed Go.Proofs.Ytdbgmcgjklmkkaa.Turn Go.Proofs.Ytdbgmcgjklmkkaa.Aid Go.Proofs.Ytdbgmcgjklmkkaa.GoP Go.Proofs.Ytdbgmcgjklmkkaa.GoM

def l0 (a : (List Go.Proofs.Ytdbgmcgjklmkkaa.PBan.Ban)) (k0 : Nat) (s : (List Go.Proofs.Ytdbgmcgjklmkkaa.PBan.Ban)) (nx0 bk0 : (List Go.Proofs.Ytdbgmcgjklmkkaa.PBan.Ban) → Option ((List Go.Proofs.Ytdbgmcgjklmkkaa.PBan.Ban))) : Option ((List Go.Proofs.Ytdbgmcgjklmkkaa.PBan.Ban)) :=
  letK s fun out_3l0 =>
  Option.bind (idx a (k0 : Int)) fun (yt_14 : Go.Proofs.Ytdbgmcgjklmkkaa.PBan.Ban) =>
  unBan yt_14 fun (t_14_a : Int) (t_14_x : Int) (t_14_b : Int) (t_14_y : Int) =>
  Option.bind (Go.Proofs.Ytdbgmcgjklmkkaa.GlToBan.P (Go.Proofs.Ytdbgmcgjklmkkaa.PBan.Ban.mk t_14_a t_14_x t_14_b t_14_y)) fun (t_16 : Go.Proofs.Ytdbgmcgjklmkkaa.PBan.Ban) =>
  unBan t_16 fun (t_16_a : Int) (t_16_x : Int) (t_16_b : Int) (t_16_y : Int) =>
  Option.bind (idx out_3l0 (k0 : Int)) fun (yt_17 : Go.Proofs.Ytdbgmcgjklmkkaa.PBan.Ban) =>
  unBan yt_17 fun (t_17_a : Int) (t_17_x : Int) (t_17_b : Int) (t_17_y : Int) =>
  letK (out_3l0.set k0 (Go.Proofs.Ytdbgmcgjklmkkaa.PBan.Ban.mk t_16_a t_16_x t_16_b t_16_y)) fun (l18_18 : (List Go.Proofs.Ytdbgmcgjklmkkaa.PBan.Ban)) =>
  appK nx0 (l18_18)

def e0  (s : (List Go.Proofs.Ytdbgmcgjklmkkaa.PBan.Ban)) : Option ((List Go.Proofs.Ytdbgmcgjklmkkaa.PBan.Ban)) :=
  letK s fun out_3l0 =>
  some out_3l0

def P (a : (List Go.Proofs.Ytdbgmcgjklmkkaa.PBan.Ban)) : Option ((List Go.Proofs.Ytdbgmcgjklmkkaa.PBan.Ban)) :=
  guardK (0 ≤ (a.length : Int) ∧ (a.length : Int) ≤ 1099511627776) <|
  letK (List.replicate a.length (Go.Proofs.Ytdbgmcgjklmkkaa.PBan.Ban.mk 0 0 0 0)) fun (t_3 : (List Go.Proofs.Ytdbgmcgjklmkkaa.PBan.Ban)) =>
  cntK (l0 a) (a.length) 0 (t_3) (e0 )

set_option maxRecDepth 100000 in
set_option maxHeartbeats 2000000 in
theorem C (a : (List Go.Proofs.Ytdbgmcgjklmkkaa.PBan.Ban)) (A0 : Option Addr) (c0 : Nat)  (w : World) (M0 : Hid (Cells w 4 A0 a.length (Go.Proofs.Ytdbgmcgjklmkkaa.PBan.flat a))) (N0 : Hid (a.length ≤ 9223372036854775807))  {r : (List Go.Proofs.Ytdbgmcgjklmkkaa.PBan.Ban)} (H : Hid (P a = some r)) :
    Calls Try.prog 71 #[.slice A0 a.length c0] w (fun e w' => ∃ A_r c_r, e = .returned (.slice A_r r.length c_r) ∧ w'.ownsRow w.heap.size 96 4 (.slice A_r r.length c_r) r.length (Go.Proofs.Ytdbgmcgjklmkkaa.PBan.flat r) ∧ Below w.heap.size w w') := by
  have HB := Lib.hid (Below.refl w.heap.size w)
  unfold P at H
  have N0o := N0.out
  obtain ⟨i0_96, hi_96, hz0_96, hz1_96, hz2_96⟩ := Aid.info_parts (P := Try.prog) (T := 96) (z := .agg #[.int .i64 0, .int .i64 0, .int .i64 0, .int .i64 0]) (s := 4) (b := 32) (by kernel_rfl)
  go_enter Try.func71, Try.ntmps71
  replace H := guard_hid H
  obtain ⟨hnt_3, H⟩ := H
  replace H := let_hid H
  obtain ⟨t_3, ht_3, H⟩ := H
  have hst_3 := HB.out.size
  have hlt_3 : t_3.length = a.length := by rw [← ht_3]; simp
  have hht_3 := Lib.hid ht_3
  clear ht_3
  go_wp2_with (at_make; refine wpList_make_full _ rfl _ _ 29 rfl w.heap.size 96 i0_96 (.agg #[.int .i64 0, .int .i64 0, .int .i64 0, .int .i64 0]) 4 Try.underlying29 hi_96 hz0_96 hz1_96 .i64 .i64 _ _ a.length rfl rfl (by omega) (by omega) (by rw [hz2_96]; omega) (by unfold maxLen; omega) hst_3 ?_; intro wt_3 ot_3 gt_3; have Qt_3 := Lib.hid ot_3; have Gt_3 := Lib.hid gt_3; clear ot_3 gt_3; refine stop_in ?_)
  refine stop_out ?_
  have hv_ : (Value.slice (some ⟨w.heap.size, 0, none⟩) a.length a.length : Value) = Value.slice (some ⟨w.heap.size, 0, none⟩) t_3.length a.length := by rw [hlt_3]
  rw [hv_]
  clear hv_
  have Et_3 : (Go.Proofs.Ytdbgmcgjklmkkaa.PBan.flat t_3) = (madeCells (.agg #[.int .i64 0, .int .i64 0, .int .i64 0, .int .i64 0] : Value).cells (a.length * 4)).toList := by
    rw [made_flat Go.Proofs.Ytdbgmcgjklmkkaa.PBan.Ban.cells (Go.Proofs.Ytdbgmcgjklmkkaa.PBan.Ban.mk 0 0 0 0) _ 4 _ rfl rfl (by decide), ← hht_3.out]
    rfl
  have Pt_3 : Hid (wt_3.ownsRow w.heap.size 96 4 (.slice (some ⟨w.heap.size, 0, none⟩) a.length a.length) a.length (Go.Proofs.Ytdbgmcgjklmkkaa.PBan.flat t_3)) := Lib.hid (by rw [Et_3]; exact Qt_3.out)
  clear Et_3
  replace hlt_3 := Lib.hid hlt_3
  clear Qt_3 hst_3
  have bt_3 : Below w.heap.size w wt_3 := (Below.refl _ _).grown Gt_3.out (Nat.le_refl _) (by simp)
  clear Gt_3
  have HBwt_3 := Lib.hid (Below.step HB.out bt_3)
  clear bt_3
  replace Pt_3 := Lib.hid (own_len hlt_3.out Pt_3.out)
  go_wp2_with fail
  go_wp2_with fail
  go_loopg [4] (a.length) (fun m_ v4_ wr => ∃ (k0 : Nat) (out_3l0 : (List Go.Proofs.Ytdbgmcgjklmkkaa.PBan.Ban)), k0 + m_ = a.length ∧ v4_ = .int .i64 (k0 : Int) ∧ Hid (cntK (l0 a) m_ k0 (out_3l0) (e0 ) = some r) ∧ Hid (Below w.heap.size w wr) ∧ Hid (wr.ownsRow w.heap.size 96 4 (.slice (some ⟨w.heap.size, 0, none⟩) t_3.length a.length) t_3.length (Go.Proofs.Ytdbgmcgjklmkkaa.PBan.flat out_3l0)) ∧ Hid (out_3l0.length = t_3.length))
  case atStart => exact ⟨0, _, by omega, rfl, H, HBwt_3, Pt_3, Lib.hid (rfl)⟩
  case round =>
    obtain ⟨k0, out_3l0, hkm0, rfl, H, HBwr0, Oout_3l0, hnout_3l0⟩ := hrel
    rename World => wr0
    cases gk with
    | zero =>
      obtain rfl : k0 = a.length := by omega
      have hc0 : decide (((a.length : Nat) : Int) < ((a.length : Nat) : Int)) = false := by simp
      replace H := cnt_zero H
      unfold e0 at H
      replace H := let_hid H
      obtain ⟨_, rfl, H⟩ := H
      obtain rfl := ret_hid H
      go_wp2_with fail
      go_ret
      have hr_0 := hnout_3l0.out
      replace Oout_3l0 := Lib.hid (own_len hr_0 Oout_3l0.out)
      exact ⟨(some ⟨w.heap.size, 0, none⟩), a.length, (by first | (rw [hr_0]; done) | (rw [hr_0]; rfl)), Oout_3l0.out, HBwr0.out⟩
    | succ m0 =>
      have hlt0 : k0 < a.length := by omega
      have hc0 : decide ((k0 : Int) < ((a.length : Nat) : Int)) = true := by simp; omega
      replace H := cnt_succ H
      unfold l0 at H
      replace H := let_hid H
      obtain ⟨_, rfl, H⟩ := H
      replace H := idx_hid H
      obtain ⟨nt_14, yt_14, et_14, lt_14, gt_14, H⟩ := H
      obtain rfl : k0 = nt_14 := by omega
      clear et_14
      obtain ⟨t_14_a, t_14_x, t_14_b, t_14_y⟩ := yt_14
      replace H := unBan_hid H
      obtain ⟨ab_t_14, ao_t_14, zt_14, At_14, z_t_14, ct_14_0, ct_14_1, ct_14_2, ct_14_3⟩ := Go.Proofs.Ytdbgmcgjklmkkaa.OBan.at_ M0.out lt_14
      obtain rfl := Option.some.inj (gt_14.out.symm.trans z_t_14)
      subst At_14
      have ltt_14 := cell_lt ct_14_0
      replace ct_14_0 := cell_below HBwr0.out ct_14_0
      replace ct_14_1 := cell_below HBwr0.out ct_14_1
      replace ct_14_2 := cell_below HBwr0.out ct_14_2
      replace ct_14_3 := cell_below HBwr0.out ct_14_3
      clear z_t_14
      have b0t_14 : (0 : Int) ≤ (k0 : Int) := by omega
      have b1t_14 : (k0 : Int) < ((a.length : Nat) : Int) := by omega
      have b2t_14 : ((k0 : Int)).toNat = k0 := by omega
      replace H := bind_hid H
      obtain ⟨t_16, qt_16, H⟩ := H
      obtain ⟨t_16_a, t_16_x, t_16_b, t_16_y⟩ := t_16
      replace H := unBan_hid H
      go_wp2_with fail
      go_at_call 63
      refine (Go.Proofs.Ytdbgmcgjklmkkaa.GlToBan.C ((Go.Proofs.Ytdbgmcgjklmkkaa.PBan.Ban.mk t_14_a t_14_x t_14_b t_14_y))  _    qt_16).mono ?_
      rintro e_t_16 wt_16 ⟨rfl, bt_16⟩
      unfold Go.Proofs.Ytdbgmcgjklmkkaa.PBan.Ban.val
      have HBwt_16 := Lib.hid (Below.step HBwr0.out bt_16)
      replace ct_14_0 := cell_below bt_16 ct_14_0
      replace ct_14_1 := cell_below bt_16 ct_14_1
      replace ct_14_2 := cell_below bt_16 ct_14_2
      replace ct_14_3 := cell_below bt_16 ct_14_3
      replace Oout_3l0 := Lib.hid (own_below Oout_3l0.out bt_16)
      clear bt_16
      replace H := idx_hid H
      obtain ⟨nt_17, yt_17, et_17, lt_17, gt_17, H⟩ := H
      obtain rfl : k0 = nt_17 := by omega
      clear et_17
      obtain ⟨t_17_a, t_17_x, t_17_b, t_17_y⟩ := yt_17
      replace H := unBan_hid H
      have hqt_17 := hnout_3l0.out
      obtain ⟨ab_t_17, ao_t_17, zt_17, At_17, z_t_17, ct_17_0, ct_17_1, ct_17_2, ct_17_3⟩ := Go.Proofs.Ytdbgmcgjklmkkaa.OBan.at_ (own_cells Oout_3l0.out) (k := k0) (by omega)
      obtain rfl := Option.some.inj (gt_17.out.symm.trans z_t_17)
      simp only [Option.some.injEq, Addr.mk.injEq] at At_17
      obtain ⟨rfl, rfl, _⟩ := At_17
      clear z_t_17
      simp only [Nat.zero_add] at ct_17_0 ct_17_1 ct_17_2 ct_17_3
      have b0t_17 : (0 : Int) ≤ (k0 : Int) := by omega
      have b1t_17 : (k0 : Int) < ((t_3.length : Nat) : Int) := by omega
      have b2t_17 : ((k0 : Int)).toNat = k0 := by omega
      clear hqt_17
      replace H := let_hid H
      obtain ⟨l18_18, hl18_18, H⟩ := H
      try simp only [Int.toNat_natCast] at hl18_18
      obtain ⟨wl18_18, hwl18_18⟩ : ∃ x, ((((wt_16).setCell ⟨w.heap.size, k0 * 4, none⟩ (.int .i64 t_16_a)).setCell ⟨w.heap.size, k0 * 4 + 1, none⟩ (.int .i64 t_16_x)).setCell ⟨w.heap.size, k0 * 4 + 2, none⟩ (.int .i64 t_16_b)).setCell ⟨w.heap.size, k0 * 4 + 3, none⟩ (.int .i64 t_16_y) = x := ⟨_, rfl⟩
      have z0l18_18 := Oout_3l0.out.frozenAt (k0 * 4)
      have z1l18_18 := Oout_3l0.out.frozenAt (k0 * 4 + 1)
      have z2l18_18 := Oout_3l0.out.frozenAt (k0 * 4 + 2)
      have z3l18_18 := Oout_3l0.out.frozenAt (k0 * 4 + 3)
      have Sl18_18 := Lib.hid (own_stores [(k0 * 4, .int .i64 t_16_a), (k0 * 4 + 1, .int .i64 t_16_x), (k0 * 4 + 2, .int .i64 t_16_b), (k0 * 4 + 3, .int .i64 t_16_y)] Oout_3l0.out)
      have nl18_18 : Hid (l18_18.length = t_3.length) := Lib.hid (by rw [← hl18_18, List.length_set]; exact hnout_3l0.out)
      have Pl18_18 : Hid (wl18_18.ownsRow w.heap.size 96 4 (.slice (some ⟨w.heap.size, 0, none⟩) t_3.length a.length) t_3.length (Go.Proofs.Ytdbgmcgjklmkkaa.PBan.flat l18_18)) := Lib.hid (by have es_ := set_self gt_17.out; have e0_ := flat_set Go.Proofs.Ytdbgmcgjklmkkaa.PBan.Ban.cells 4 (fun _ => rfl) out_3l0 (k0) 0 (Go.Proofs.Ytdbgmcgjklmkkaa.PBan.Ban.mk t_17_a t_17_x t_17_b t_17_y) (Go.Proofs.Ytdbgmcgjklmkkaa.PBan.Ban.mk t_16_a t_17_x t_17_b t_17_y) (.int .i64 t_16_a) lt_17 (by decide) rfl; have e1_ := flat_set Go.Proofs.Ytdbgmcgjklmkkaa.PBan.Ban.cells 4 (fun _ => rfl) out_3l0 (k0) 1 (Go.Proofs.Ytdbgmcgjklmkkaa.PBan.Ban.mk t_16_a t_17_x t_17_b t_17_y) (Go.Proofs.Ytdbgmcgjklmkkaa.PBan.Ban.mk t_16_a t_16_x t_17_b t_17_y) (.int .i64 t_16_x) lt_17 (by decide) rfl; have e2_ := flat_set Go.Proofs.Ytdbgmcgjklmkkaa.PBan.Ban.cells 4 (fun _ => rfl) out_3l0 (k0) 2 (Go.Proofs.Ytdbgmcgjklmkkaa.PBan.Ban.mk t_16_a t_16_x t_17_b t_17_y) (Go.Proofs.Ytdbgmcgjklmkkaa.PBan.Ban.mk t_16_a t_16_x t_16_b t_17_y) (.int .i64 t_16_b) lt_17 (by decide) rfl; have e3_ := flat_set Go.Proofs.Ytdbgmcgjklmkkaa.PBan.Ban.cells 4 (fun _ => rfl) out_3l0 (k0) 3 (Go.Proofs.Ytdbgmcgjklmkkaa.PBan.Ban.mk t_16_a t_16_x t_16_b t_17_y) (Go.Proofs.Ytdbgmcgjklmkkaa.PBan.Ban.mk t_16_a t_16_x t_16_b t_16_y) (.int .i64 t_16_y) lt_17 (by decide) rfl; rw [es_] at e0_; have e_ : ([(k0 * 4, .int .i64 t_16_a), (k0 * 4 + 1, .int .i64 t_16_x), (k0 * 4 + 2, .int .i64 t_16_b), (k0 * 4 + 3, .int .i64 t_16_y)] : List (Nat × Value)).foldl (fun xs p => xs.set p.1 p.2) (Go.Proofs.Ytdbgmcgjklmkkaa.PBan.flat out_3l0) = (Go.Proofs.Ytdbgmcgjklmkkaa.PBan.flat l18_18) := (by rw [← hl18_18]; show _ = List.flatMap Go.Proofs.Ytdbgmcgjklmkkaa.PBan.Ban.cells _; rw [← e3_, ← e2_, ← e1_, ← e0_]; first | done | rfl); rw [← hwl18_18, ← e_]; exact Sl18_18.out.1)
      have Gl18_18 : Hid (wt_16.grownBy wl18_18 (Value.slice (some ⟨w.heap.size, 0, none⟩) t_3.length a.length).ownBlock) := Lib.hid (by rw [← hwl18_18]; exact Sl18_18.out.2)
      have HBwl18_18 := Lib.hid (HBwt_16.out.grown Gl18_18.out HBwt_16.out.size (fun q hq => (Oout_3l0.out.lt q hq).1))
      have hhl18_18 := Lib.hid hl18_18
      clear hl18_18 Sl18_18
      have ct_14_0__74 := cell_other ct_14_0 Gl18_18.out (apart_old Oout_3l0.out ltt_14)
      have ct_14_1__75 := cell_other ct_14_1 Gl18_18.out (apart_old Oout_3l0.out ltt_14)
      have ct_14_2__76 := cell_other ct_14_2 Gl18_18.out (apart_old Oout_3l0.out ltt_14)
      have ct_14_3__77 := cell_other ct_14_3 Gl18_18.out (apart_old Oout_3l0.out ltt_14)
      clear Oout_3l0 Gl18_18
      replace H := app_hid H
      go_wp2_with fail
      clear z0l18_18 z1l18_18 z2l18_18 z3l18_18 ct_14_0 ct_14_1 ct_14_2 ct_14_3 ct_17_0 ct_17_1 ct_17_2 ct_17_3
      go_roundg m0
      case measure => omega
      case rel => exact ⟨k0 + 1, _, by omega, by go_num, H, HBwl18_18, Pl18_18, Lib.hid (nl18_18.out)⟩
end Go.Proofs.Ytdbgmcgjklmkkaa.GlToBanS

/- loop.example/g01062/laws.toKindTable as a plain function, and the contract of the program's: where the plain one has an answer, the program has it. Conditions: slices read as lists. -/
namespace Go.Proofs.Ytdbgmcgjklmkkaa.GlToKindTable
set_option linter.unusedVariables false
set_option linter.unusedSimpArgs false
open Go.RowKit
open Go.Proofs.Ytdbgmcgjklmkkaa.Rowed Go.Proofs.Ytdbgmcgjklmkkaa.Turn Go.Proofs.Ytdbgmcgjklmkkaa.Aid Go.Proofs.Ytdbgmcgjklmkkaa.GoP Go.Proofs.Ytdbgmcgjklmkkaa.GoM

def P (a_sizes : (List Int)) (a_bans : (List Go.Proofs.Ytdbgmcgjklmkkaa.PBan.Ban)) : Option (Go.Proofs.Ytdbgmcgjklmkkaa.PKindTable.KindTable) :=
  Option.bind (Go.Proofs.Ytdbgmcgjklmkkaa.GlToIntS.P a_sizes) fun (t_5 : (List Int)) =>
  Option.bind (Go.Proofs.Ytdbgmcgjklmkkaa.GlToBanS.P a_bans) fun (t_10 : (List Go.Proofs.Ytdbgmcgjklmkkaa.PBan.Ban)) =>
  some (Go.Proofs.Ytdbgmcgjklmkkaa.PKindTable.KindTable.mk t_5 t_10)

set_option maxRecDepth 100000 in
set_option maxHeartbeats 2000000 in
theorem C (a_sizes : (List Int)) (a_bans : (List Go.Proofs.Ytdbgmcgjklmkkaa.PBan.Ban)) (A0_0 : Option Addr) (c0_0 : Nat) (A0_1 : Option Addr) (c0_1 : Nat)  (w : World) (M0_0 : Hid (Cells w 1 A0_0 a_sizes.length (Go.Proofs.Ytdbgmcgjklmkkaa.HelpInt.iv a_sizes))) (N0_0 : Hid (a_sizes.length ≤ 9223372036854775807)) (M0_1 : Hid (Cells w 4 A0_1 a_bans.length (Go.Proofs.Ytdbgmcgjklmkkaa.PBan.flat a_bans))) (N0_1 : Hid (a_bans.length ≤ 9223372036854775807))  {r_sizes : (List Int)} {r_bans : (List Go.Proofs.Ytdbgmcgjklmkkaa.PBan.Ban)} (H : Hid (P a_sizes a_bans = some (Go.Proofs.Ytdbgmcgjklmkkaa.PKindTable.KindTable.mk r_sizes r_bans))) :
    Calls Try.prog 14 #[.agg #[.slice A0_0 a_sizes.length c0_0, .slice A0_1 a_bans.length c0_1]] w (fun e w' => ∃ A_r_sizes c_r_sizes A_r_bans c_r_bans, e = .returned (.agg #[.slice A_r_sizes r_sizes.length c_r_sizes, .slice A_r_bans r_bans.length c_r_bans]) ∧ w'.ownsRow w.heap.size 3 1 (.slice A_r_sizes r_sizes.length c_r_sizes) r_sizes.length (Go.Proofs.Ytdbgmcgjklmkkaa.HelpInt.iv r_sizes) ∧ w'.ownsRow w.heap.size 96 4 (.slice A_r_bans r_bans.length c_r_bans) r_bans.length (Go.Proofs.Ytdbgmcgjklmkkaa.PBan.flat r_bans) ∧ Apart A_r_sizes A_r_bans ∧ Below w.heap.size w w') := by
  have HB := Lib.hid (Below.refl w.heap.size w)
  unfold P at H
  have N0_0o := N0_0.out
  have N0_1o := N0_1.out
  go_enter Try.func14, Try.ntmps14
  obtain ⟨w_a_0, hw_a_0⟩ : ∃ x, w.alloc (.cells #[.slice A0_0 a_sizes.length c0_0, .slice A0_1 a_bans.length c0_1] 25) = x := ⟨_, rfl⟩
  have bw_a_0 : Below w.heap.size w w_a_0 := by rw [← hw_a_0]; exact (Below.refl _ _).alloc (Nat.le_refl _) _
  have HBw_a_0 := Lib.hid (Below.step HB.out bw_a_0)
  clear bw_a_0
  have ka_0_0 : w_a_0.cell? ⟨w.heap.size, 0, none⟩ = some (.slice A0_0 a_sizes.length c0_0) := by rw [← hw_a_0]; exact box_new _ _ _ 0 _ rfl
  have ka_0_1 : w_a_0.cell? ⟨w.heap.size, 1, none⟩ = some (.slice A0_1 a_bans.length c0_1) := by rw [← hw_a_0]; exact box_new _ _ _ 1 _ rfl
  obtain ⟨w_t_1, hw_t_1⟩ : ∃ x, w_a_0.alloc (.cells #[.slice none 0 0, .slice none 0 0] 31) = x := ⟨_, rfl⟩
  have bw_t_1 : Below w_a_0.heap.size w_a_0 w_t_1 := by rw [← hw_t_1]; exact (Below.refl _ _).alloc (Nat.le_refl _) _
  have Dt_1_a_0 := Lib.hid (apart_box ka_0_0)
  have HBw_t_1 := Lib.hid (Below.step HBw_a_0.out bw_t_1)
  have ka_0_0__78 := cell_below bw_t_1 ka_0_0
  have ka_0_1__79 := cell_below bw_t_1 ka_0_1
  clear bw_t_1
  have kt_1_0 : w_t_1.cell? ⟨w_a_0.heap.size, 0, none⟩ = some (.slice none 0 0) := by rw [← hw_t_1]; exact box_new _ _ _ 0 _ rfl
  have kt_1_1 : w_t_1.cell? ⟨w_a_0.heap.size, 1, none⟩ = some (.slice none 0 0) := by rw [← hw_t_1]; exact box_new _ _ _ 1 _ rfl
  have Ot_1 : Hid (w_t_1.ownsRow w.heap.size 31 2 (.slice (some ⟨w_a_0.heap.size, 0, none⟩) 1 1) 1 [.slice none 0 0, .slice none 0 0]) := Lib.hid (by rw [← hw_t_1]; exact own_laid (n := 1) HBw_a_0.out.size rfl rfl (by unfold maxLen; omega))
  obtain ⟨w_out_2, hw_out_2⟩ : ∃ x, w_t_1.alloc (.cells #[.slice none 0 0, .slice none 0 0] 31) = x := ⟨_, rfl⟩
  have bw_out_2 : Below w_t_1.heap.size w_t_1 w_out_2 := by rw [← hw_out_2]; exact (Below.refl _ _).alloc (Nat.le_refl _) _
  have Dout_2_a_0 := Lib.hid (apart_box ka_0_0__78)
  have Dout_2_t_1 := Lib.hid (apart_box kt_1_0)
  have HBw_out_2 := Lib.hid (Below.step HBw_t_1.out bw_out_2)
  have ka_0_0__80 := cell_below bw_out_2 ka_0_0__78
  have ka_0_1__81 := cell_below bw_out_2 ka_0_1__79
  have kt_1_0__82 := cell_below bw_out_2 kt_1_0
  have kt_1_1__83 := cell_below bw_out_2 kt_1_1
  replace Ot_1 := Lib.hid (own_below Ot_1.out bw_out_2)
  clear bw_out_2
  have kout_2_0 : w_out_2.cell? ⟨w_t_1.heap.size, 0, none⟩ = some (.slice none 0 0) := by rw [← hw_out_2]; exact box_new _ _ _ 0 _ rfl
  have kout_2_1 : w_out_2.cell? ⟨w_t_1.heap.size, 1, none⟩ = some (.slice none 0 0) := by rw [← hw_out_2]; exact box_new _ _ _ 1 _ rfl
  have Oout_2 : Hid (w_out_2.ownsRow w.heap.size 31 2 (.slice (some ⟨w_t_1.heap.size, 0, none⟩) 1 1) 1 [.slice none 0 0, .slice none 0 0]) := Lib.hid (by rw [← hw_out_2]; exact own_laid (n := 1) HBw_t_1.out.size rfl rfl (by unfold maxLen; omega))
  replace H := bind_hid H
  obtain ⟨t_5, qt_5, H⟩ := H
  go_wp2_with fail
  clear ka_0_0 ka_0_1 ka_0_0__78 ka_0_1__79 kt_1_0 kt_1_1
  go_at_call 70
  refine (Go.Proofs.Ytdbgmcgjklmkkaa.GlToIntS.C (a_sizes) A0_0 c0_0 _   (Lib.hid (Cells.below M0_0.out HBw_out_2.out)) N0_0 qt_5).mono ?_
  rintro e_t_5 wt_5 ⟨At_5, ct_5, rfl, ot_5, bt_5⟩
  have Dt_5_a_0 := Lib.hid (apart_callbox ot_5 ka_0_0__80)
  have Dt_5_t_1 := Lib.hid (apart_callbox ot_5 kt_1_0__82)
  have Dt_5_out_2 := Lib.hid (apart_callbox ot_5 kout_2_0)
  have Ot_5 := Lib.hid (own_lower ot_5 HBw_out_2.out.size)
  clear ot_5
  have HBwt_5 := Lib.hid (Below.step HBw_out_2.out bt_5)
  replace ka_0_0__80 := cell_below bt_5 ka_0_0__80
  replace ka_0_1__81 := cell_below bt_5 ka_0_1__81
  replace kt_1_0__82 := cell_below bt_5 kt_1_0__82
  replace kt_1_1__83 := cell_below bt_5 kt_1_1__83
  replace kout_2_0 := cell_below bt_5 kout_2_0
  replace kout_2_1 := cell_below bt_5 kout_2_1
  replace Ot_1 := Lib.hid (own_below Ot_1.out bt_5)
  replace Oout_2 := Lib.hid (own_below Oout_2.out bt_5)
  clear bt_5
  obtain ⟨wb7_7, hwb7_7⟩ : ∃ x, (wt_5).setCell ⟨w_t_1.heap.size, 0, none⟩ (.slice At_5 t_5.length ct_5) = x := ⟨_, rfl⟩
  have z0b7_7 := Oout_2.out.frozenAt 0
  have Sb7_7 := Lib.hid (own_stores [(0, .slice At_5 t_5.length ct_5)] Oout_2.out)
  have Pb7_7 : Hid (wb7_7.ownsRow w.heap.size 31 2 (.slice (some ⟨w_t_1.heap.size, 0, none⟩) 1 1) 1 [.slice At_5 t_5.length ct_5, .slice none 0 0]) := Lib.hid (by rw [← hwb7_7]; exact Sb7_7.out.1)
  have Gb7_7 : Hid (wt_5.grownBy wb7_7 (Value.slice (some ⟨w_t_1.heap.size, 0, none⟩) 1 1).ownBlock) := Lib.hid (by rw [← hwb7_7]; exact Sb7_7.out.2)
  have HBwb7_7 := Lib.hid (HBwt_5.out.grown Gb7_7.out HBwt_5.out.size (fun q hq => (Oout_2.out.lt q hq).1))
  clear Sb7_7
  have ka_0_0__84 := cell_other ka_0_0__80 Gb7_7.out Dout_2_a_0.out
  have ka_0_1__85 := cell_other ka_0_1__81 Gb7_7.out Dout_2_a_0.out
  have kt_1_0__86 := cell_other kt_1_0__82 Gb7_7.out Dout_2_t_1.out
  have kt_1_1__87 := cell_other kt_1_1__83 Gb7_7.out Dout_2_t_1.out
  replace Ot_1 := Lib.hid (own_other Ot_1.out Gb7_7.out Dout_2_t_1.out)
  replace Ot_5 := Lib.hid (own_other Ot_5.out Gb7_7.out (Apart.symm Dt_5_out_2.out))
  clear Oout_2 Gb7_7
  have kout_2_0__88 : wb7_7.cell? ⟨w_t_1.heap.size, 0, none⟩ = some (.slice At_5 t_5.length ct_5) := Pb7_7.out.cells rfl 0 _ rfl
  have kout_2_1__89 : wb7_7.cell? ⟨w_t_1.heap.size, 1, none⟩ = some (.slice none 0 0) := Pb7_7.out.cells rfl 1 _ rfl
  replace H := bind_hid H
  obtain ⟨t_10, qt_10, H⟩ := H
  go_wp2_with fail
  clear z0b7_7 ka_0_0__80 ka_0_1__81 kt_1_0__82 kt_1_1__83 kout_2_0 kout_2_1
  go_at_call 71
  refine (Go.Proofs.Ytdbgmcgjklmkkaa.GlToBanS.C (a_bans) A0_1 c0_1 _   (Lib.hid (Cells.below M0_1.out HBwb7_7.out)) N0_1 qt_10).mono ?_
  rintro e_t_10 wt_10 ⟨At_10, ct_10, rfl, ot_10, bt_10⟩
  have Dt_10_t_5 := Lib.hid (apart_call ot_10 Ot_5.out)
  have Dt_10_a_0 := Lib.hid (apart_callbox ot_10 ka_0_0__84)
  have Dt_10_t_1 := Lib.hid (apart_callbox ot_10 kt_1_0__86)
  have Dt_10_out_2 := Lib.hid (apart_callbox ot_10 kout_2_0__88)
  have Ot_10 := Lib.hid (own_lower ot_10 HBwb7_7.out.size)
  clear ot_10
  have HBwt_10 := Lib.hid (Below.step HBwb7_7.out bt_10)
  replace ka_0_0__84 := cell_below bt_10 ka_0_0__84
  replace ka_0_1__85 := cell_below bt_10 ka_0_1__85
  replace kt_1_0__86 := cell_below bt_10 kt_1_0__86
  replace kt_1_1__87 := cell_below bt_10 kt_1_1__87
  replace kout_2_0__88 := cell_below bt_10 kout_2_0__88
  replace kout_2_1__89 := cell_below bt_10 kout_2_1__89
  replace Ot_5 := Lib.hid (own_below Ot_5.out bt_10)
  replace Ot_1 := Lib.hid (own_below Ot_1.out bt_10)
  replace Pb7_7 := Lib.hid (own_below Pb7_7.out bt_10)
  clear bt_10
  obtain ⟨wb12_12, hwb12_12⟩ : ∃ x, (wt_10).setCell ⟨w_t_1.heap.size, 1, none⟩ (.slice At_10 t_10.length ct_10) = x := ⟨_, rfl⟩
  have z0b12_12 := Pb7_7.out.frozenAt 1
  have Sb12_12 := Lib.hid (own_stores [(1, .slice At_10 t_10.length ct_10)] Pb7_7.out)
  have Pb12_12 : Hid (wb12_12.ownsRow w.heap.size 31 2 (.slice (some ⟨w_t_1.heap.size, 0, none⟩) 1 1) 1 [.slice At_5 t_5.length ct_5, .slice At_10 t_10.length ct_10]) := Lib.hid (by rw [← hwb12_12]; exact Sb12_12.out.1)
  have Gb12_12 : Hid (wt_10.grownBy wb12_12 (Value.slice (some ⟨w_t_1.heap.size, 0, none⟩) 1 1).ownBlock) := Lib.hid (by rw [← hwb12_12]; exact Sb12_12.out.2)
  have HBwb12_12 := Lib.hid (HBwt_10.out.grown Gb12_12.out HBwt_10.out.size (fun q hq => (Pb7_7.out.lt q hq).1))
  clear Sb12_12
  have ka_0_0__90 := cell_other ka_0_0__84 Gb12_12.out Dout_2_a_0.out
  have ka_0_1__91 := cell_other ka_0_1__85 Gb12_12.out Dout_2_a_0.out
  have kt_1_0__92 := cell_other kt_1_0__86 Gb12_12.out Dout_2_t_1.out
  have kt_1_1__93 := cell_other kt_1_1__87 Gb12_12.out Dout_2_t_1.out
  replace Ot_1 := Lib.hid (own_other Ot_1.out Gb12_12.out Dout_2_t_1.out)
  replace Ot_5 := Lib.hid (own_other Ot_5.out Gb12_12.out (Apart.symm Dt_5_out_2.out))
  replace Ot_10 := Lib.hid (own_other Ot_10.out Gb12_12.out (Apart.symm Dt_10_out_2.out))
  clear Pb7_7 Gb12_12
  have kout_2_0__94 : wb12_12.cell? ⟨w_t_1.heap.size, 0, none⟩ = some (.slice At_5 t_5.length ct_5) := Pb12_12.out.cells rfl 0 _ rfl
  have kout_2_1__95 : wb12_12.cell? ⟨w_t_1.heap.size, 1, none⟩ = some (.slice At_10 t_10.length ct_10) := Pb12_12.out.cells rfl 1 _ rfl
  obtain ⟨wb14_14, hwb14_14⟩ : ∃ x, ((wb12_12).setCell ⟨w_a_0.heap.size, 0, none⟩ (.slice At_5 t_5.length ct_5)).setCell ⟨w_a_0.heap.size, 1, none⟩ (.slice At_10 t_10.length ct_10) = x := ⟨_, rfl⟩
  have z0b14_14 := Ot_1.out.frozenAt 0
  have z1b14_14 := Ot_1.out.frozenAt 1
  have Sb14_14 := Lib.hid (own_stores [(0, .slice At_5 t_5.length ct_5), (1, .slice At_10 t_10.length ct_10)] Ot_1.out)
  have Pb14_14 : Hid (wb14_14.ownsRow w.heap.size 31 2 (.slice (some ⟨w_a_0.heap.size, 0, none⟩) 1 1) 1 [.slice At_5 t_5.length ct_5, .slice At_10 t_10.length ct_10]) := Lib.hid (by rw [← hwb14_14]; exact Sb14_14.out.1)
  have Gb14_14 : Hid (wb12_12.grownBy wb14_14 (Value.slice (some ⟨w_a_0.heap.size, 0, none⟩) 1 1).ownBlock) := Lib.hid (by rw [← hwb14_14]; exact Sb14_14.out.2)
  have HBwb14_14 := Lib.hid (HBwb12_12.out.grown Gb14_14.out HBwb12_12.out.size (fun q hq => (Ot_1.out.lt q hq).1))
  clear Sb14_14
  have ka_0_0__96 := cell_other ka_0_0__90 Gb14_14.out Dt_1_a_0.out
  have ka_0_1__97 := cell_other ka_0_1__91 Gb14_14.out Dt_1_a_0.out
  have kout_2_0__98 := cell_other kout_2_0__94 Gb14_14.out (Apart.symm Dout_2_t_1.out)
  have kout_2_1__99 := cell_other kout_2_1__95 Gb14_14.out (Apart.symm Dout_2_t_1.out)
  replace Pb12_12 := Lib.hid (own_other Pb12_12.out Gb14_14.out (Apart.symm Dout_2_t_1.out))
  replace Ot_5 := Lib.hid (own_other Ot_5.out Gb14_14.out (Apart.symm Dt_5_t_1.out))
  replace Ot_10 := Lib.hid (own_other Ot_10.out Gb14_14.out (Apart.symm Dt_10_t_1.out))
  clear Ot_1 Gb14_14
  have kt_1_0__100 : wb14_14.cell? ⟨w_a_0.heap.size, 0, none⟩ = some (.slice At_5 t_5.length ct_5) := Pb14_14.out.cells rfl 0 _ rfl
  have kt_1_1__101 : wb14_14.cell? ⟨w_a_0.heap.size, 1, none⟩ = some (.slice At_10 t_10.length ct_10) := Pb14_14.out.cells rfl 1 _ rfl
  have hR_ := ret_hid H
  simp only [Go.Proofs.Ytdbgmcgjklmkkaa.PKindTable.KindTable.mk.injEq] at hR_
  obtain ⟨rfl, rfl⟩ := hR_
  go_wp2_with fail
  (try simp only [Exit.inBlock, Exit.then])
  refine bodyPost_ret (v := .agg #[.slice At_5 t_5.length ct_5, .slice At_10 t_10.length ct_10]) ?hr_ ?hd_ ?_
  case hd_ => rfl
  case hr_ => simp [results, Try.results14, kt_1_0__100, kt_1_1__101, go_sem]
  exact ⟨At_5, ct_5, At_10, ct_10, rfl, Ot_5.out, Ot_10.out, (Apart.symm Dt_10_t_5.out), HBwb14_14.out⟩
end Go.Proofs.Ytdbgmcgjklmkkaa.GlToKindTable

/- An append onto a row of its own as one step of a region that draws its order. No condition. -/
namespace Go.Proofs.Ytdbgmcgjklmkkaa.GoH
set_option linter.unusedVariables false
theorem step_append_own {P : Program} {w : World} {ops : Array Oper} {o : Oper} {a : Act} {K : Act → World → Prop} {Q : Exit → Act → World → Prop} {E : Prop} (hgd : o.guard = none) (s x : Operand) (t : TypeId)
    (ho : o.op = .call { callee := .builtin .append, args := #[s, x], argTypes := #[t, t] })
    (base : Nat) (e : TypeId) (i : TypeInfo) (z : Value) (size bytes : Nat) (ht : P.underlying t = some (.slice e)) (hi : P.info? e = some i) (hz : i.zero = some z)
    (hsize : i.size = size) (hby : i.bytes = bytes) (hzs : z.cells.size = size) (hsz : 0 < size)
    (A : Option Addr) (c n : Nat) (xs : List Value) (hs : a.eval s = .slice A n c) (hown : w.ownsRow base e size (.slice A n c) n xs)
    (ad : Addr) (cc : Nat) (news : List Value) (hx : a.eval x = .slice (some ad) 1 cc) (hl : news.length = 1 * size) (hnews : ∀ j u, news[j]? = some u → w.cell? (ad.add j) = some u) (h1 : ∀ u ∈ news, u.oneCell' = true)
    (h63 : n + 1 ≤ maxLen) (hbytes : (n + 1) * bytes ≤ 140737488355328) (hbase : base ≤ w.heap.size)
    (h : ∀ v' w', w'.ownsRow base e size v' (n + 1) (xs ++ news) → w.grownBy w' (Value.slice A n c).ownBlock → (v'.ownBlock = (Value.slice A n c).ownBlock ∨ v'.ownBlock = some w.heap.size) → K (a.put o.dst v') w') :
    if Region.wanted o (yielded ops a.tmps) = true then Oper.wp P o a w K Q else E := by
  refine Go.step_append_lies w hgd s x t ho base e i z size bytes ht hi hz hsize hby hzs hsz (.slice A n c) n xs hs hown ad 1 cc news hx hl hnews h1 (by omega) h63 hbytes hbase w.heap.size rfl ?_
  intro g cap w' o1 g1 y1 _
  refine h _ w' o1 g1 ?_
  rcases y1 with y1 | y1
  · left; rw [y1]; rfl
  · right; rw [y1]; rfl
/-- append(a, b...) onto a row of its own as one step of such a region -/
theorem step_spread_own {P : Program} {w : World} {ops : Array Oper} {o : Oper} {a : Act} {K : Act → World → Prop} {Q : Exit → Act → World → Prop} {E : Prop} (hgd : o.guard = none) (s x : Operand) (t : TypeId)
    (ho : o.op = .call { callee := .builtin .append, args := #[s, x], argTypes := #[t, t] })
    (base : Nat) (e : TypeId) (i : TypeInfo) (z : Value) (size bytes : Nat) (ht : P.underlying t = some (.slice e)) (hi : P.info? e = some i) (hz : i.zero = some z)
    (hsize : i.size = size) (hby : i.bytes = bytes) (hzs : z.cells.size = size) (hsz : 0 < size)
    (A1 : Option Addr) (c1 n : Nat) (xs : List Value) (hs : a.eval s = .slice A1 n c1) (hown : w.ownsRow base e size (.slice A1 n c1) n xs)
    (A : Option Addr) (m c : Nat) (news : List Value) (hx : a.eval x = .slice A m c) (hN : Go.Proofs.Ytdbgmcgjklmkkaa.GoM.Room A m c) (hc : Go.Proofs.Ytdbgmcgjklmkkaa.Rowed.Cells w size A m news) (h1 : ∀ u ∈ news, u.oneCell' = true)
    (h63 : n + m ≤ maxLen) (hbytes : (n + m) * bytes ≤ 140737488355328) (hbase : base ≤ w.heap.size)
    (h : ∀ v' w', w'.ownsRow base e size v' (n + m) (xs ++ news) → w.grownBy w' (Value.slice A1 n c1).ownBlock → (v'.ownBlock = (Value.slice A1 n c1).ownBlock ∨ v'.ownBlock = some w.heap.size) → K (a.put o.dst v') w') :
    if Region.wanted o (yielded ops a.tmps) = true then Oper.wp P o a w K Q else E := by
  have hw : Region.wanted o (yielded ops a.tmps) = true := by simp [Region.wanted, hgd]
  rw [if_pos hw]
  obtain ⟨v', w', hr, h2, h3, h5⟩ : ∃ v' w', (Builtin.append_ #[t, t] o.type #[.slice A1 n c1, .slice A m c]).run P w = .ok v' w' ∧ w'.ownsRow base e size v' (n + m) (xs ++ news) ∧ w.grownBy w' (Value.slice A1 n c1).ownBlock ∧ (v'.ownBlock = (Value.slice A1 n c1).ownBlock ∨ v'.ownBlock = some w.heap.size) := by
    cases A with
    | some ad =>
      obtain ⟨v', w', hr, h2, h3, _, h5⟩ := run_append_own_at (P := P) w base t o.type e i z size bytes ht hi hz hsize hby hzs hsz (.slice A1 n c1) n xs hown ad m c news hc.1 (fun j u hu => by
        obtain ⟨ad', e', hcell⟩ := hc.2 (by have := (List.getElem?_eq_some_iff.1 hu).1; omega)
        obtain rfl : ad = ad' := Option.some.inj e'
        exact hcell j u hu) h1 h63 hbytes hbase
      exact ⟨v', w', hr, h2, h3, h5⟩
    | none =>
      have hm : m = 0 := by
        cases news with
        | nil =>
          have h0 : ([] : List Value).length = m * size := hc.1
          rw [List.length_nil] at h0
          rcases Nat.mul_eq_zero.1 h0.symm with h1 | h1 <;> omega
        | cons y l => obtain ⟨ad, e', _⟩ := hc.2 (by simp); simp at e'
      obtain rfl : c = 0 := hN.2 rfl
      subst hm
      have hn : news = [] := List.eq_nil_of_length_eq_zero (by have := hc.1; simpa using this)
      subst hn
      exact ⟨_, w, run_append_owned_none (P := P) w base t o.type e i size ht hi (.slice A1 n c1) n xs hown, by simpa using hown, World.grownBy.refl w _, .inl rfl⟩
  unfold Oper.wp execOp
  simp only [ho, resolve, invoke, builtin, Sem.run_bind, Sem.run_pure, Result.andThen_ok, List.map_toArray, List.map_cons, List.map_nil, hs, hx, hr]
  exact h v' w' h2 h3 h5
end Go.Proofs.Ytdbgmcgjklmkkaa.GoH

/- loop.example/g01062/spec.l1In as a plain function, and the contract of the program's: where the plain one has an answer, the program has it. Conditions: slices read as lists. -/
namespace Go.Proofs.Ytdbgmcgjklmkkaa.GsL1In
set_option linter.unusedVariables false
set_option linter.unusedSimpArgs false
open Go.RowKit
open Go.Proofs.Ytdbgmcgjklmkkaa.Rowed Go.Proofs.Ytdbgmcgjklmkkaa.Turn Go.Proofs.Ytdbgmcgjklmkkaa.Aid Go.Proofs.Ytdbgmcgjklmkkaa.GoP Go.Proofs.Ytdbgmcgjklmkkaa.GoM

def P (x : Int) (a : Int) (b : Int) : Option (Bool) :=
  letK (decide (a ≤ x)) fun (t_3 : Bool) =>
  joinK (fun (t_8 : Bool) =>
  some t_8) fun jt_8 => iteK t_3 (letK (decide (x ≤ b)) fun (t_7 : Bool) =>
  appK jt_8 t_7) (appK jt_8 false)

set_option maxRecDepth 100000 in
set_option maxHeartbeats 2000000 in
theorem C (x : Int) (a : Int) (b : Int)   (w : World)   {r : Bool} (H : Hid (P x a b = some r)) :
    Calls Try.prog 79 #[.int .i64 x, .int .i64 a, .int .i64 b] w (Gives (.bool r) w) := by
  have HB := Lib.hid (Below.refl w.heap.size w)
  unfold P at H
  go_enter Try.func79, Try.ntmps79
  replace H := let_hid H
  obtain ⟨t_3, ht_3, H⟩ := H
  replace H := join_hid H
  cases t_3 with
  | false =>
    replace H := ite_f H
    replace H := app_hid H
    obtain rfl := ret_hid H
    go_wp2_with fail
    go_ret
    exact ⟨rfl, HB.out⟩
  | true =>
    replace H := ite_t H
    replace H := let_hid H
    obtain ⟨t_7, ht_7, H⟩ := H
    replace H := app_hid H
    obtain rfl := ret_hid H
    go_wp2_with fail
    go_ret
    exact ⟨rfl, HB.out⟩

set_option maxRecDepth 100000 in
set_option maxHeartbeats 2000000 in
theorem C0 (x : Int) (a : Int) (b : Int)   (w : World)   {r : Bool} (H : Hid (P x a b = some r)) :
    Calls Try.prog 79 #[.int .i64 x, .int .i64 a, .int .i64 b] w (fun e w'' => e = .returned (.bool r) ∧ w'' = w) := by
  have HB := Lib.hid (Below.refl w.heap.size w)
  unfold P at H
  go_enter Try.func79, Try.ntmps79
  replace H := let_hid H
  obtain ⟨t_3, ht_3, H⟩ := H
  replace H := join_hid H
  cases t_3 with
  | false =>
    replace H := ite_f H
    replace H := app_hid H
    obtain rfl := ret_hid H
    go_wp2_with fail
    go_ret
    exact ⟨rfl, rfl⟩
  | true =>
    replace H := ite_t H
    replace H := let_hid H
    obtain ⟨t_7, ht_7, H⟩ := H
    replace H := app_hid H
    obtain rfl := ret_hid H
    go_wp2_with fail
    go_ret
    exact ⟨rfl, rfl⟩
end Go.Proofs.Ytdbgmcgjklmkkaa.GsL1In

/- loop.example/g01062/spec.l6Ban as a plain function, and the contract of the program's: where the plain one has an answer, the program has it. Conditions: slices read as lists. -/
namespace Go.Proofs.Ytdbgmcgjklmkkaa.GsL6Ban
set_option linter.unusedVariables false
set_option linter.unusedSimpArgs false
open Go.RowKit
open Go.Proofs.Ytdbgmcgjklmkkaa.Rowed Go.Proofs.Ytdbgmcgjklmkkaa.Turn Go.Proofs.Ytdbgmcgjklmkkaa.Aid Go.Proofs.Ytdbgmcgjklmkkaa.GoP Go.Proofs.Ytdbgmcgjklmkkaa.GoM

def P (sizes : (List Int)) (b : Go.Proofs.Ytdbgmcgjklmkkaa.PBan.Ban) : Option (Bool) :=
  unBan b fun (b_a : Int) (b_x : Int) (b_b : Int) (b_y : Int) =>
  letK (decide (0 ≤ b_a)) fun (t_4 : Bool) =>
  joinK (fun (t_11 : Bool) =>
  joinK (fun (t_18 : Bool) =>
  joinK (fun (t_29 : Bool) =>
  joinK (fun (t_40 : Bool) =>
  some t_40) fun jt_40 => iteK t_29 (Option.bind (idx sizes b_b) fun (yt_36 : Int) =>
  letK (IntKind.i64.wrap (yt_36 - 1)) fun (t_38 : Int) =>
  Option.bind (Go.Proofs.Ytdbgmcgjklmkkaa.GsL1In.P b_y 0 t_38) fun (t_39 : Bool) =>
  appK jt_40 t_39) (appK jt_40 false)) fun jt_29 => iteK t_18 (Option.bind (idx sizes b_a) fun (yt_25 : Int) =>
  letK (IntKind.i64.wrap (yt_25 - 1)) fun (t_27 : Int) =>
  Option.bind (Go.Proofs.Ytdbgmcgjklmkkaa.GsL1In.P b_x 0 t_27) fun (t_28 : Bool) =>
  appK jt_29 t_28) (appK jt_29 false)) fun jt_18 => iteK t_11 (letK (decide (b_b < (sizes.length : Int))) fun (t_17 : Bool) =>
  appK jt_18 t_17) (appK jt_18 false)) fun jt_11 => iteK t_4 (letK (decide (b_a < b_b)) fun (t_10 : Bool) =>
  appK jt_11 t_10) (appK jt_11 false)

set_option maxRecDepth 100000 in
set_option maxHeartbeats 2000000 in
theorem C (sizes : (List Int)) (b : Go.Proofs.Ytdbgmcgjklmkkaa.PBan.Ban) (A0 : Option Addr) (c0 : Nat)  (w : World) (M0 : Hid (Cells w 1 A0 sizes.length (Go.Proofs.Ytdbgmcgjklmkkaa.HelpInt.iv sizes))) (N0 : Hid (sizes.length ≤ 9223372036854775807))  {r : Bool} (H : Hid (P sizes b = some r)) :
    Calls Try.prog 117 #[.slice A0 sizes.length c0, b.val] w (Gives (.bool r) w) := by
  have HB := Lib.hid (Below.refl w.heap.size w)
  unfold P at H
  obtain ⟨b_a, b_x, b_b, b_y⟩ := b
  replace H := unBan_hid H
  unfold Go.Proofs.Ytdbgmcgjklmkkaa.PBan.Ban.val
  have N0o := N0.out
  go_enter Try.func117, Try.ntmps117
  obtain ⟨w_b_0, hw_b_0⟩ : ∃ x, w.alloc (.cells #[.int .i64 b_a, .int .i64 b_x, .int .i64 b_b, .int .i64 b_y] 96) = x := ⟨_, rfl⟩
  have bw_b_0 : Below w.heap.size w w_b_0 := by rw [← hw_b_0]; exact (Below.refl _ _).alloc (Nat.le_refl _) _
  have HBw_b_0 := Lib.hid (Below.step HB.out bw_b_0)
  clear bw_b_0
  have kb_0_0 : w_b_0.cell? ⟨w.heap.size, 0, none⟩ = some (.int .i64 b_a) := by rw [← hw_b_0]; exact box_new _ _ _ 0 _ rfl
  have kb_0_1 : w_b_0.cell? ⟨w.heap.size, 1, none⟩ = some (.int .i64 b_x) := by rw [← hw_b_0]; exact box_new _ _ _ 1 _ rfl
  have kb_0_2 : w_b_0.cell? ⟨w.heap.size, 2, none⟩ = some (.int .i64 b_b) := by rw [← hw_b_0]; exact box_new _ _ _ 2 _ rfl
  have kb_0_3 : w_b_0.cell? ⟨w.heap.size, 3, none⟩ = some (.int .i64 b_y) := by rw [← hw_b_0]; exact box_new _ _ _ 3 _ rfl
  go_wp2_with fail
  have Hkb_0_0 := Lib.hid kb_0_0
  replace kb_0_0 := cell_regrown kb_0_0
  have Hkb_0_1 := Lib.hid kb_0_1
  replace kb_0_1 := cell_regrown kb_0_1
  have Hkb_0_2 := Lib.hid kb_0_2
  replace kb_0_2 := cell_regrown kb_0_2
  have Hkb_0_3 := Lib.hid kb_0_3
  replace kb_0_3 := cell_regrown kb_0_3
  replace H := let_hid H
  obtain ⟨t_4, ht_4, H⟩ := H
  replace H := join_hid H
  cases t_4 with
  | false =>
    replace H := ite_f H
    replace H := app_hid H
    replace H := join_hid H
    replace H := ite_f H
    replace H := app_hid H
    replace H := join_hid H
    replace H := ite_f H
    replace H := app_hid H
    replace H := join_hid H
    replace H := ite_f H
    replace H := app_hid H
    refine wp_region_quiet_below (by kernel_rfl) (by kernel_rfl) ?_
    repeat (go_big_quiet_step (fail))
    refine wpQuiet_nil ?_
    intro Y1 hY1
    replace hY1 := below_class hY1
    replace kb_0_0 := Hkb_0_0.out
    clear Hkb_0_0
    replace kb_0_1 := Hkb_0_1.out
    clear Hkb_0_1
    replace kb_0_2 := Hkb_0_2.out
    clear Hkb_0_2
    replace kb_0_3 := Hkb_0_3.out
    clear Hkb_0_3
    have HBY1 := Lib.hid (Below.step HBw_b_0.out hY1)
    replace kb_0_0 := cell_below hY1 kb_0_0
    replace kb_0_1 := cell_below hY1 kb_0_1
    replace kb_0_2 := cell_below hY1 kb_0_2
    replace kb_0_3 := cell_below hY1 kb_0_3
    clear hY1
    obtain rfl := ret_hid H
    go_wp2_with fail
    go_ret
    exact ⟨rfl, HBY1.out⟩
  | true =>
    replace H := ite_t H
    replace H := let_hid H
    obtain ⟨t_10, ht_10, H⟩ := H
    replace H := app_hid H
    replace H := join_hid H
    cases t_10 with
    | false =>
      replace H := ite_f H
      replace H := app_hid H
      replace H := join_hid H
      replace H := ite_f H
      replace H := app_hid H
      replace H := join_hid H
      replace H := ite_f H
      replace H := app_hid H
      refine wp_region_quiet_below (by kernel_rfl) (by kernel_rfl) ?_
      repeat (go_big_quiet_step (fail))
      refine wpQuiet_nil ?_
      intro Y1 hY1
      replace hY1 := below_class hY1
      replace kb_0_0 := Hkb_0_0.out
      clear Hkb_0_0
      replace kb_0_1 := Hkb_0_1.out
      clear Hkb_0_1
      replace kb_0_2 := Hkb_0_2.out
      clear Hkb_0_2
      replace kb_0_3 := Hkb_0_3.out
      clear Hkb_0_3
      have HBY1 := Lib.hid (Below.step HBw_b_0.out hY1)
      replace kb_0_0 := cell_below hY1 kb_0_0
      replace kb_0_1 := cell_below hY1 kb_0_1
      replace kb_0_2 := cell_below hY1 kb_0_2
      replace kb_0_3 := cell_below hY1 kb_0_3
      clear hY1
      obtain rfl := ret_hid H
      go_wp2_with fail
      go_ret
      exact ⟨rfl, HBY1.out⟩
    | true =>
      replace H := ite_t H
      replace H := let_hid H
      obtain ⟨t_17, ht_17, H⟩ := H
      replace H := app_hid H
      replace H := join_hid H
      cases t_17 with
      | false =>
        replace H := ite_f H
        replace H := app_hid H
        replace H := join_hid H
        replace H := ite_f H
        replace H := app_hid H
        refine wp_region_quiet_below (by kernel_rfl) (by kernel_rfl) ?_
        repeat (go_big_quiet_step (fail))
        refine wpQuiet_nil ?_
        intro Y1 hY1
        replace hY1 := below_class hY1
        replace kb_0_0 := Hkb_0_0.out
        clear Hkb_0_0
        replace kb_0_1 := Hkb_0_1.out
        clear Hkb_0_1
        replace kb_0_2 := Hkb_0_2.out
        clear Hkb_0_2
        replace kb_0_3 := Hkb_0_3.out
        clear Hkb_0_3
        have HBY1 := Lib.hid (Below.step HBw_b_0.out hY1)
        replace kb_0_0 := cell_below hY1 kb_0_0
        replace kb_0_1 := cell_below hY1 kb_0_1
        replace kb_0_2 := cell_below hY1 kb_0_2
        replace kb_0_3 := cell_below hY1 kb_0_3
        clear hY1
        obtain rfl := ret_hid H
        go_wp2_with fail
        go_ret
        exact ⟨rfl, HBY1.out⟩
      | true =>
        replace H := ite_t H
        replace H := idx_hid H
        obtain ⟨nt_25, yt_25, et_25, lt_25, gt_25, H⟩ := H
        subst et_25
        have nc_102 : 0 ≤ nt_25 := by have := of_decide_eq_true ht_4; omega
        obtain ⟨ab_t_25, ao_t_25, zt_25, At_25, z_t_25, ct_25_0⟩ := Go.Proofs.Ytdbgmcgjklmkkaa.HelpInt.Ints.at_ M0.out lt_25
        obtain rfl := Option.some.inj (gt_25.out.symm.trans z_t_25)
        subst At_25
        have ltt_25 := cell_lt ct_25_0
        replace ct_25_0 := cell_below HBw_b_0.out ct_25_0
        clear z_t_25
        have b0t_25 : (0 : Int) ≤ (nt_25 : Int) := by omega
        have b1t_25 : (nt_25 : Int) < ((sizes.length : Nat) : Int) := by omega
        have b2t_25 : ((nt_25 : Int)).toNat = nt_25 := by omega
        have Hct_25_0 := Lib.hid ct_25_0
        replace ct_25_0 := cell_regrown ct_25_0
        replace H := let_hid H
        obtain ⟨t_27, ht_27, H⟩ := H
        replace H := bind_hid H
        obtain ⟨t_28, qt_28, H⟩ := H
        have nt_28 : ∀ d os, Calls Try.prog 79 #[.int .i64 b_x, .int .i64 0, .int .i64 t_27] (Go.Sort.grow (redrawn w_b_0 d) os) fun e w'' => e = .returned (.bool t_28) ∧ ∃ p : Regrown, w'' = Go.Sort.grow (redrawn w_b_0 p.d) p.os := fun d os => Calls.regrown_of (Go.Proofs.Ytdbgmcgjklmkkaa.GsL1In.C (b_x) (0) (t_27)  _    qt_28)
        replace H := app_hid H
        replace H := join_hid H
        cases t_28 with
        | false =>
          replace H := ite_f H
          replace H := app_hid H
          refine wp_region_quiet_below (by kernel_rfl) (by kernel_rfl) ?_
          repeat (go_big_quiet_step (first | (go_at_call 79; exact nt_28 _ _)))
          refine wpQuiet_nil ?_
          intro Y1 hY1
          replace hY1 := below_class hY1
          clear nt_28
          replace kb_0_0 := Hkb_0_0.out
          clear Hkb_0_0
          replace kb_0_1 := Hkb_0_1.out
          clear Hkb_0_1
          replace kb_0_2 := Hkb_0_2.out
          clear Hkb_0_2
          replace kb_0_3 := Hkb_0_3.out
          clear Hkb_0_3
          replace ct_25_0 := Hct_25_0.out
          clear Hct_25_0
          have HBY1 := Lib.hid (Below.step HBw_b_0.out hY1)
          replace kb_0_0 := cell_below hY1 kb_0_0
          replace kb_0_1 := cell_below hY1 kb_0_1
          replace kb_0_2 := cell_below hY1 kb_0_2
          replace kb_0_3 := cell_below hY1 kb_0_3
          replace ct_25_0 := cell_below hY1 ct_25_0
          clear hY1
          obtain rfl := ret_hid H
          go_wp2_with fail
          go_ret
          exact ⟨rfl, HBY1.out⟩
        | true =>
          replace H := ite_t H
          replace H := idx_hid H
          obtain ⟨nt_36, yt_36, et_36, lt_36, gt_36, H⟩ := H
          subst et_36
          have nc_103 : nt_25 < nt_36 := by have := of_decide_eq_true ht_10; omega
          have nc_104 : nt_36 < sizes.length := by have := of_decide_eq_true ht_17; omega
          obtain ⟨ab_t_36, ao_t_36, zt_36, At_36, z_t_36, ct_36_0⟩ := Go.Proofs.Ytdbgmcgjklmkkaa.HelpInt.Ints.at_ M0.out lt_36
          obtain rfl := Option.some.inj (gt_36.out.symm.trans z_t_36)
          simp only [Option.some.injEq, Addr.mk.injEq] at At_36
          obtain ⟨rfl, rfl, _⟩ := At_36
          have ltt_36 := cell_lt ct_36_0
          replace ct_36_0 := cell_below HBw_b_0.out ct_36_0
          clear z_t_36
          have b0t_36 : (0 : Int) ≤ (nt_36 : Int) := by omega
          have b1t_36 : (nt_36 : Int) < ((sizes.length : Nat) : Int) := by omega
          have b2t_36 : ((nt_36 : Int)).toNat = nt_36 := by omega
          have Hct_36_0 := Lib.hid ct_36_0
          replace ct_36_0 := cell_regrown ct_36_0
          replace H := let_hid H
          obtain ⟨t_38, ht_38, H⟩ := H
          replace H := bind_hid H
          obtain ⟨t_39, qt_39, H⟩ := H
          have nt_39 : ∀ d os, Calls Try.prog 79 #[.int .i64 b_y, .int .i64 0, .int .i64 t_38] (Go.Sort.grow (redrawn w_b_0 d) os) fun e w'' => e = .returned (.bool t_39) ∧ ∃ p : Regrown, w'' = Go.Sort.grow (redrawn w_b_0 p.d) p.os := fun d os => Calls.regrown_of (Go.Proofs.Ytdbgmcgjklmkkaa.GsL1In.C (b_y) (0) (t_38)  _    qt_39)
          replace H := app_hid H
          refine wp_region_quiet_below (by kernel_rfl) (by kernel_rfl) ?_
          repeat (go_big_quiet_step (first | (go_at_call 79; with_reducible exact nt_28 _ _) | (go_at_call 79; with_reducible exact nt_39 _ _) | (go_at_call 79; exact nt_28 _ _) | (go_at_call 79; exact nt_39 _ _)))
          refine wpQuiet_nil ?_
          intro Y1 hY1
          replace hY1 := below_class hY1
          clear nt_28 nt_39
          replace kb_0_0 := Hkb_0_0.out
          clear Hkb_0_0
          replace kb_0_1 := Hkb_0_1.out
          clear Hkb_0_1
          replace kb_0_2 := Hkb_0_2.out
          clear Hkb_0_2
          replace kb_0_3 := Hkb_0_3.out
          clear Hkb_0_3
          replace ct_25_0 := Hct_25_0.out
          clear Hct_25_0
          replace ct_36_0 := Hct_36_0.out
          clear Hct_36_0
          have HBY1 := Lib.hid (Below.step HBw_b_0.out hY1)
          replace kb_0_0 := cell_below hY1 kb_0_0
          replace kb_0_1 := cell_below hY1 kb_0_1
          replace kb_0_2 := cell_below hY1 kb_0_2
          replace kb_0_3 := cell_below hY1 kb_0_3
          replace ct_25_0 := cell_below hY1 ct_25_0
          replace ct_36_0 := cell_below hY1 ct_36_0
          clear hY1
          obtain rfl := ret_hid H
          go_wp2_with fail
          go_ret
          exact ⟨rfl, HBY1.out⟩
end Go.Proofs.Ytdbgmcgjklmkkaa.GsL6Ban

/- loop.example/g01062/spec.l6Code as a plain function, and the contract of the program's: where the plain one has an answer, the program has it. Conditions: slices read as lists. -/
namespace Go.Proofs.Ytdbgmcgjklmkkaa.GsL6Code
set_option linter.unusedVariables false
set_option linter.unusedSimpArgs false
open Go.RowKit
open Go.Proofs.Ytdbgmcgjklmkkaa.Rowed Go.Proofs.Ytdbgmcgjklmkkaa.Turn Go.Proofs.Ytdbgmcgjklmkkaa.Aid Go.Proofs.Ytdbgmcgjklmkkaa.GoP Go.Proofs.Ytdbgmcgjklmkkaa.GoM

def P (b : Go.Proofs.Ytdbgmcgjklmkkaa.PBan.Ban) : Option (Int) :=
  unBan b fun (b_a : Int) (b_x : Int) (b_b : Int) (b_y : Int) =>
  letK (IntKind.i64.wrap (1000 * b_a)) fun (t_4 : Int) =>
  letK (IntKind.i64.wrap (100 * b_x)) fun (t_7 : Int) =>
  letK (IntKind.i64.wrap (t_4 + t_7)) fun (t_8 : Int) =>
  letK (IntKind.i64.wrap (10 * b_b)) fun (t_11 : Int) =>
  letK (IntKind.i64.wrap (t_8 + t_11)) fun (t_12 : Int) =>
  letK (IntKind.i64.wrap (t_12 + b_y)) fun (t_15 : Int) =>
  some t_15

set_option maxRecDepth 100000 in
set_option maxHeartbeats 2000000 in
theorem C (b : Go.Proofs.Ytdbgmcgjklmkkaa.PBan.Ban)   (w : World)   {r : Int} (H : Hid (P b = some r)) :
    Calls Try.prog 118 #[b.val] w (Gives (.int .i64 r) w) := by
  have HB := Lib.hid (Below.refl w.heap.size w)
  unfold P at H
  obtain ⟨b_a, b_x, b_b, b_y⟩ := b
  replace H := unBan_hid H
  unfold Go.Proofs.Ytdbgmcgjklmkkaa.PBan.Ban.val
  go_enter Try.func118, Try.ntmps118
  obtain ⟨w_b_0, hw_b_0⟩ : ∃ x, w.alloc (.cells #[.int .i64 b_a, .int .i64 b_x, .int .i64 b_b, .int .i64 b_y] 96) = x := ⟨_, rfl⟩
  have bw_b_0 : Below w.heap.size w w_b_0 := by rw [← hw_b_0]; exact (Below.refl _ _).alloc (Nat.le_refl _) _
  have HBw_b_0 := Lib.hid (Below.step HB.out bw_b_0)
  clear bw_b_0
  have kb_0_0 : w_b_0.cell? ⟨w.heap.size, 0, none⟩ = some (.int .i64 b_a) := by rw [← hw_b_0]; exact box_new _ _ _ 0 _ rfl
  have kb_0_1 : w_b_0.cell? ⟨w.heap.size, 1, none⟩ = some (.int .i64 b_x) := by rw [← hw_b_0]; exact box_new _ _ _ 1 _ rfl
  have kb_0_2 : w_b_0.cell? ⟨w.heap.size, 2, none⟩ = some (.int .i64 b_b) := by rw [← hw_b_0]; exact box_new _ _ _ 2 _ rfl
  have kb_0_3 : w_b_0.cell? ⟨w.heap.size, 3, none⟩ = some (.int .i64 b_y) := by rw [← hw_b_0]; exact box_new _ _ _ 3 _ rfl
  replace H := let_hid H
  obtain ⟨t_4, ht_4, H⟩ := H
  replace H := let_hid H
  obtain ⟨t_7, ht_7, H⟩ := H
  replace H := let_hid H
  obtain ⟨t_8, ht_8, H⟩ := H
  replace H := let_hid H
  obtain ⟨t_11, ht_11, H⟩ := H
  replace H := let_hid H
  obtain ⟨t_12, ht_12, H⟩ := H
  replace H := let_hid H
  obtain ⟨t_15, ht_15, H⟩ := H
  obtain rfl := ret_hid H
  go_wp2_with fail
  go_ret
  exact ⟨rfl, HBw_b_0.out⟩
end Go.Proofs.Ytdbgmcgjklmkkaa.GsL6Code

/- loop.example/g01062/spec.l6Good as a plain function, and the contract of the program's: where the plain one has an answer, the program has it. Conditions: slices read as lists. -/
namespace Go.Proofs.Ytdbgmcgjklmkkaa.GsL6Good
set_option linter.unusedVariables false
set_option linter.unusedSimpArgs false
open Go.RowKit
open Go.Proofs.Ytdbgmcgjklmkkaa.Rowed Go.Proofs.Ytdbgmcgjklmkkaa.Turn Go.Proofs.Ytdbgmcgjklmkkaa.Aid Go.Proofs.Ytdbgmcgjklmkkaa.GoP Go.Proofs.Ytdbgmcgjklmkkaa.GoM

def l0 (t_sizes : (List Int)) (s : Int) (nx0 bk0 : Int → Option (Bool)) : Option (Bool) :=
  letK s fun i_3l0 =>
  letK (decide (i_3l0 < (t_sizes.length : Int))) fun (t_19 : Bool) =>
  iteK t_19
  (Option.bind (idx t_sizes i_3l0) fun (yt_23 : Int) =>
  Option.bind (Go.Proofs.Ytdbgmcgjklmkkaa.GsL1In.P yt_23 1 5) fun (t_25 : Bool) =>
  letK (!t_25) fun (t_26 : Bool) =>
  iteK t_26
  (some false)
  (letK (IntKind.i64.wrap (i_3l0 + 1)) fun (t_29 : Int) =>
  appK nx0 (t_29)))
  (appK bk0 (i_3l0))

def l1 (t_sizes : (List Int)) (t_bans : (List Go.Proofs.Ytdbgmcgjklmkkaa.PBan.Ban)) (s : Int) (nx1 bk1 : Int → Option (Bool)) : Option (Bool) :=
  letK s fun i_4l1 =>
  letK (decide (i_4l1 < (t_bans.length : Int))) fun (t_36 : Bool) =>
  iteK t_36
  (Option.bind (idx t_bans i_4l1) fun (yt_42 : Go.Proofs.Ytdbgmcgjklmkkaa.PBan.Ban) =>
  unBan yt_42 fun (t_42_a : Int) (t_42_x : Int) (t_42_b : Int) (t_42_y : Int) =>
  Option.bind (Go.Proofs.Ytdbgmcgjklmkkaa.GsL6Ban.P t_sizes (Go.Proofs.Ytdbgmcgjklmkkaa.PBan.Ban.mk t_42_a t_42_x t_42_b t_42_y)) fun (t_44 : Bool) =>
  letK (!t_44) fun (t_45 : Bool) =>
  joinK (fun (t_65 : Bool) =>
  iteK t_65
  (some false)
  (letK (IntKind.i64.wrap (i_4l1 + 1)) fun (t_68 : Int) =>
  appK nx1 (t_68))) fun jt_65 => iteK t_45 (appK jt_65 true) (letK (decide (0 < i_4l1)) fun (t_48 : Bool) =>
  joinK (fun (t_64 : Bool) =>
  appK jt_65 t_64) fun jt_64 => iteK t_48 (letK (IntKind.i64.wrap (i_4l1 - 1)) fun (t_53 : Int) =>
  Option.bind (idx t_bans t_53) fun (yt_54 : Go.Proofs.Ytdbgmcgjklmkkaa.PBan.Ban) =>
  unBan yt_54 fun (t_54_a : Int) (t_54_x : Int) (t_54_b : Int) (t_54_y : Int) =>
  Option.bind (Go.Proofs.Ytdbgmcgjklmkkaa.GsL6Code.P (Go.Proofs.Ytdbgmcgjklmkkaa.PBan.Ban.mk t_54_a t_54_x t_54_b t_54_y)) fun (t_56 : Int) =>
  Option.bind (idx t_bans i_4l1) fun (yt_60 : Go.Proofs.Ytdbgmcgjklmkkaa.PBan.Ban) =>
  unBan yt_60 fun (t_60_a : Int) (t_60_x : Int) (t_60_b : Int) (t_60_y : Int) =>
  Option.bind (Go.Proofs.Ytdbgmcgjklmkkaa.GsL6Code.P (Go.Proofs.Ytdbgmcgjklmkkaa.PBan.Ban.mk t_60_a t_60_x t_60_b t_60_y)) fun (t_62 : Int) =>
  letK (decide (t_62 ≤ t_56)) fun (t_63 : Bool) =>
  appK jt_64 t_63) (appK jt_64 false)))
  (appK bk1 (i_4l1))

def e1  (s : Int) : Option (Bool) :=
  letK s fun i_4l1 =>
  some true

def e0 (t_sizes : (List Int)) (t_bans : (List Go.Proofs.Ytdbgmcgjklmkkaa.PBan.Ban)) (fuel : Nat) (s : Int) : Option (Bool) :=
  letK s fun i_3l0 =>
  loopK (l1 t_sizes t_bans) fuel (0) (e1 )

def P (fuel : Nat) (t_sizes : (List Int)) (t_bans : (List Go.Proofs.Ytdbgmcgjklmkkaa.PBan.Ban)) : Option (Bool) :=
  Option.bind (Go.Proofs.Ytdbgmcgjklmkkaa.GsL1In.P (t_sizes.length : Int) 1 5) fun (t_5 : Bool) =>
  letK (!t_5) fun (t_6 : Bool) =>
  joinK (fun (t_12 : Bool) =>
  iteK t_12
  (some false)
  (loopK (l0 t_sizes) fuel (0) (e0 t_sizes t_bans fuel))) fun jt_12 => iteK t_6 (appK jt_12 true) (letK (decide (20 < (t_bans.length : Int))) fun (t_11 : Bool) =>
  appK jt_12 t_11)

set_option maxRecDepth 100000 in
set_option maxHeartbeats 2000000 in
theorem C (fuel : Nat) (t_sizes : (List Int)) (t_bans : (List Go.Proofs.Ytdbgmcgjklmkkaa.PBan.Ban)) (A0_0 : Option Addr) (c0_0 : Nat) (A0_1 : Option Addr) (c0_1 : Nat)  (w : World) (M0_0 : Hid (Cells w 1 A0_0 t_sizes.length (Go.Proofs.Ytdbgmcgjklmkkaa.HelpInt.iv t_sizes))) (N0_0 : Hid (t_sizes.length ≤ 9223372036854775807)) (M0_1 : Hid (Cells w 4 A0_1 t_bans.length (Go.Proofs.Ytdbgmcgjklmkkaa.PBan.flat t_bans))) (N0_1 : Hid (t_bans.length ≤ 9223372036854775807))  {r : Bool} (H : Hid (P fuel t_sizes t_bans = some r)) :
    Calls Try.prog 68 #[.agg #[.slice A0_0 t_sizes.length c0_0, .slice A0_1 t_bans.length c0_1]] w (Gives (.bool r) w) := by
  have HB := Lib.hid (Below.refl w.heap.size w)
  unfold P at H
  have N0_0o := N0_0.out
  have N0_1o := N0_1.out
  go_enter Try.func68, Try.ntmps68
  obtain ⟨w_t_0, hw_t_0⟩ : ∃ x, w.alloc (.cells #[.slice A0_0 t_sizes.length c0_0, .slice A0_1 t_bans.length c0_1] 31) = x := ⟨_, rfl⟩
  have bw_t_0 : Below w.heap.size w w_t_0 := by rw [← hw_t_0]; exact (Below.refl _ _).alloc (Nat.le_refl _) _
  have HBw_t_0 := Lib.hid (Below.step HB.out bw_t_0)
  clear bw_t_0
  have kt_0_0 : w_t_0.cell? ⟨w.heap.size, 0, none⟩ = some (.slice A0_0 t_sizes.length c0_0) := by rw [← hw_t_0]; exact box_new _ _ _ 0 _ rfl
  have kt_0_1 : w_t_0.cell? ⟨w.heap.size, 1, none⟩ = some (.slice A0_1 t_bans.length c0_1) := by rw [← hw_t_0]; exact box_new _ _ _ 1 _ rfl
  replace H := bind_hid H
  obtain ⟨t_5, qt_5, H⟩ := H
  go_wp2_with fail
  go_at_call 79
  refine (Go.Proofs.Ytdbgmcgjklmkkaa.GsL1In.C ((t_sizes.length : Int)) (1) (5)  _    qt_5).mono ?_
  rintro e_t_5 wt_5 ⟨rfl, bt_5⟩
  have HBwt_5 := Lib.hid (Below.step HBw_t_0.out bt_5)
  replace kt_0_0 := cell_below bt_5 kt_0_0
  replace kt_0_1 := cell_below bt_5 kt_0_1
  clear bt_5
  cases t_5 with
  | false =>
    replace H := let_hid H
    obtain ⟨t_6, ht_6, H⟩ := H
    obtain rfl : t_6 = true := ht_6.symm
    replace H := join_hid H
    replace H := ite_t H
    replace H := app_hid H
    replace H := ite_t H
    obtain rfl := ret_hid H
    go_wp2_with fail
    go_ret
    exact ⟨rfl, HBwt_5.out⟩
  | true =>
    replace H := let_hid H
    obtain ⟨t_6, ht_6, H⟩ := H
    obtain rfl : t_6 = false := ht_6.symm
    replace H := join_hid H
    replace H := ite_f H
    replace H := let_hid H
    obtain ⟨t_11, ht_11, H⟩ := H
    replace H := app_hid H
    cases t_11 with
    | false =>
      have nht_11 : ¬ (20 < t_bans.length) := by have := of_decide_eq_false ht_11; omega
      replace H := ite_f H
      go_wp2_with fail
      go_loopg [3] (fuel) (fun m_ v3_ wr => ∃ (i_3l0 : Int), v3_ = .int .i64 i_3l0 ∧ Hid (loopK (l0 t_sizes) m_ (i_3l0) (e0 t_sizes t_bans fuel) = some r) ∧ Hid (Below w.heap.size w wr) ∧ wr.cell? ⟨w.heap.size, 0, none⟩ = some (.slice A0_0 t_sizes.length c0_0) ∧ wr.cell? ⟨w.heap.size, 1, none⟩ = some (.slice A0_1 t_bans.length c0_1))
      case atStart => exact ⟨_, rfl, H, HBwt_5, kt_0_0, kt_0_1⟩
      case round =>
        obtain ⟨i_3l0, rfl, H, HBwr0, kt_0_0, kt_0_1⟩ := hrel
        rename World => wr0
        cases gk with
        | zero => exact (loop_zero H).elim
        | succ m0 =>
          replace H := loop_succ H
          unfold l0 at H
          replace H := let_hid H
          obtain ⟨_, rfl, H⟩ := H
          replace H := let_hid H
          obtain ⟨t_19, ht_19, H⟩ := H
          cases t_19 with
          | false =>
            replace H := ite_f H
            replace H := app_hid H
            unfold e0 at H
            replace H := let_hid H
            obtain ⟨_, rfl, H⟩ := H
            go_wp2_with fail
            go_loopg [4] (fuel) (fun m_ v4_ wr => ∃ (i_4l1 : Int), v4_ = .int .i64 i_4l1 ∧ Hid (loopK (l1 t_sizes t_bans) m_ (i_4l1) (e1 ) = some r) ∧ Hid (Below w.heap.size w wr) ∧ wr.cell? ⟨w.heap.size, 0, none⟩ = some (.slice A0_0 t_sizes.length c0_0) ∧ wr.cell? ⟨w.heap.size, 1, none⟩ = some (.slice A0_1 t_bans.length c0_1))
            case atStart => exact ⟨_, rfl, H, HBwr0, kt_0_0, kt_0_1⟩
            case round =>
              obtain ⟨i_4l1, rfl, H, HBwr1, kt_0_0, kt_0_1⟩ := hrel
              rename World => wr1
              cases gk with
              | zero => exact (loop_zero H).elim
              | succ m1 =>
                replace H := loop_succ H
                unfold l1 at H
                replace H := let_hid H
                obtain ⟨_, rfl, H⟩ := H
                replace H := let_hid H
                obtain ⟨t_36, ht_36, H⟩ := H
                cases t_36 with
                | false =>
                  replace H := ite_f H
                  replace H := app_hid H
                  unfold e1 at H
                  replace H := let_hid H
                  obtain ⟨_, rfl, H⟩ := H
                  obtain rfl := ret_hid H
                  go_wp2_with fail
                  go_ret
                  exact ⟨rfl, HBwr1.out⟩
                | true =>
                  replace H := ite_t H
                  go_wp2_with fail
                  have Hkt_0_0 := Lib.hid kt_0_0
                  replace kt_0_0 := cell_regrown kt_0_0
                  have Hkt_0_1 := Lib.hid kt_0_1
                  replace kt_0_1 := cell_regrown kt_0_1
                  replace H := idx_hid H
                  obtain ⟨nt_42, yt_42, et_42, lt_42, gt_42, H⟩ := H
                  subst et_42
                  have nc_105 : nt_42 < t_bans.length := by have := of_decide_eq_true ht_36; omega
                  obtain ⟨t_42_a, t_42_x, t_42_b, t_42_y⟩ := yt_42
                  replace H := unBan_hid H
                  obtain ⟨ab_t_42, ao_t_42, zt_42, At_42, z_t_42, ct_42_0, ct_42_1, ct_42_2, ct_42_3⟩ := Go.Proofs.Ytdbgmcgjklmkkaa.OBan.at_ M0_1.out lt_42
                  obtain rfl := Option.some.inj (gt_42.out.symm.trans z_t_42)
                  subst At_42
                  have ltt_42 := cell_lt ct_42_0
                  replace ct_42_0 := cell_below HBwr1.out ct_42_0
                  replace ct_42_1 := cell_below HBwr1.out ct_42_1
                  replace ct_42_2 := cell_below HBwr1.out ct_42_2
                  replace ct_42_3 := cell_below HBwr1.out ct_42_3
                  clear z_t_42
                  have b0t_42 : (0 : Int) ≤ (nt_42 : Int) := by omega
                  have b1t_42 : (nt_42 : Int) < ((t_bans.length : Nat) : Int) := by omega
                  have b2t_42 : ((nt_42 : Int)).toNat = nt_42 := by omega
                  have Hct_42_0 := Lib.hid ct_42_0
                  replace ct_42_0 := cell_regrown ct_42_0
                  have Hct_42_1 := Lib.hid ct_42_1
                  replace ct_42_1 := cell_regrown ct_42_1
                  have Hct_42_2 := Lib.hid ct_42_2
                  replace ct_42_2 := cell_regrown ct_42_2
                  have Hct_42_3 := Lib.hid ct_42_3
                  replace ct_42_3 := cell_regrown ct_42_3
                  replace H := bind_hid H
                  obtain ⟨t_44, qt_44, H⟩ := H
                  have nt_44 : ∀ d os, Calls Try.prog 117 #[.slice A0_0 t_sizes.length c0_0, .agg #[.int .i64 t_42_a, .int .i64 t_42_x, .int .i64 t_42_b, .int .i64 t_42_y]] (Go.Sort.grow (redrawn wr1 d) os) fun e w'' => e = .returned (.bool t_44) ∧ ∃ p : Regrown, w'' = Go.Sort.grow (redrawn wr1 p.d) p.os := fun d os => Calls.regrown_of (Go.Proofs.Ytdbgmcgjklmkkaa.GsL6Ban.C (t_sizes) ((Go.Proofs.Ytdbgmcgjklmkkaa.PBan.Ban.mk t_42_a t_42_x t_42_b t_42_y)) A0_0 c0_0 _   (Lib.hid (Cells.below (Cells.below M0_0.out HBwr1.out) (below_regrown _ _ _))) N0_0 qt_44)
                  cases t_44 with
                  | false =>
                    replace H := let_hid H
                    obtain ⟨t_45, ht_45, H⟩ := H
                    obtain rfl : t_45 = true := ht_45.symm
                    replace H := join_hid H
                    replace H := ite_t H
                    replace H := app_hid H
                    refine wp_region_quiet_below (by kernel_rfl) (by kernel_rfl) ?_
                    repeat (go_big_quiet_step (first | (go_at_call 117; exact nt_44 _ _)))
                    refine wpQuiet_nil ?_
                    intro Y11 hY11
                    replace hY11 := below_class hY11
                    clear nt_44
                    replace kt_0_0 := Hkt_0_0.out
                    clear Hkt_0_0
                    replace kt_0_1 := Hkt_0_1.out
                    clear Hkt_0_1
                    replace ct_42_0 := Hct_42_0.out
                    clear Hct_42_0
                    replace ct_42_1 := Hct_42_1.out
                    clear Hct_42_1
                    replace ct_42_2 := Hct_42_2.out
                    clear Hct_42_2
                    replace ct_42_3 := Hct_42_3.out
                    clear Hct_42_3
                    have HBY11 := Lib.hid (Below.step HBwr1.out hY11)
                    replace kt_0_0 := cell_below hY11 kt_0_0
                    replace kt_0_1 := cell_below hY11 kt_0_1
                    replace ct_42_0 := cell_below hY11 ct_42_0
                    replace ct_42_1 := cell_below hY11 ct_42_1
                    replace ct_42_2 := cell_below hY11 ct_42_2
                    replace ct_42_3 := cell_below hY11 ct_42_3
                    clear hY11
                    replace H := ite_t H
                    obtain rfl := ret_hid H
                    go_wp2_with fail
                    go_ret
                    exact ⟨rfl, HBY11.out⟩
                  | true =>
                    replace H := let_hid H
                    obtain ⟨t_45, ht_45, H⟩ := H
                    obtain rfl : t_45 = false := ht_45.symm
                    replace H := join_hid H
                    replace H := ite_f H
                    replace H := let_hid H
                    obtain ⟨t_48, ht_48, H⟩ := H
                    replace H := join_hid H
                    cases t_48 with
                    | false =>
                      have nht_48 : ¬ (0 < nt_42) := by have := of_decide_eq_false ht_48; omega
                      replace H := ite_f H
                      replace H := app_hid H
                      replace H := app_hid H
                      refine wp_region_quiet_below (by kernel_rfl) (by kernel_rfl) ?_
                      repeat (go_big_quiet_step (first | (go_at_call 117; exact nt_44 _ _)))
                      refine wpQuiet_nil ?_
                      intro Y11 hY11
                      replace hY11 := below_class hY11
                      clear nt_44
                      replace kt_0_0 := Hkt_0_0.out
                      clear Hkt_0_0
                      replace kt_0_1 := Hkt_0_1.out
                      clear Hkt_0_1
                      replace ct_42_0 := Hct_42_0.out
                      clear Hct_42_0
                      replace ct_42_1 := Hct_42_1.out
                      clear Hct_42_1
                      replace ct_42_2 := Hct_42_2.out
                      clear Hct_42_2
                      replace ct_42_3 := Hct_42_3.out
                      clear Hct_42_3
                      have HBY11 := Lib.hid (Below.step HBwr1.out hY11)
                      replace kt_0_0 := cell_below hY11 kt_0_0
                      replace kt_0_1 := cell_below hY11 kt_0_1
                      replace ct_42_0 := cell_below hY11 ct_42_0
                      replace ct_42_1 := cell_below hY11 ct_42_1
                      replace ct_42_2 := cell_below hY11 ct_42_2
                      replace ct_42_3 := cell_below hY11 ct_42_3
                      clear hY11
                      replace H := ite_f H
                      replace H := let_hid H
                      obtain ⟨t_68, ht_68, H⟩ := H
                      replace H := app_hid H
                      go_wp2_with fail
                      go_roundg m1
                      case measure => omega
                      case rel => exact ⟨_, rfl, H, HBY11, kt_0_0, kt_0_1⟩
                    | true =>
                      have nht_48 : 0 < nt_42 := by have := of_decide_eq_true ht_48; omega
                      replace H := ite_t H
                      replace H := let_hid H
                      obtain ⟨t_53, ht_53, H⟩ := H
                      replace H := idx_hid H
                      obtain ⟨nt_54, yt_54, et_54, lt_54, gt_54, H⟩ := H
                      subst et_54
                      obtain ⟨t_54_a, t_54_x, t_54_b, t_54_y⟩ := yt_54
                      replace H := unBan_hid H
                      obtain ⟨ab_t_54, ao_t_54, zt_54, At_54, z_t_54, ct_54_0, ct_54_1, ct_54_2, ct_54_3⟩ := Go.Proofs.Ytdbgmcgjklmkkaa.OBan.at_ M0_1.out lt_54
                      obtain rfl := Option.some.inj (gt_54.out.symm.trans z_t_54)
                      simp only [Option.some.injEq, Addr.mk.injEq] at At_54
                      obtain ⟨rfl, rfl, _⟩ := At_54
                      have ltt_54 := cell_lt ct_54_0
                      replace ct_54_0 := cell_below HBwr1.out ct_54_0
                      replace ct_54_1 := cell_below HBwr1.out ct_54_1
                      replace ct_54_2 := cell_below HBwr1.out ct_54_2
                      replace ct_54_3 := cell_below HBwr1.out ct_54_3
                      clear z_t_54
                      have b0t_54 : (0 : Int) ≤ (nt_54 : Int) := by omega
                      have b1t_54 : (nt_54 : Int) < ((t_bans.length : Nat) : Int) := by omega
                      have b2t_54 : ((nt_54 : Int)).toNat = nt_54 := by omega
                      have Hct_54_0 := Lib.hid ct_54_0
                      replace ct_54_0 := cell_regrown ct_54_0
                      have Hct_54_1 := Lib.hid ct_54_1
                      replace ct_54_1 := cell_regrown ct_54_1
                      have Hct_54_2 := Lib.hid ct_54_2
                      replace ct_54_2 := cell_regrown ct_54_2
                      have Hct_54_3 := Lib.hid ct_54_3
                      replace ct_54_3 := cell_regrown ct_54_3
                      replace H := bind_hid H
                      obtain ⟨t_56, qt_56, H⟩ := H
                      have nt_56 : ∀ d os, Calls Try.prog 118 #[.agg #[.int .i64 t_54_a, .int .i64 t_54_x, .int .i64 t_54_b, .int .i64 t_54_y]] (Go.Sort.grow (redrawn wr1 d) os) fun e w'' => e = .returned (.int .i64 t_56) ∧ ∃ p : Regrown, w'' = Go.Sort.grow (redrawn wr1 p.d) p.os := fun d os => Calls.regrown_of (Go.Proofs.Ytdbgmcgjklmkkaa.GsL6Code.C ((Go.Proofs.Ytdbgmcgjklmkkaa.PBan.Ban.mk t_54_a t_54_x t_54_b t_54_y))  _    qt_56)
                      replace H := idx_hid H
                      obtain ⟨nt_60, yt_60, et_60, lt_60, gt_60, H⟩ := H
                      obtain rfl : nt_42 = nt_60 := by omega
                      clear et_60
                      obtain rfl := Option.some.inj (gt_42.out.symm.trans gt_60.out)
                      clear gt_60 lt_60
                      replace H := unBan_hid H
                      replace H := bind_hid H
                      obtain ⟨t_62, qt_62, H⟩ := H
                      have nt_62 : ∀ d os, Calls Try.prog 118 #[.agg #[.int .i64 t_42_a, .int .i64 t_42_x, .int .i64 t_42_b, .int .i64 t_42_y]] (Go.Sort.grow (redrawn wr1 d) os) fun e w'' => e = .returned (.int .i64 t_62) ∧ ∃ p : Regrown, w'' = Go.Sort.grow (redrawn wr1 p.d) p.os := fun d os => Calls.regrown_of (Go.Proofs.Ytdbgmcgjklmkkaa.GsL6Code.C ((Go.Proofs.Ytdbgmcgjklmkkaa.PBan.Ban.mk t_42_a t_42_x t_42_b t_42_y))  _    qt_62)
                      replace H := let_hid H
                      obtain ⟨t_63, ht_63, H⟩ := H
                      replace H := app_hid H
                      replace H := app_hid H
                      refine wp_region_quiet_below (by kernel_rfl) (by kernel_rfl) ?_
                      repeat (go_big_quiet_step (first | (go_at_call 118; with_reducible exact nt_56 _ _) | (go_at_call 118; with_reducible exact nt_62 _ _) | (go_at_call 117; exact nt_44 _ _) | (go_at_call 118; exact nt_56 _ _) | (go_at_call 118; exact nt_62 _ _)))
                      refine wpQuiet_nil ?_
                      intro Y11 hY11
                      replace hY11 := below_class hY11
                      clear nt_44 nt_56 nt_62
                      replace kt_0_0 := Hkt_0_0.out
                      clear Hkt_0_0
                      replace kt_0_1 := Hkt_0_1.out
                      clear Hkt_0_1
                      replace ct_42_0 := Hct_42_0.out
                      clear Hct_42_0
                      replace ct_42_1 := Hct_42_1.out
                      clear Hct_42_1
                      replace ct_42_2 := Hct_42_2.out
                      clear Hct_42_2
                      replace ct_42_3 := Hct_42_3.out
                      clear Hct_42_3
                      replace ct_54_0 := Hct_54_0.out
                      clear Hct_54_0
                      replace ct_54_1 := Hct_54_1.out
                      clear Hct_54_1
                      replace ct_54_2 := Hct_54_2.out
                      clear Hct_54_2
                      replace ct_54_3 := Hct_54_3.out
                      clear Hct_54_3
                      have HBY11 := Lib.hid (Below.step HBwr1.out hY11)
                      replace kt_0_0 := cell_below hY11 kt_0_0
                      replace kt_0_1 := cell_below hY11 kt_0_1
                      replace ct_42_0 := cell_below hY11 ct_42_0
                      replace ct_42_1 := cell_below hY11 ct_42_1
                      replace ct_42_2 := cell_below hY11 ct_42_2
                      replace ct_42_3 := cell_below hY11 ct_42_3
                      replace ct_54_0 := cell_below hY11 ct_54_0
                      replace ct_54_1 := cell_below hY11 ct_54_1
                      replace ct_54_2 := cell_below hY11 ct_54_2
                      replace ct_54_3 := cell_below hY11 ct_54_3
                      clear hY11
                      cases t_63 with
                      | false =>
                        replace H := ite_f H
                        replace H := let_hid H
                        obtain ⟨t_68, ht_68, H⟩ := H
                        replace H := app_hid H
                        go_wp2_with fail
                        go_roundg m1
                        case measure => omega
                        case rel => exact ⟨_, rfl, H, HBY11, kt_0_0, kt_0_1⟩
                      | true =>
                        replace H := ite_t H
                        obtain rfl := ret_hid H
                        go_wp2_with fail
                        go_ret
                        exact ⟨rfl, HBY11.out⟩
          | true =>
            replace H := ite_t H
            replace H := idx_hid H
            obtain ⟨nt_23, yt_23, et_23, lt_23, gt_23, H⟩ := H
            subst et_23
            have nc_106 : nt_23 < t_sizes.length := by have := of_decide_eq_true ht_19; omega
            obtain ⟨ab_t_23, ao_t_23, zt_23, At_23, z_t_23, ct_23_0⟩ := Go.Proofs.Ytdbgmcgjklmkkaa.HelpInt.Ints.at_ M0_0.out lt_23
            obtain rfl := Option.some.inj (gt_23.out.symm.trans z_t_23)
            subst At_23
            have ltt_23 := cell_lt ct_23_0
            replace ct_23_0 := cell_below HBwr0.out ct_23_0
            clear z_t_23
            have b0t_23 : (0 : Int) ≤ (nt_23 : Int) := by omega
            have b1t_23 : (nt_23 : Int) < ((t_sizes.length : Nat) : Int) := by omega
            have b2t_23 : ((nt_23 : Int)).toNat = nt_23 := by omega
            replace H := bind_hid H
            obtain ⟨t_25, qt_25, H⟩ := H
            go_wp2_with fail
            go_at_call 79
            refine (Go.Proofs.Ytdbgmcgjklmkkaa.GsL1In.C (yt_23) (1) (5)  _    qt_25).mono ?_
            rintro e_t_25 wt_25 ⟨rfl, bt_25⟩
            have HBwt_25 := Lib.hid (Below.step HBwr0.out bt_25)
            replace kt_0_0 := cell_below bt_25 kt_0_0
            replace kt_0_1 := cell_below bt_25 kt_0_1
            replace ct_23_0 := cell_below bt_25 ct_23_0
            clear bt_25
            cases t_25 with
            | false =>
              replace H := let_hid H
              obtain ⟨t_26, ht_26, H⟩ := H
              obtain rfl : t_26 = true := ht_26.symm
              replace H := ite_t H
              obtain rfl := ret_hid H
              go_wp2_with fail
              go_ret
              exact ⟨rfl, HBwt_25.out⟩
            | true =>
              replace H := let_hid H
              obtain ⟨t_26, ht_26, H⟩ := H
              obtain rfl : t_26 = false := ht_26.symm
              replace H := ite_f H
              replace H := let_hid H
              obtain ⟨t_29, ht_29, H⟩ := H
              replace H := app_hid H
              go_wp2_with fail
              go_roundg m0
              case measure => omega
              case rel => exact ⟨_, rfl, H, HBwt_25, kt_0_0, kt_0_1⟩
    | true =>
      have nht_11 : 20 < t_bans.length := by have := of_decide_eq_true ht_11; omega
      replace H := ite_t H
      obtain rfl := ret_hid H
      go_wp2_with fail
      go_ret
      exact ⟨rfl, HBwt_5.out⟩
end Go.Proofs.Ytdbgmcgjklmkkaa.GsL6Good

/- loop.example/g01062/spec.l6All as a plain function, and the contract of the program's: where the plain one has an answer, the program has it. Conditions: slices read as lists. -/
namespace Go.Proofs.Ytdbgmcgjklmkkaa.GsL6All
set_option linter.unusedVariables false
set_option linter.unusedSimpArgs false
open Go.RowKit
open Go.Proofs.Ytdbgmcgjklmkkaa.Rowed Go.Proofs.Ytdbgmcgjklmkkaa.Turn Go.Proofs.Ytdbgmcgjklmkkaa.Aid Go.Proofs.Ytdbgmcgjklmkkaa.GoP Go.Proofs.Ytdbgmcgjklmkkaa.GoM

def l0 (t_sizes : (List Int)) (s : Int × Int) (nx0 bk0 : Int × Int → Option (Int)) : Option (Int) :=
  unp2 s fun n_3l0 i_4l0 =>
  letK (decide (i_4l0 < (t_sizes.length : Int))) fun (t_8 : Bool) =>
  iteK t_8
  (Option.bind (idx t_sizes i_4l0) fun (yt_13 : Int) =>
  letK (IntKind.i64.wrap (n_3l0 * yt_13)) fun (t_15 : Int) =>
  letK (IntKind.i64.wrap (i_4l0 + 1)) fun (t_18 : Int) =>
  appK nx0 (t_15, t_18))
  (appK bk0 (n_3l0, i_4l0))

def e0  (s : Int × Int) : Option (Int) :=
  unp2 s fun n_3l0 i_4l0 =>
  some n_3l0

def P (fuel : Nat) (t_sizes : (List Int)) (t_bans : (List Go.Proofs.Ytdbgmcgjklmkkaa.PBan.Ban)) : Option (Int) :=
  loopK (l0 t_sizes) fuel (1, 0) (e0 )

set_option maxRecDepth 100000 in
set_option maxHeartbeats 2000000 in
theorem C (fuel : Nat) (t_sizes : (List Int)) (t_bans : (List Go.Proofs.Ytdbgmcgjklmkkaa.PBan.Ban)) (A0_0 : Option Addr) (c0_0 : Nat) (A0_1 : Option Addr) (c0_1 : Nat)  (w : World) (M0_0 : Hid (Cells w 1 A0_0 t_sizes.length (Go.Proofs.Ytdbgmcgjklmkkaa.HelpInt.iv t_sizes))) (N0_0 : Hid (t_sizes.length ≤ 9223372036854775807)) (M0_1 : Hid (Cells w 4 A0_1 t_bans.length (Go.Proofs.Ytdbgmcgjklmkkaa.PBan.flat t_bans))) (N0_1 : Hid (t_bans.length ≤ 9223372036854775807))  {r : Int} (H : Hid (P fuel t_sizes t_bans = some r)) :
    Calls Try.prog 125 #[.agg #[.slice A0_0 t_sizes.length c0_0, .slice A0_1 t_bans.length c0_1]] w (Gives (.int .i64 r) w) := by
  have HB := Lib.hid (Below.refl w.heap.size w)
  unfold P at H
  have N0_0o := N0_0.out
  have N0_1o := N0_1.out
  go_enter Try.func125, Try.ntmps125
  obtain ⟨w_t_0, hw_t_0⟩ : ∃ x, w.alloc (.cells #[.slice A0_0 t_sizes.length c0_0, .slice A0_1 t_bans.length c0_1] 31) = x := ⟨_, rfl⟩
  have bw_t_0 : Below w.heap.size w w_t_0 := by rw [← hw_t_0]; exact (Below.refl _ _).alloc (Nat.le_refl _) _
  have HBw_t_0 := Lib.hid (Below.step HB.out bw_t_0)
  clear bw_t_0
  have kt_0_0 : w_t_0.cell? ⟨w.heap.size, 0, none⟩ = some (.slice A0_0 t_sizes.length c0_0) := by rw [← hw_t_0]; exact box_new _ _ _ 0 _ rfl
  have kt_0_1 : w_t_0.cell? ⟨w.heap.size, 1, none⟩ = some (.slice A0_1 t_bans.length c0_1) := by rw [← hw_t_0]; exact box_new _ _ _ 1 _ rfl
  go_wp2_with fail
  go_loopg [3, 4] (fuel) (fun m_ v3_ v4_ wr => ∃ (n_3l0 : Int) (i_4l0 : Int), v3_ = .int .i64 n_3l0 ∧ v4_ = .int .i64 i_4l0 ∧ Hid (loopK (l0 t_sizes) m_ (n_3l0, i_4l0) (e0 ) = some r) ∧ Hid (Below w.heap.size w wr) ∧ wr.cell? ⟨w.heap.size, 0, none⟩ = some (.slice A0_0 t_sizes.length c0_0) ∧ wr.cell? ⟨w.heap.size, 1, none⟩ = some (.slice A0_1 t_bans.length c0_1))
  case atStart => exact ⟨_, _, rfl, rfl, H, HBw_t_0, kt_0_0, kt_0_1⟩
  case round =>
    obtain ⟨n_3l0, i_4l0, rfl, rfl, H, HBwr0, kt_0_0, kt_0_1⟩ := hrel
    rename World => wr0
    cases gk with
    | zero => exact (loop_zero H).elim
    | succ m0 =>
      replace H := loop_succ H
      unfold l0 at H
      replace H := unp2_hid H
      replace H := let_hid H
      obtain ⟨t_8, ht_8, H⟩ := H
      cases t_8 with
      | false =>
        replace H := ite_f H
        replace H := app_hid H
        unfold e0 at H
        replace H := unp2_hid H
        obtain rfl := ret_hid H
        go_wp2_with fail
        go_ret
        exact ⟨rfl, HBwr0.out⟩
      | true =>
        replace H := ite_t H
        replace H := idx_hid H
        obtain ⟨nt_13, yt_13, et_13, lt_13, gt_13, H⟩ := H
        subst et_13
        have nc_107 : nt_13 < t_sizes.length := by have := of_decide_eq_true ht_8; omega
        obtain ⟨ab_t_13, ao_t_13, zt_13, At_13, z_t_13, ct_13_0⟩ := Go.Proofs.Ytdbgmcgjklmkkaa.HelpInt.Ints.at_ M0_0.out lt_13
        obtain rfl := Option.some.inj (gt_13.out.symm.trans z_t_13)
        subst At_13
        have ltt_13 := cell_lt ct_13_0
        replace ct_13_0 := cell_below HBwr0.out ct_13_0
        clear z_t_13
        have b0t_13 : (0 : Int) ≤ (nt_13 : Int) := by omega
        have b1t_13 : (nt_13 : Int) < ((t_sizes.length : Nat) : Int) := by omega
        have b2t_13 : ((nt_13 : Int)).toNat = nt_13 := by omega
        replace H := let_hid H
        obtain ⟨t_15, ht_15, H⟩ := H
        replace H := let_hid H
        obtain ⟨t_18, ht_18, H⟩ := H
        replace H := app_hid H
        go_wp2_with fail
        go_roundg m0
        case measure => omega
        case rel => exact ⟨_, _, rfl, rfl, H, HBwr0, kt_0_0, kt_0_1⟩
end Go.Proofs.Ytdbgmcgjklmkkaa.GsL6All

/- loop.example/g01062/spec.l6At as a plain function, and the contract of the program's: where the plain one has an answer, the program has it. Conditions: slices read as lists. -/
namespace Go.Proofs.Ytdbgmcgjklmkkaa.GsL6At
set_option linter.unusedVariables false
set_option linter.unusedSimpArgs false
open Go.RowKit
open Go.Proofs.Ytdbgmcgjklmkkaa.Rowed Go.Proofs.Ytdbgmcgjklmkkaa.Turn Go.Proofs.Ytdbgmcgjklmkkaa.Aid Go.Proofs.Ytdbgmcgjklmkkaa.GoP Go.Proofs.Ytdbgmcgjklmkkaa.GoM

def l0 (t_sizes : (List Int)) (s : Int × (List Int) × Int) (nx0 bk0 : Int × (List Int) × Int → Option ((List Int))) : Option ((List Int)) :=
  unp3 s fun n_1l0 out_5l0 i_6l0 =>
  letK (decide (0 ≤ i_6l0)) fun (t_12 : Bool) =>
  iteK t_12
  (Option.bind (idx t_sizes i_6l0) fun (yt_19 : Int) =>
  guardK (¬ (yt_19 = 0)) <|
  letK (Int.tmod n_1l0 yt_19) fun (t_21 : Int) =>
  Option.bind (idx out_5l0 i_6l0) fun (yt_22 : Int) =>
  letK (out_5l0.set (i_6l0).toNat t_21) fun (l23_23 : (List Int)) =>
  Option.bind (idx t_sizes i_6l0) fun (yt_28 : Int) =>
  guardK (¬ (yt_28 = 0)) <|
  letK (IntKind.i64.wrap (Int.tdiv n_1l0 yt_28)) fun (t_30 : Int) =>
  letK (IntKind.i64.wrap (i_6l0 - 1)) fun (t_33 : Int) =>
  appK nx0 (t_30, l23_23, t_33))
  (appK bk0 (n_1l0, out_5l0, i_6l0))

def e0  (s : Int × (List Int) × Int) : Option ((List Int)) :=
  unp3 s fun n_1l0 out_5l0 i_6l0 =>
  some out_5l0

def P (fuel : Nat) (t_sizes : (List Int)) (t_bans : (List Go.Proofs.Ytdbgmcgjklmkkaa.PBan.Ban)) (n_1 : Int) : Option ((List Int)) :=
  guardK (0 ≤ (t_sizes.length : Int) ∧ (t_sizes.length : Int) ≤ 1099511627776) <|
  letK (List.replicate t_sizes.length 0) fun (t_5 : (List Int)) =>
  letK (IntKind.i64.wrap ((t_5.length : Int) - 1)) fun (t_9 : Int) =>
  loopK (l0 t_sizes) fuel (n_1, t_5, t_9) (e0 )

set_option maxRecDepth 100000 in
set_option maxHeartbeats 2000000 in
theorem C (fuel : Nat) (t_sizes : (List Int)) (t_bans : (List Go.Proofs.Ytdbgmcgjklmkkaa.PBan.Ban)) (n_1 : Int) (A0_0 : Option Addr) (c0_0 : Nat) (A0_1 : Option Addr) (c0_1 : Nat)  (w : World) (M0_0 : Hid (Cells w 1 A0_0 t_sizes.length (Go.Proofs.Ytdbgmcgjklmkkaa.HelpInt.iv t_sizes))) (N0_0 : Hid (t_sizes.length ≤ 9223372036854775807)) (M0_1 : Hid (Cells w 4 A0_1 t_bans.length (Go.Proofs.Ytdbgmcgjklmkkaa.PBan.flat t_bans))) (N0_1 : Hid (t_bans.length ≤ 9223372036854775807))  {r : (List Int)} (H : Hid (P fuel t_sizes t_bans n_1 = some r)) :
    Calls Try.prog 126 #[.agg #[.slice A0_0 t_sizes.length c0_0, .slice A0_1 t_bans.length c0_1], .int .i64 n_1] w (fun e w' => ∃ A_r c_r, e = .returned (.slice A_r r.length c_r) ∧ w'.ownsRow w.heap.size 3 1 (.slice A_r r.length c_r) r.length (Go.Proofs.Ytdbgmcgjklmkkaa.HelpInt.iv r) ∧ Below w.heap.size w w') := by
  have HB := Lib.hid (Below.refl w.heap.size w)
  unfold P at H
  have N0_0o := N0_0.out
  have N0_1o := N0_1.out
  obtain ⟨i0_3, hi_3, hz0_3, hz1_3, hz2_3⟩ := Aid.info_parts (P := Try.prog) (T := 3) (z := .int .i64 0) (s := 1) (b := 8) (by kernel_rfl)
  go_enter Try.func126, Try.ntmps126
  obtain ⟨w_t_0, hw_t_0⟩ : ∃ x, w.alloc (.cells #[.slice A0_0 t_sizes.length c0_0, .slice A0_1 t_bans.length c0_1] 31) = x := ⟨_, rfl⟩
  have bw_t_0 : Below w.heap.size w w_t_0 := by rw [← hw_t_0]; exact (Below.refl _ _).alloc (Nat.le_refl _) _
  have HBw_t_0 := Lib.hid (Below.step HB.out bw_t_0)
  clear bw_t_0
  have kt_0_0 : w_t_0.cell? ⟨w.heap.size, 0, none⟩ = some (.slice A0_0 t_sizes.length c0_0) := by rw [← hw_t_0]; exact box_new _ _ _ 0 _ rfl
  have kt_0_1 : w_t_0.cell? ⟨w.heap.size, 1, none⟩ = some (.slice A0_1 t_bans.length c0_1) := by rw [← hw_t_0]; exact box_new _ _ _ 1 _ rfl
  replace H := guard_hid H
  obtain ⟨hnt_5, H⟩ := H
  replace H := let_hid H
  obtain ⟨t_5, ht_5, H⟩ := H
  have hst_5 := HBw_t_0.out.size
  have hlt_5 : t_5.length = t_sizes.length := by rw [← ht_5]; simp
  have hht_5 := Lib.hid ht_5
  clear ht_5
  have Dt_5_t_0 := Lib.hid (apart_box kt_0_0)
  go_wp2_with (at_make; refine wpList_make_full _ rfl _ _ 22 rfl w.heap.size 3 i0_3 (.int .i64 0) 1 Try.underlying22 hi_3 hz0_3 hz1_3 .i64 .i64 _ _ t_sizes.length rfl rfl (by omega) (by omega) (by rw [hz2_3]; omega) (by unfold maxLen; omega) hst_5 ?_; intro wt_5 ot_5 gt_5; have Qt_5 := Lib.hid ot_5; have Gt_5 := Lib.hid gt_5; clear ot_5 gt_5; refine stop_in ?_)
  refine stop_out ?_
  have hv_ : (Value.slice (some ⟨w_t_0.heap.size, 0, none⟩) t_sizes.length t_sizes.length : Value) = Value.slice (some ⟨w_t_0.heap.size, 0, none⟩) t_5.length t_sizes.length := by rw [hlt_5]
  rw [hv_]
  clear hv_
  have Et_5 : (Go.Proofs.Ytdbgmcgjklmkkaa.HelpInt.iv t_5) = (madeCells (.int .i64 0 : Value).cells (t_sizes.length * 1)).toList := by
    rw [made_flat (fun x => [.int .i64 x]) 0 _ 1 _ rfl rfl (by decide), ← hht_5.out]
    exact map_flat _ _
  have Pt_5 : Hid (wt_5.ownsRow w.heap.size 3 1 (.slice (some ⟨w_t_0.heap.size, 0, none⟩) t_sizes.length t_sizes.length) t_sizes.length (Go.Proofs.Ytdbgmcgjklmkkaa.HelpInt.iv t_5)) := Lib.hid (by rw [Et_5]; exact Qt_5.out)
  clear Et_5
  replace hlt_5 := Lib.hid hlt_5
  clear Qt_5 hst_5
  have bt_5 : Below w_t_0.heap.size w_t_0 wt_5 := (Below.refl _ _).grown Gt_5.out (Nat.le_refl _) (by simp)
  clear Gt_5
  have HBwt_5 := Lib.hid (Below.step HBw_t_0.out bt_5)
  replace kt_0_0 := cell_below bt_5 kt_0_0
  replace kt_0_1 := cell_below bt_5 kt_0_1
  clear bt_5
  replace Pt_5 := Lib.hid (own_len hlt_5.out Pt_5.out)
  replace H := let_hid H
  obtain ⟨t_9, ht_9, H⟩ := H
  try have hv_t_9 : (t_5.length : Int) - 1 = t_9 := by rw [← ht_9]; exact (IntWalk.i64_in _ (by omega)).symm
  try have hv2_t_9 : IntKind.i64.wrap t_9 = t_9 := by rw [← hv_t_9]; exact IntWalk.i64_in _ (by omega)
  go_wp2_with fail
  go_wp2_with fail
  go_loopg [1, 6] (fuel) (fun m_ v1_ v6_ wr => ∃ (n_1l0 : Int) (out_5l0 : (List Int)) (i_6l0 : Int), v1_ = .int .i64 n_1l0 ∧ v6_ = .int .i64 i_6l0 ∧ Hid (loopK (l0 t_sizes) m_ (n_1l0, out_5l0, i_6l0) (e0 ) = some r) ∧ Hid (Below w.heap.size w wr) ∧ wr.cell? ⟨w.heap.size, 0, none⟩ = some (.slice A0_0 t_sizes.length c0_0) ∧ wr.cell? ⟨w.heap.size, 1, none⟩ = some (.slice A0_1 t_bans.length c0_1) ∧ Hid (wr.ownsRow w.heap.size 3 1 (.slice (some ⟨w_t_0.heap.size, 0, none⟩) t_5.length t_sizes.length) t_5.length (Go.Proofs.Ytdbgmcgjklmkkaa.HelpInt.iv out_5l0)) ∧ Hid (out_5l0.length = t_5.length) ∧ Hid (Apart (some ⟨w_t_0.heap.size, 0, none⟩) (some ⟨w.heap.size, 0, none⟩)))
  case atStart => exact ⟨_, _, _, rfl, rfl, H, HBwt_5, kt_0_0, kt_0_1, Pt_5, Lib.hid (rfl), Lib.hid Dt_5_t_0.out⟩
  case round =>
    obtain ⟨n_1l0, out_5l0, i_6l0, rfl, rfl, H, HBwr0, kt_0_0, kt_0_1, Oout_5l0, hnout_5l0, Dout_5l0_t_0⟩ := hrel
    rename World => wr0
    cases gk with
    | zero => exact (loop_zero H).elim
    | succ m0 =>
      replace H := loop_succ H
      unfold l0 at H
      replace H := unp3_hid H
      replace H := let_hid H
      obtain ⟨t_12, ht_12, H⟩ := H
      cases t_12 with
      | false =>
        replace H := ite_f H
        replace H := app_hid H
        unfold e0 at H
        replace H := unp3_hid H
        obtain rfl := ret_hid H
        go_wp2_with fail
        go_ret
        have hr_0 := hnout_5l0.out
        replace Oout_5l0 := Lib.hid (own_len hr_0 Oout_5l0.out)
        exact ⟨(some ⟨w_t_0.heap.size, 0, none⟩), t_sizes.length, (by first | (rw [hr_0]; done) | (rw [hr_0]; rfl)), Oout_5l0.out, HBwr0.out⟩
      | true =>
        replace H := ite_t H
        replace H := idx_hid H
        obtain ⟨nt_19, yt_19, et_19, lt_19, gt_19, H⟩ := H
        subst et_19
        have nc_108 : 0 ≤ nt_19 := by have := of_decide_eq_true ht_12; omega
        obtain ⟨ab_t_19, ao_t_19, zt_19, At_19, z_t_19, ct_19_0⟩ := Go.Proofs.Ytdbgmcgjklmkkaa.HelpInt.Ints.at_ M0_0.out lt_19
        obtain rfl := Option.some.inj (gt_19.out.symm.trans z_t_19)
        subst At_19
        have ltt_19 := cell_lt ct_19_0
        replace ct_19_0 := cell_below HBwr0.out ct_19_0
        clear z_t_19
        have b0t_19 : (0 : Int) ≤ (nt_19 : Int) := by omega
        have b1t_19 : (nt_19 : Int) < ((t_sizes.length : Nat) : Int) := by omega
        have b2t_19 : ((nt_19 : Int)).toNat = nt_19 := by omega
        replace H := guard_hid H
        obtain ⟨hz_t_21, H⟩ := H
        replace H := let_hid H
        obtain ⟨t_21, ht_21, H⟩ := H
        replace H := idx_hid H
        obtain ⟨nt_22, yt_22, et_22, lt_22, gt_22, H⟩ := H
        obtain rfl : nt_19 = nt_22 := by omega
        clear et_22
        have hqt_22 := hnout_5l0.out
        obtain ⟨ab_t_22, ao_t_22, zt_22, At_22, z_t_22, ct_22_0⟩ := Go.Proofs.Ytdbgmcgjklmkkaa.HelpInt.Ints.at_ (own_cells Oout_5l0.out) (k := nt_19) (by omega)
        obtain rfl := Option.some.inj (gt_22.out.symm.trans z_t_22)
        simp only [Option.some.injEq, Addr.mk.injEq] at At_22
        obtain ⟨rfl, rfl, _⟩ := At_22
        clear z_t_22
        simp only [Nat.zero_add] at ct_22_0
        have b0t_22 : (0 : Int) ≤ (nt_19 : Int) := by omega
        have b1t_22 : (nt_19 : Int) < ((t_5.length : Nat) : Int) := by omega
        have b2t_22 : ((nt_19 : Int)).toNat = nt_19 := by omega
        clear hqt_22
        replace H := let_hid H
        obtain ⟨l23_23, hl23_23, H⟩ := H
        try simp only [Int.toNat_natCast] at hl23_23
        obtain ⟨wl23_23, hwl23_23⟩ : ∃ x, (wr0).setCell ⟨w_t_0.heap.size, nt_19, none⟩ (.int .i64 t_21) = x := ⟨_, rfl⟩
        have z0l23_23 := Oout_5l0.out.frozenAt (nt_19)
        have Sl23_23 := Lib.hid (own_stores [(nt_19, .int .i64 t_21)] Oout_5l0.out)
        have nl23_23 : Hid (l23_23.length = t_5.length) := Lib.hid (by rw [← hl23_23, List.length_set]; exact hnout_5l0.out)
        have Pl23_23 : Hid (wl23_23.ownsRow w.heap.size 3 1 (.slice (some ⟨w_t_0.heap.size, 0, none⟩) t_5.length t_sizes.length) t_5.length (Go.Proofs.Ytdbgmcgjklmkkaa.HelpInt.iv l23_23)) := Lib.hid (by have e_ : ([(nt_19, .int .i64 t_21)] : List (Nat × Value)).foldl (fun xs p => xs.set p.1 p.2) (Go.Proofs.Ytdbgmcgjklmkkaa.HelpInt.iv out_5l0) = (Go.Proofs.Ytdbgmcgjklmkkaa.HelpInt.iv l23_23) := (by rw [← hl23_23]; first | done | simp [Go.Proofs.Ytdbgmcgjklmkkaa.HelpInt.iv, List.map_set]); rw [← hwl23_23, ← e_]; exact Sl23_23.out.1)
        have Gl23_23 : Hid (wr0.grownBy wl23_23 (Value.slice (some ⟨w_t_0.heap.size, 0, none⟩) t_5.length t_sizes.length).ownBlock) := Lib.hid (by rw [← hwl23_23]; exact Sl23_23.out.2)
        have HBwl23_23 := Lib.hid (HBwr0.out.grown Gl23_23.out HBwr0.out.size (fun q hq => (Oout_5l0.out.lt q hq).1))
        have hhl23_23 := Lib.hid hl23_23
        clear hl23_23 Sl23_23
        have kt_0_0__109 := cell_other kt_0_0 Gl23_23.out Dout_5l0_t_0.out
        have kt_0_1__110 := cell_other kt_0_1 Gl23_23.out Dout_5l0_t_0.out
        have ct_19_0__111 := cell_other ct_19_0 Gl23_23.out (apart_old Oout_5l0.out ltt_19)
        clear Oout_5l0 Gl23_23
        replace H := idx_hid H
        obtain ⟨nt_28, yt_28, et_28, lt_28, gt_28, H⟩ := H
        obtain rfl : nt_19 = nt_28 := by omega
        clear et_28
        obtain rfl := Option.some.inj (gt_19.out.symm.trans gt_28.out)
        clear gt_28 lt_28
        replace H := guard_hid H
        obtain ⟨hz_t_30, H⟩ := H
        replace H := let_hid H
        obtain ⟨t_30, ht_30, H⟩ := H
        replace H := let_hid H
        obtain ⟨t_33, ht_33, H⟩ := H
        replace H := app_hid H
        go_wp2_with fail
        clear z0l23_23 kt_0_0 kt_0_1 ct_19_0 ct_22_0
        go_roundg m0
        case measure => omega
        case rel => exact ⟨_, _, _, rfl, rfl, H, HBwl23_23, kt_0_0__109, kt_0_1__110, Pl23_23, Lib.hid (nl23_23.out), Lib.hid Dout_5l0_t_0.out⟩
end Go.Proofs.Ytdbgmcgjklmkkaa.GsL6At

/- loop.example/g01062/spec.l6Free as a plain function, and the contract of the program's: where the plain one has an answer, the program has it. Conditions: slices read as lists. -/
namespace Go.Proofs.Ytdbgmcgjklmkkaa.GsL6Free
set_option linter.unusedVariables false
set_option linter.unusedSimpArgs false
open Go.RowKit
open Go.Proofs.Ytdbgmcgjklmkkaa.Rowed Go.Proofs.Ytdbgmcgjklmkkaa.Turn Go.Proofs.Ytdbgmcgjklmkkaa.Aid Go.Proofs.Ytdbgmcgjklmkkaa.GoP Go.Proofs.Ytdbgmcgjklmkkaa.GoM

def l0 (t_bans : (List Go.Proofs.Ytdbgmcgjklmkkaa.PBan.Ban)) (kind : (List Int)) (s : Int) (nx0 bk0 : Int → Option (Bool)) : Option (Bool) :=
  letK s fun i_5l0 =>
  letK (decide (i_5l0 < (t_bans.length : Int))) fun (t_7 : Bool) =>
  iteK t_7
  (Option.bind (idx t_bans i_5l0) fun (yt_11 : Go.Proofs.Ytdbgmcgjklmkkaa.PBan.Ban) =>
  unBan yt_11 fun (t_11_a : Int) (t_11_x : Int) (t_11_b : Int) (t_11_y : Int) =>
  Option.bind (idx kind t_11_a) fun (yt_18 : Int) =>
  letK (yt_18 == t_11_x) fun (t_22 : Bool) =>
  joinK (fun (t_32 : Bool) =>
  iteK t_32
  (some false)
  (letK (IntKind.i64.wrap (i_5l0 + 1)) fun (t_35 : Int) =>
  appK nx0 (t_35))) fun jt_32 => iteK t_22 (Option.bind (idx kind t_11_b) fun (yt_27 : Int) =>
  letK (yt_27 == t_11_y) fun (t_31 : Bool) =>
  appK jt_32 t_31) (appK jt_32 false))
  (appK bk0 (i_5l0))

def e0  (s : Int) : Option (Bool) :=
  letK s fun i_5l0 =>
  some true

def P (fuel : Nat) (t_sizes : (List Int)) (t_bans : (List Go.Proofs.Ytdbgmcgjklmkkaa.PBan.Ban)) (kind : (List Int)) : Option (Bool) :=
  loopK (l0 t_bans kind) fuel (0) (e0 )

set_option maxRecDepth 100000 in
set_option maxHeartbeats 2000000 in
theorem C (fuel : Nat) (t_sizes : (List Int)) (t_bans : (List Go.Proofs.Ytdbgmcgjklmkkaa.PBan.Ban)) (kind : (List Int)) (A0_0 : Option Addr) (c0_0 : Nat) (A0_1 : Option Addr) (c0_1 : Nat) (A1 : Option Addr) (c1 : Nat)  (w : World) (M0_0 : Hid (Cells w 1 A0_0 t_sizes.length (Go.Proofs.Ytdbgmcgjklmkkaa.HelpInt.iv t_sizes))) (N0_0 : Hid (t_sizes.length ≤ 9223372036854775807)) (M0_1 : Hid (Cells w 4 A0_1 t_bans.length (Go.Proofs.Ytdbgmcgjklmkkaa.PBan.flat t_bans))) (N0_1 : Hid (t_bans.length ≤ 9223372036854775807)) (M1 : Hid (Cells w 1 A1 kind.length (Go.Proofs.Ytdbgmcgjklmkkaa.HelpInt.iv kind))) (N1 : Hid (kind.length ≤ 9223372036854775807))  {r : Bool} (H : Hid (P fuel t_sizes t_bans kind = some r)) :
    Calls Try.prog 127 #[.agg #[.slice A0_0 t_sizes.length c0_0, .slice A0_1 t_bans.length c0_1], .slice A1 kind.length c1] w (Gives (.bool r) w) := by
  have HB := Lib.hid (Below.refl w.heap.size w)
  unfold P at H
  have N0_0o := N0_0.out
  have N0_1o := N0_1.out
  have N1o := N1.out
  go_enter Try.func127, Try.ntmps127
  obtain ⟨w_t_0, hw_t_0⟩ : ∃ x, w.alloc (.cells #[.slice A0_0 t_sizes.length c0_0, .slice A0_1 t_bans.length c0_1] 31) = x := ⟨_, rfl⟩
  have bw_t_0 : Below w.heap.size w w_t_0 := by rw [← hw_t_0]; exact (Below.refl _ _).alloc (Nat.le_refl _) _
  have HBw_t_0 := Lib.hid (Below.step HB.out bw_t_0)
  clear bw_t_0
  have kt_0_0 : w_t_0.cell? ⟨w.heap.size, 0, none⟩ = some (.slice A0_0 t_sizes.length c0_0) := by rw [← hw_t_0]; exact box_new _ _ _ 0 _ rfl
  have kt_0_1 : w_t_0.cell? ⟨w.heap.size, 1, none⟩ = some (.slice A0_1 t_bans.length c0_1) := by rw [← hw_t_0]; exact box_new _ _ _ 1 _ rfl
  go_wp2_with fail
  go_loopg [5] (fuel) (fun m_ v5_ wr => ∃ (i_5l0 : Int), v5_ = .int .i64 i_5l0 ∧ Hid (loopK (l0 t_bans kind) m_ (i_5l0) (e0 ) = some r) ∧ Hid (Below w.heap.size w wr) ∧ wr.cell? ⟨w.heap.size, 0, none⟩ = some (.slice A0_0 t_sizes.length c0_0) ∧ wr.cell? ⟨w.heap.size, 1, none⟩ = some (.slice A0_1 t_bans.length c0_1))
  case atStart => exact ⟨_, rfl, H, HBw_t_0, kt_0_0, kt_0_1⟩
  case round =>
    obtain ⟨i_5l0, rfl, H, HBwr0, kt_0_0, kt_0_1⟩ := hrel
    rename World => wr0
    cases gk with
    | zero => exact (loop_zero H).elim
    | succ m0 =>
      replace H := loop_succ H
      unfold l0 at H
      replace H := let_hid H
      obtain ⟨_, rfl, H⟩ := H
      replace H := let_hid H
      obtain ⟨t_7, ht_7, H⟩ := H
      cases t_7 with
      | false =>
        replace H := ite_f H
        replace H := app_hid H
        unfold e0 at H
        replace H := let_hid H
        obtain ⟨_, rfl, H⟩ := H
        obtain rfl := ret_hid H
        go_wp2_with fail
        go_ret
        exact ⟨rfl, HBwr0.out⟩
      | true =>
        replace H := ite_t H
        replace H := idx_hid H
        obtain ⟨nt_11, yt_11, et_11, lt_11, gt_11, H⟩ := H
        subst et_11
        have nc_112 : nt_11 < t_bans.length := by have := of_decide_eq_true ht_7; omega
        obtain ⟨t_11_a, t_11_x, t_11_b, t_11_y⟩ := yt_11
        replace H := unBan_hid H
        obtain ⟨ab_t_11, ao_t_11, zt_11, At_11, z_t_11, ct_11_0, ct_11_1, ct_11_2, ct_11_3⟩ := Go.Proofs.Ytdbgmcgjklmkkaa.OBan.at_ M0_1.out lt_11
        obtain rfl := Option.some.inj (gt_11.out.symm.trans z_t_11)
        subst At_11
        have ltt_11 := cell_lt ct_11_0
        replace ct_11_0 := cell_below HBwr0.out ct_11_0
        replace ct_11_1 := cell_below HBwr0.out ct_11_1
        replace ct_11_2 := cell_below HBwr0.out ct_11_2
        replace ct_11_3 := cell_below HBwr0.out ct_11_3
        clear z_t_11
        have b0t_11 : (0 : Int) ≤ (nt_11 : Int) := by omega
        have b1t_11 : (nt_11 : Int) < ((t_bans.length : Nat) : Int) := by omega
        have b2t_11 : ((nt_11 : Int)).toNat = nt_11 := by omega
        obtain ⟨w_b_13, hw_b_13⟩ : ∃ x, wr0.alloc (.cells #[.int .i64 t_11_a, .int .i64 t_11_x, .int .i64 t_11_b, .int .i64 t_11_y] 96) = x := ⟨_, rfl⟩
        have bw_b_13 : Below wr0.heap.size wr0 w_b_13 := by rw [← hw_b_13]; exact (Below.refl _ _).alloc (Nat.le_refl _) _
        have HBw_b_13 := Lib.hid (Below.step HBwr0.out bw_b_13)
        have kt_0_0__113 := cell_below bw_b_13 kt_0_0
        have kt_0_1__114 := cell_below bw_b_13 kt_0_1
        have ct_11_0__115 := cell_below bw_b_13 ct_11_0
        have ct_11_1__116 := cell_below bw_b_13 ct_11_1
        have ct_11_2__117 := cell_below bw_b_13 ct_11_2
        have ct_11_3__118 := cell_below bw_b_13 ct_11_3
        clear bw_b_13
        have kb_13_0 : w_b_13.cell? ⟨wr0.heap.size, 0, none⟩ = some (.int .i64 t_11_a) := by rw [← hw_b_13]; exact box_new _ _ _ 0 _ rfl
        have kb_13_1 : w_b_13.cell? ⟨wr0.heap.size, 1, none⟩ = some (.int .i64 t_11_x) := by rw [← hw_b_13]; exact box_new _ _ _ 1 _ rfl
        have kb_13_2 : w_b_13.cell? ⟨wr0.heap.size, 2, none⟩ = some (.int .i64 t_11_b) := by rw [← hw_b_13]; exact box_new _ _ _ 2 _ rfl
        have kb_13_3 : w_b_13.cell? ⟨wr0.heap.size, 3, none⟩ = some (.int .i64 t_11_y) := by rw [← hw_b_13]; exact box_new _ _ _ 3 _ rfl
        go_wp2_with fail
        clear kt_0_0 kt_0_1 ct_11_0 ct_11_1 ct_11_2 ct_11_3
        have Hkt_0_0__113 := Lib.hid kt_0_0__113
        replace kt_0_0__113 := cell_regrown kt_0_0__113
        have Hkt_0_1__114 := Lib.hid kt_0_1__114
        replace kt_0_1__114 := cell_regrown kt_0_1__114
        have Hct_11_0__115 := Lib.hid ct_11_0__115
        replace ct_11_0__115 := cell_regrown ct_11_0__115
        have Hct_11_1__116 := Lib.hid ct_11_1__116
        replace ct_11_1__116 := cell_regrown ct_11_1__116
        have Hct_11_2__117 := Lib.hid ct_11_2__117
        replace ct_11_2__117 := cell_regrown ct_11_2__117
        have Hct_11_3__118 := Lib.hid ct_11_3__118
        replace ct_11_3__118 := cell_regrown ct_11_3__118
        have Hkb_13_0 := Lib.hid kb_13_0
        replace kb_13_0 := cell_regrown kb_13_0
        have Hkb_13_1 := Lib.hid kb_13_1
        replace kb_13_1 := cell_regrown kb_13_1
        have Hkb_13_2 := Lib.hid kb_13_2
        replace kb_13_2 := cell_regrown kb_13_2
        have Hkb_13_3 := Lib.hid kb_13_3
        replace kb_13_3 := cell_regrown kb_13_3
        replace H := idx_hid H
        obtain ⟨nt_18, yt_18, et_18, lt_18, gt_18, H⟩ := H
        subst et_18
        obtain ⟨ab_t_18, ao_t_18, zt_18, At_18, z_t_18, ct_18_0⟩ := Go.Proofs.Ytdbgmcgjklmkkaa.HelpInt.Ints.at_ M1.out lt_18
        obtain rfl := Option.some.inj (gt_18.out.symm.trans z_t_18)
        subst At_18
        have ltt_18 := cell_lt ct_18_0
        replace ct_18_0 := cell_below HBw_b_13.out ct_18_0
        clear z_t_18
        have b0t_18 : (0 : Int) ≤ (nt_18 : Int) := by omega
        have b1t_18 : (nt_18 : Int) < ((kind.length : Nat) : Int) := by omega
        have b2t_18 : ((nt_18 : Int)).toNat = nt_18 := by omega
        have Hct_18_0 := Lib.hid ct_18_0
        replace ct_18_0 := cell_regrown ct_18_0
        replace H := let_hid H
        obtain ⟨t_22, ht_22, H⟩ := H
        replace H := join_hid H
        cases t_22 with
        | false =>
          replace H := ite_f H
          replace H := app_hid H
          refine wp_region_quiet_below (by kernel_rfl) (by kernel_rfl) ?_
          repeat (go_big_quiet_step (fail))
          refine wpQuiet_nil ?_
          intro Y5 hY5
          replace hY5 := below_class hY5
          replace kt_0_0__113 := Hkt_0_0__113.out
          clear Hkt_0_0__113
          replace kt_0_1__114 := Hkt_0_1__114.out
          clear Hkt_0_1__114
          replace ct_11_0__115 := Hct_11_0__115.out
          clear Hct_11_0__115
          replace ct_11_1__116 := Hct_11_1__116.out
          clear Hct_11_1__116
          replace ct_11_2__117 := Hct_11_2__117.out
          clear Hct_11_2__117
          replace ct_11_3__118 := Hct_11_3__118.out
          clear Hct_11_3__118
          replace kb_13_0 := Hkb_13_0.out
          clear Hkb_13_0
          replace kb_13_1 := Hkb_13_1.out
          clear Hkb_13_1
          replace kb_13_2 := Hkb_13_2.out
          clear Hkb_13_2
          replace kb_13_3 := Hkb_13_3.out
          clear Hkb_13_3
          replace ct_18_0 := Hct_18_0.out
          clear Hct_18_0
          have HBY5 := Lib.hid (Below.step HBw_b_13.out hY5)
          replace kt_0_0__113 := cell_below hY5 kt_0_0__113
          replace kt_0_1__114 := cell_below hY5 kt_0_1__114
          replace ct_11_0__115 := cell_below hY5 ct_11_0__115
          replace ct_11_1__116 := cell_below hY5 ct_11_1__116
          replace ct_11_2__117 := cell_below hY5 ct_11_2__117
          replace ct_11_3__118 := cell_below hY5 ct_11_3__118
          replace kb_13_0 := cell_below hY5 kb_13_0
          replace kb_13_1 := cell_below hY5 kb_13_1
          replace kb_13_2 := cell_below hY5 kb_13_2
          replace kb_13_3 := cell_below hY5 kb_13_3
          replace ct_18_0 := cell_below hY5 ct_18_0
          clear hY5
          replace H := ite_f H
          replace H := let_hid H
          obtain ⟨t_35, ht_35, H⟩ := H
          replace H := app_hid H
          go_wp2_with fail
          go_roundg m0
          case measure => omega
          case rel => exact ⟨_, rfl, H, HBY5, kt_0_0__113, kt_0_1__114⟩
        | true =>
          replace H := ite_t H
          replace H := idx_hid H
          obtain ⟨nt_27, yt_27, et_27, lt_27, gt_27, H⟩ := H
          subst et_27
          obtain ⟨ab_t_27, ao_t_27, zt_27, At_27, z_t_27, ct_27_0⟩ := Go.Proofs.Ytdbgmcgjklmkkaa.HelpInt.Ints.at_ M1.out lt_27
          obtain rfl := Option.some.inj (gt_27.out.symm.trans z_t_27)
          simp only [Option.some.injEq, Addr.mk.injEq] at At_27
          obtain ⟨rfl, rfl, _⟩ := At_27
          have ltt_27 := cell_lt ct_27_0
          replace ct_27_0 := cell_below HBw_b_13.out ct_27_0
          clear z_t_27
          have b0t_27 : (0 : Int) ≤ (nt_27 : Int) := by omega
          have b1t_27 : (nt_27 : Int) < ((kind.length : Nat) : Int) := by omega
          have b2t_27 : ((nt_27 : Int)).toNat = nt_27 := by omega
          have Hct_27_0 := Lib.hid ct_27_0
          replace ct_27_0 := cell_regrown ct_27_0
          replace H := let_hid H
          obtain ⟨t_31, ht_31, H⟩ := H
          replace H := app_hid H
          refine wp_region_quiet_below (by kernel_rfl) (by kernel_rfl) ?_
          repeat (go_big_quiet_step (fail))
          refine wpQuiet_nil ?_
          intro Y5 hY5
          replace hY5 := below_class hY5
          replace kt_0_0__113 := Hkt_0_0__113.out
          clear Hkt_0_0__113
          replace kt_0_1__114 := Hkt_0_1__114.out
          clear Hkt_0_1__114
          replace ct_11_0__115 := Hct_11_0__115.out
          clear Hct_11_0__115
          replace ct_11_1__116 := Hct_11_1__116.out
          clear Hct_11_1__116
          replace ct_11_2__117 := Hct_11_2__117.out
          clear Hct_11_2__117
          replace ct_11_3__118 := Hct_11_3__118.out
          clear Hct_11_3__118
          replace kb_13_0 := Hkb_13_0.out
          clear Hkb_13_0
          replace kb_13_1 := Hkb_13_1.out
          clear Hkb_13_1
          replace kb_13_2 := Hkb_13_2.out
          clear Hkb_13_2
          replace kb_13_3 := Hkb_13_3.out
          clear Hkb_13_3
          replace ct_18_0 := Hct_18_0.out
          clear Hct_18_0
          replace ct_27_0 := Hct_27_0.out
          clear Hct_27_0
          have HBY5 := Lib.hid (Below.step HBw_b_13.out hY5)
          replace kt_0_0__113 := cell_below hY5 kt_0_0__113
          replace kt_0_1__114 := cell_below hY5 kt_0_1__114
          replace ct_11_0__115 := cell_below hY5 ct_11_0__115
          replace ct_11_1__116 := cell_below hY5 ct_11_1__116
          replace ct_11_2__117 := cell_below hY5 ct_11_2__117
          replace ct_11_3__118 := cell_below hY5 ct_11_3__118
          replace kb_13_0 := cell_below hY5 kb_13_0
          replace kb_13_1 := cell_below hY5 kb_13_1
          replace kb_13_2 := cell_below hY5 kb_13_2
          replace kb_13_3 := cell_below hY5 kb_13_3
          replace ct_18_0 := cell_below hY5 ct_18_0
          replace ct_27_0 := cell_below hY5 ct_27_0
          clear hY5
          cases t_31 with
          | false =>
            replace H := ite_f H
            replace H := let_hid H
            obtain ⟨t_35, ht_35, H⟩ := H
            replace H := app_hid H
            go_wp2_with fail
            go_roundg m0
            case measure => omega
            case rel => exact ⟨_, rfl, H, HBY5, kt_0_0__113, kt_0_1__114⟩
          | true =>
            replace H := ite_t H
            obtain rfl := ret_hid H
            go_wp2_with fail
            go_ret
            exact ⟨rfl, HBY5.out⟩
end Go.Proofs.Ytdbgmcgjklmkkaa.GsL6Free

/- loop.example/g01062/spec.l6With as a plain function, and the contract of the program's: where the plain one has an answer, the program has it. Conditions: slices read as lists. -/
namespace Go.Proofs.Ytdbgmcgjklmkkaa.GsL6With
set_option linter.unusedVariables false
set_option linter.unusedSimpArgs false
open Go.RowKit
open Go.Proofs.Ytdbgmcgjklmkkaa.Rowed Go.Proofs.Ytdbgmcgjklmkkaa.Turn Go.Proofs.Ytdbgmcgjklmkkaa.Aid Go.Proofs.Ytdbgmcgjklmkkaa.GoP Go.Proofs.Ytdbgmcgjklmkkaa.GoM

def l0 (t_sizes : (List Int)) (t_bans : (List Go.Proofs.Ytdbgmcgjklmkkaa.PBan.Ban)) (trait : Int) (value : Int) (fuel : Nat) (s : Int × Int) (nx0 bk0 : Int × Int → Option (Int)) : Option (Int) :=
  unp2 s fun sum_7l0 n_8l0 =>
  Option.bind (Go.Proofs.Ytdbgmcgjklmkkaa.GsL6All.P fuel t_sizes t_bans) fun (t_6 : Int) =>
  letK (decide (n_8l0 < t_6)) fun (t_7 : Bool) =>
  iteK t_7
  (Option.bind (Go.Proofs.Ytdbgmcgjklmkkaa.GsL6At.P fuel t_sizes t_bans n_8l0) fun (t_10 : (List Int)) =>
  letK (decide (trait < 0)) fun (t_13 : Bool) =>
  joinK (fun (t_21 : Bool) =>
  joinK (fun (t_26 : Bool) =>
  iteK t_26
  (letK (IntKind.i64.wrap (sum_7l0 + 1)) fun (t_28 : Int) =>
  letK (IntKind.i64.wrap (n_8l0 + 1)) fun (t_31 : Int) =>
  appK nx0 (t_28, t_31))
  (letK (IntKind.i64.wrap (n_8l0 + 1)) fun (t_31 : Int) =>
  appK nx0 (sum_7l0, t_31))) fun jt_26 => iteK t_21 (Option.bind (Go.Proofs.Ytdbgmcgjklmkkaa.GsL6Free.P fuel t_sizes t_bans t_10) fun (t_25 : Bool) =>
  appK jt_26 t_25) (appK jt_26 false)) fun jt_21 => iteK t_13 (appK jt_21 true) (Option.bind (idx t_10 trait) fun (yt_17 : Int) =>
  letK (yt_17 == value) fun (t_20 : Bool) =>
  appK jt_21 t_20))
  (appK bk0 (sum_7l0, n_8l0))

def e0  (s : Int × Int) : Option (Int) :=
  unp2 s fun sum_7l0 n_8l0 =>
  some sum_7l0

def P (fuel : Nat) (t_sizes : (List Int)) (t_bans : (List Go.Proofs.Ytdbgmcgjklmkkaa.PBan.Ban)) (trait : Int) (value : Int) : Option (Int) :=
  loopK (l0 t_sizes t_bans trait value fuel) fuel (0, 0) (e0 )

set_option maxRecDepth 100000 in
set_option maxHeartbeats 2000000 in
theorem C (fuel : Nat) (t_sizes : (List Int)) (t_bans : (List Go.Proofs.Ytdbgmcgjklmkkaa.PBan.Ban)) (trait : Int) (value : Int) (A0_0 : Option Addr) (c0_0 : Nat) (A0_1 : Option Addr) (c0_1 : Nat)  (w : World) (M0_0 : Hid (Cells w 1 A0_0 t_sizes.length (Go.Proofs.Ytdbgmcgjklmkkaa.HelpInt.iv t_sizes))) (N0_0 : Hid (t_sizes.length ≤ 9223372036854775807)) (M0_1 : Hid (Cells w 4 A0_1 t_bans.length (Go.Proofs.Ytdbgmcgjklmkkaa.PBan.flat t_bans))) (N0_1 : Hid (t_bans.length ≤ 9223372036854775807))  {r : Int} (H : Hid (P fuel t_sizes t_bans trait value = some r)) :
    Calls Try.prog 69 #[.agg #[.slice A0_0 t_sizes.length c0_0, .slice A0_1 t_bans.length c0_1], .int .i64 trait, .int .i64 value] w (Gives (.int .i64 r) w) := by
  have HB := Lib.hid (Below.refl w.heap.size w)
  unfold P at H
  have N0_0o := N0_0.out
  have N0_1o := N0_1.out
  go_enter Try.func69, Try.ntmps69
  obtain ⟨w_t_0, hw_t_0⟩ : ∃ x, w.alloc (.cells #[.slice A0_0 t_sizes.length c0_0, .slice A0_1 t_bans.length c0_1] 31) = x := ⟨_, rfl⟩
  have bw_t_0 : Below w.heap.size w w_t_0 := by rw [← hw_t_0]; exact (Below.refl _ _).alloc (Nat.le_refl _) _
  have HBw_t_0 := Lib.hid (Below.step HB.out bw_t_0)
  clear bw_t_0
  have kt_0_0 : w_t_0.cell? ⟨w.heap.size, 0, none⟩ = some (.slice A0_0 t_sizes.length c0_0) := by rw [← hw_t_0]; exact box_new _ _ _ 0 _ rfl
  have kt_0_1 : w_t_0.cell? ⟨w.heap.size, 1, none⟩ = some (.slice A0_1 t_bans.length c0_1) := by rw [← hw_t_0]; exact box_new _ _ _ 1 _ rfl
  go_wp2_with fail
  go_loopg [7, 8] (fuel) (fun m_ v7_ v8_ wr => ∃ (sum_7l0 : Int) (n_8l0 : Int), v7_ = .int .i64 sum_7l0 ∧ v8_ = .int .i64 n_8l0 ∧ Hid (loopK (l0 t_sizes t_bans trait value fuel) m_ (sum_7l0, n_8l0) (e0 ) = some r) ∧ Hid (Below w.heap.size w wr) ∧ wr.cell? ⟨w.heap.size, 0, none⟩ = some (.slice A0_0 t_sizes.length c0_0) ∧ wr.cell? ⟨w.heap.size, 1, none⟩ = some (.slice A0_1 t_bans.length c0_1))
  case atStart => exact ⟨_, _, rfl, rfl, H, HBw_t_0, kt_0_0, kt_0_1⟩
  case round =>
    obtain ⟨sum_7l0, n_8l0, rfl, rfl, H, HBwr0, kt_0_0, kt_0_1⟩ := hrel
    rename World => wr0
    cases gk with
    | zero => exact (loop_zero H).elim
    | succ m0 =>
      replace H := loop_succ H
      unfold l0 at H
      replace H := unp2_hid H
      replace H := bind_hid H
      obtain ⟨t_6, qt_6, H⟩ := H
      go_wp2_with fail
      go_at_call 125
      refine (Go.Proofs.Ytdbgmcgjklmkkaa.GsL6All.C fuel (t_sizes) (t_bans) A0_0 c0_0 A0_1 c0_1 _   (Lib.hid (Cells.below M0_0.out HBwr0.out)) N0_0 (Lib.hid (Cells.below M0_1.out HBwr0.out)) N0_1 qt_6).mono ?_
      rintro e_t_6 wt_6 ⟨rfl, bt_6⟩
      have HBwt_6 := Lib.hid (Below.step HBwr0.out bt_6)
      replace kt_0_0 := cell_below bt_6 kt_0_0
      replace kt_0_1 := cell_below bt_6 kt_0_1
      clear bt_6
      replace H := let_hid H
      obtain ⟨t_7, ht_7, H⟩ := H
      cases t_7 with
      | false =>
        replace H := ite_f H
        replace H := app_hid H
        unfold e0 at H
        replace H := unp2_hid H
        obtain rfl := ret_hid H
        go_wp2_with fail
        go_ret
        exact ⟨rfl, HBwt_6.out⟩
      | true =>
        replace H := ite_t H
        replace H := bind_hid H
        obtain ⟨t_10, qt_10, H⟩ := H
        go_wp2_with fail
        go_at_call 126
        refine (Go.Proofs.Ytdbgmcgjklmkkaa.GsL6At.C fuel (t_sizes) (t_bans) (n_8l0) A0_0 c0_0 A0_1 c0_1 _   (Lib.hid (Cells.below M0_0.out HBwt_6.out)) N0_0 (Lib.hid (Cells.below M0_1.out HBwt_6.out)) N0_1 qt_10).mono ?_
        rintro e_t_10 wt_10 ⟨At_10, ct_10, rfl, ot_10, bt_10⟩
        have Dt_10_t_0 := Lib.hid (apart_callbox ot_10 kt_0_0)
        have Ot_10 := Lib.hid (own_lower ot_10 HBwt_6.out.size)
        clear ot_10
        have HBwt_10 := Lib.hid (Below.step HBwt_6.out bt_10)
        replace kt_0_0 := cell_below bt_10 kt_0_0
        replace kt_0_1 := cell_below bt_10 kt_0_1
        clear bt_10
        replace H := let_hid H
        obtain ⟨t_13, ht_13, H⟩ := H
        replace H := join_hid H
        cases t_13 with
        | false =>
          replace H := ite_f H
          replace H := idx_hid H
          obtain ⟨nt_17, yt_17, et_17, lt_17, gt_17, H⟩ := H
          subst et_17
          have nc_119 : ¬ (nt_17 < 0) := by have := of_decide_eq_false ht_13; omega
          obtain ⟨qt_17, Qt_17⟩ := own_some Ot_10.out (by omega)
          subst Qt_17
          obtain ⟨ab_t_17, ao_t_17, zt_17, At_17, z_t_17, ct_17_0⟩ := Go.Proofs.Ytdbgmcgjklmkkaa.HelpInt.Ints.at_ (own_cells Ot_10.out) (k := nt_17) (by omega)
          obtain rfl := Option.some.inj (gt_17.out.symm.trans z_t_17)
          simp only [Option.some.injEq, Addr.mk.injEq] at At_17
          obtain ⟨rfl, rfl, _⟩ := At_17
          clear z_t_17
          simp only [Nat.zero_add] at ct_17_0
          have b0t_17 : (0 : Int) ≤ (nt_17 : Int) := by omega
          have b1t_17 : (nt_17 : Int) < ((t_10.length : Nat) : Int) := by omega
          have b2t_17 : ((nt_17 : Int)).toNat = nt_17 := by omega
          replace H := let_hid H
          obtain ⟨t_20, ht_20, H⟩ := H
          replace H := app_hid H
          replace H := join_hid H
          cases t_20 with
          | false =>
            replace H := ite_f H
            replace H := app_hid H
            replace H := ite_f H
            replace H := let_hid H
            obtain ⟨t_31, ht_31, H⟩ := H
            replace H := app_hid H
            go_wp2_with fail
            go_roundg m0
            case measure => omega
            case rel => exact ⟨_, _, rfl, rfl, H, HBwt_10, kt_0_0, kt_0_1⟩
          | true =>
            replace H := ite_t H
            replace H := bind_hid H
            obtain ⟨t_25, qt_25, H⟩ := H
            go_wp2_with fail
            go_at_call 127
            refine (Go.Proofs.Ytdbgmcgjklmkkaa.GsL6Free.C fuel (t_sizes) (t_bans) (t_10) A0_0 c0_0 A0_1 c0_1 (some ⟨qt_17, 0, none⟩) ct_10 _   (Lib.hid (Cells.below M0_0.out HBwt_10.out)) N0_0 (Lib.hid (Cells.below M0_1.out HBwt_10.out)) N0_1 (Lib.hid (own_cells Ot_10.out)) (Lib.hid (own_max Ot_10.out)) qt_25).mono ?_
            rintro e_t_25 wt_25 ⟨rfl, bt_25⟩
            have HBwt_25 := Lib.hid (Below.step HBwt_10.out bt_25)
            replace kt_0_0 := cell_below bt_25 kt_0_0
            replace kt_0_1 := cell_below bt_25 kt_0_1
            replace ct_17_0 := cell_below bt_25 ct_17_0
            replace Ot_10 := Lib.hid (own_below Ot_10.out bt_25)
            clear bt_25
            replace H := app_hid H
            cases t_25 with
            | false =>
              replace H := ite_f H
              replace H := let_hid H
              obtain ⟨t_31, ht_31, H⟩ := H
              replace H := app_hid H
              go_wp2_with fail
              go_roundg m0
              case measure => omega
              case rel => exact ⟨_, _, rfl, rfl, H, HBwt_25, kt_0_0, kt_0_1⟩
            | true =>
              replace H := ite_t H
              replace H := let_hid H
              obtain ⟨t_28, ht_28, H⟩ := H
              replace H := let_hid H
              obtain ⟨t_31, ht_31, H⟩ := H
              replace H := app_hid H
              go_wp2_with fail
              go_roundg m0
              case measure => omega
              case rel => exact ⟨_, _, rfl, rfl, H, HBwt_25, kt_0_0, kt_0_1⟩
        | true =>
          replace H := ite_t H
          replace H := app_hid H
          replace H := join_hid H
          replace H := ite_t H
          replace H := bind_hid H
          obtain ⟨t_25, qt_25, H⟩ := H
          go_wp2_with fail
          go_at_call 127
          refine (Go.Proofs.Ytdbgmcgjklmkkaa.GsL6Free.C fuel (t_sizes) (t_bans) (t_10) A0_0 c0_0 A0_1 c0_1 At_10 ct_10 _   (Lib.hid (Cells.below M0_0.out HBwt_10.out)) N0_0 (Lib.hid (Cells.below M0_1.out HBwt_10.out)) N0_1 (Lib.hid (own_cells Ot_10.out)) (Lib.hid (own_max Ot_10.out)) qt_25).mono ?_
          rintro e_t_25 wt_25 ⟨rfl, bt_25⟩
          have HBwt_25 := Lib.hid (Below.step HBwt_10.out bt_25)
          replace kt_0_0 := cell_below bt_25 kt_0_0
          replace kt_0_1 := cell_below bt_25 kt_0_1
          replace Ot_10 := Lib.hid (own_below Ot_10.out bt_25)
          clear bt_25
          replace H := app_hid H
          cases t_25 with
          | false =>
            replace H := ite_f H
            replace H := let_hid H
            obtain ⟨t_31, ht_31, H⟩ := H
            replace H := app_hid H
            go_wp2_with fail
            go_roundg m0
            case measure => omega
            case rel => exact ⟨_, _, rfl, rfl, H, HBwt_25, kt_0_0, kt_0_1⟩
          | true =>
            replace H := ite_t H
            replace H := let_hid H
            obtain ⟨t_28, ht_28, H⟩ := H
            replace H := let_hid H
            obtain ⟨t_31, ht_31, H⟩ := H
            replace H := app_hid H
            go_wp2_with fail
            go_roundg m0
            case measure => omega
            case rel => exact ⟨_, _, rfl, rfl, H, HBwt_25, kt_0_0, kt_0_1⟩
end Go.Proofs.Ytdbgmcgjklmkkaa.GsL6With

