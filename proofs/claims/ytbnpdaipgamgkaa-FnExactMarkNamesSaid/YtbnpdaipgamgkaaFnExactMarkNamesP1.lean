/- The texts on which the proof of FnExactMarkNames stands, one behind the other (1 of 3). No condition of their own. -/
import Derived.Lib.Hide
import Derived.Below
import Derived.Laws.OwnMore
import Derived.Laws.World
import Derived.Deep.Draws
import Derived.Lib.QuietBelow
import Derived.Lib.Strings
import Derived.OwnWalk
import Derived.Laws.Strings3
import Derived.Laws.AppendOwnNone
import Derived.Laws.DeepStrings4
import Derived.Laws.Slices
import Derived.Deep.Slices
import Derived.Laws.MakeOwn
import Derived.Maps.AppendAt
import Derived.Lib.LaidU8
import Derived.WalkKit
import Derived.WalkSpells
import Derived.Test.YtbnpdaipgamgkaaChecked
import Derived.Lib.SmallJoins
import Derived.Deep.Fields
import Derived.ChangeSame
import Derived.WalkLawsBesides
import Derived.BigQuiet
import Derived.Deep.LoopGhost
import Derived.Deep.QuietTactic
import Derived.IntWalk
import Derived.Lib.SliceRun
import Derived.Deep.AppendLies
import Derived.Deep.RegionHeld3
/- Words in which a Go function is written as a plain function that either has an answer or has none (a panic, or a loop that does not end in time); and how such a sentence is taken apart. No condition. -/
namespace Go.Proofs.Ytbnpdaipgamgkaa.GoP
set_option linter.unusedVariables false
open Go.RowKit

def idx {α : Type} (l : List α) (i : Int) : Option α := if 0 ≤ i then l[i.toNat]? else none
def letK {α ρ : Type} (x : α) (f : α → Option ρ) : Option ρ := f x
def iteK {ρ : Type} (c : Bool) (a b : Option ρ) : Option ρ := match c with | true => a | false => b
def joinK {γ : Type} {ρ : Type} (rest : γ) (f : γ → Option ρ) : Option ρ := f rest
def appK {α ρ : Type} (j : α → Option ρ) (x : α) : Option ρ := j x
def guardK {ρ : Type} (p : Prop) [Decidable p] (a : Option ρ) : Option ρ := if p then a else none
def bind2 {α β ρ : Type} (x : Option (α × β)) (f : α → β → Option ρ) : Option ρ := match x with | none => none | some (a, b) => f a b
def bind3 {α β γ ρ : Type} (x : Option (α × β × γ)) (f : α → β → γ → Option ρ) : Option ρ := match x with | none => none | some (a, b, c) => f a b c
def bind4 {α β γ δ ρ : Type} (x : Option (α × β × γ × δ)) (f : α → β → γ → δ → Option ρ) : Option ρ := match x with | none => none | some (a, b, c, d) => f a b c d
def unp2 {α β ρ : Type} (s : α × β) (f : α → β → Option ρ) : Option ρ := f s.1 s.2
def unp3 {α β γ ρ : Type} (s : α × β × γ) (f : α → β → γ → Option ρ) : Option ρ := f s.1 s.2.1 s.2.2
def unp4 {α β γ δ ρ : Type} (s : α × β × γ × δ) (f : α → β → γ → δ → Option ρ) : Option ρ := f s.1 s.2.1 s.2.2.1 s.2.2.2
/-- m rounds, counted from k on -/
def cntK {σ ρ : Type} (f : Nat → σ → (σ → Option ρ) → (σ → Option ρ) → Option ρ) : Nat → Nat → σ → (σ → Option ρ) → Option ρ
  | 0, _, s, fin => fin s
  | m + 1, k, s, fin => f k s (fun s' => cntK f m (k + 1) s' fin) fin
/-- rounds until one ends the loop, n at most -/
def loopK {σ ρ : Type} (f : σ → (σ → Option ρ) → (σ → Option ρ) → Option ρ) : Nat → σ → (σ → Option ρ) → Option ρ
  | 0, _, _ => none
  | n + 1, s, fin => f s (fun s' => loopK f n s' fin) fin

theorem let_hid {α ρ : Type} {x : α} {f : α → Option ρ} {r : ρ} (H : Hid (letK x f = some r)) : ∃ y, x = y ∧ Hid (f y = some r) := ⟨x, rfl, H⟩
theorem bind_hid {α ρ : Type} {x : Option α} {f : α → Option ρ} {r : ρ} (H : Hid (x.bind f = some r)) : ∃ y, Hid (x = some y) ∧ Hid (f y = some r) := by
  have h : x.bind f = some r := H
  cases x with
  | none => simp at h
  | some y => exact ⟨y, rfl, h⟩
theorem bind2_hid {α β ρ : Type} {x : Option (α × β)} {f : α → β → Option ρ} {r : ρ} (H : Hid (bind2 x f = some r)) : ∃ a b, Hid (x = some (a, b)) ∧ Hid (f a b = some r) := by
  have h : bind2 x f = some r := H
  cases x with
  | none => simp [bind2] at h
  | some y => exact ⟨y.1, y.2, rfl, h⟩
theorem bind3_hid {α β γ ρ : Type} {x : Option (α × β × γ)} {f : α → β → γ → Option ρ} {r : ρ} (H : Hid (bind3 x f = some r)) : ∃ a b c, Hid (x = some (a, b, c)) ∧ Hid (f a b c = some r) := by
  have h : bind3 x f = some r := H
  cases x with
  | none => simp [bind3] at h
  | some y => exact ⟨y.1, y.2.1, y.2.2, rfl, h⟩
theorem bind4_hid {α β γ δ ρ : Type} {x : Option (α × β × γ × δ)} {f : α → β → γ → δ → Option ρ} {r : ρ} (H : Hid (bind4 x f = some r)) : ∃ a b c d, Hid (x = some (a, b, c, d)) ∧ Hid (f a b c d = some r) := by
  have h : bind4 x f = some r := H
  cases x with
  | none => simp [bind4] at h
  | some y => exact ⟨y.1, y.2.1, y.2.2.1, y.2.2.2, rfl, h⟩
theorem ite_t {ρ : Type} {a b : Option ρ} {r : ρ} (H : Hid (iteK true a b = some r)) : Hid (a = some r) := H
theorem ite_f {ρ : Type} {a b : Option ρ} {r : ρ} (H : Hid (iteK false a b = some r)) : Hid (b = some r) := H
theorem join_hid {γ ρ : Type} {j : γ} {f : γ → Option ρ} {r : ρ} (H : Hid (joinK j f = some r)) : Hid (f j = some r) := H
theorem app_hid {α ρ : Type} {j : α → Option ρ} {x : α} {r : ρ} (H : Hid (appK j x = some r)) : Hid (j x = some r) := H
theorem guard_hid {ρ : Type} {p : Prop} [Decidable p] {a : Option ρ} {r : ρ} (H : Hid (guardK p a = some r)) : p ∧ Hid (a = some r) := by
  have h : guardK p a = some r := H
  unfold guardK at h
  by_cases hp : p
  · rw [if_pos hp] at h; exact ⟨hp, h⟩
  · rw [if_neg hp] at h; simp at h
theorem unp2_hid {α β ρ : Type} {a : α} {b : β} {f : α → β → Option ρ} {r : ρ} (H : Hid (unp2 (a, b) f = some r)) : Hid (f a b = some r) := H
theorem unp3_hid {α β γ ρ : Type} {a : α} {b : β} {c : γ} {f : α → β → γ → Option ρ} {r : ρ} (H : Hid (unp3 (a, b, c) f = some r)) : Hid (f a b c = some r) := H
theorem unp4_hid {α β γ δ ρ : Type} {a : α} {b : β} {c : γ} {d : δ} {f : α → β → γ → δ → Option ρ} {r : ρ} (H : Hid (unp4 (a, b, c, d) f = some r)) : Hid (f a b c d = some r) := H
theorem cnt_zero {σ ρ : Type} {f : Nat → σ → (σ → Option ρ) → (σ → Option ρ) → Option ρ} {k : Nat} {s : σ} {fin : σ → Option ρ} {r : ρ} (H : Hid (cntK f 0 k s fin = some r)) : Hid (fin s = some r) := H
theorem cnt_succ {σ ρ : Type} {f : Nat → σ → (σ → Option ρ) → (σ → Option ρ) → Option ρ} {m k : Nat} {s : σ} {fin : σ → Option ρ} {r : ρ} (H : Hid (cntK f (m + 1) k s fin = some r)) :
    Hid (f k s (fun s' => cntK f m (k + 1) s' fin) fin = some r) := H
theorem loop_zero {σ ρ : Type} {f : σ → (σ → Option ρ) → (σ → Option ρ) → Option ρ} {s : σ} {fin : σ → Option ρ} {r : ρ} (H : Hid (loopK f 0 s fin = some r)) : False := by
  have h : loopK f 0 s fin = some r := H
  simp [loopK] at h
theorem loop_succ {σ ρ : Type} {f : σ → (σ → Option ρ) → (σ → Option ρ) → Option ρ} {n : Nat} {s : σ} {fin : σ → Option ρ} {r : ρ} (H : Hid (loopK f (n + 1) s fin = some r)) :
    Hid (f s (fun s' => loopK f n s' fin) fin = some r) := H
theorem ret_hid {ρ : Type} {v r : ρ} (H : Hid (some v = some r)) : v = r := Option.some.inj H
theorem none_hid {ρ : Type} {r : ρ} (H : Hid ((none : Option ρ) = some r)) : False := by
  have h : (none : Option ρ) = some r := H
  simp at h
theorem idx_hid {α ρ : Type} {l : List α} {i : Int} {f : α → Option ρ} {r : ρ} (H : Hid ((idx l i).bind f = some r)) :
    ∃ (k : Nat) (x : α), i = (k : Int) ∧ k < l.length ∧ Hid (l[k]? = some x) ∧ Hid (f x = some r) := by
  have h : (idx l i).bind f = some r := H
  unfold idx at h
  by_cases hi : 0 ≤ i
  · rw [if_pos hi] at h
    cases hx : l[i.toNat]? with
    | none => rw [hx] at h; simp at h
    | some x =>
      rw [hx] at h
      exact ⟨i.toNat, x, (Int.toNat_of_nonneg hi).symm, (List.getElem?_eq_some_iff.1 hx).1, hx, h⟩
  · rw [if_neg hi] at h; simp at h
theorem idx_nat {α : Type} (l : List α) (k : Nat) : idx l (k : Int) = l[k]? := by unfold idx; rw [if_pos (by omega)]; simp
end Go.Proofs.Ytbnpdaipgamgkaa.GoP

/- Words for a slice that reads as a list of values, nil and empty let in; for slices of strings; and what becomes of them in later worlds. No condition. -/
namespace Go.Proofs.Ytbnpdaipgamgkaa.Rowed
set_option linter.unusedVariables false
open Go.RowKit

theorem add_block (a : Addr) (n : Nat) : (a.add n).block = a.block := by unfold Addr.add; split <;> rfl
theorem cell_lt {w : World} {a : Addr} {v : Value} (h : w.cell? a = some v) : a.block < w.heap.size := World.block_lt_of_cell? w a h
theorem cell_below {w w' : World} (hb : Below w.heap.size w w') {a : Addr} {v : Value} (hc : w.cell? a = some v) : w'.cell? a = some v := (hb.cell (cell_lt hc)).trans hc
theorem below_drewN (w : World) (m : Nat) : Below w.heap.size w (w.drewN m) := ⟨rfl, rfl, rfl, Nat.le_refl _, fun _ _ => rfl⟩
theorem Below.step {a b c : World} (h : Below a.heap.size a b) (k : Below b.heap.size b c) : Below a.heap.size a c := h.trans (k.mono h.size)

/-- the world has drawn, and nothing else has turned -/
def DrawnTo (w w' : World) : Prop := ∃ m, w' = w.drewN m
theorem DrawnTo.refl (w : World) : DrawnTo w w := ⟨0, rfl⟩
theorem DrawnTo.more {w w' : World} (h : DrawnTo w w') (n : Nat) : DrawnTo w (w'.drewN n) := let ⟨m, e⟩ := h; ⟨m + n, by rw [e, World.drewN_drewN]⟩
theorem DrawnTo.trans {a b c : World} (h : DrawnTo a b) (k : DrawnTo b c) : DrawnTo a c := by
  obtain ⟨m, rfl⟩ := h
  obtain ⟨n, rfl⟩ := k
  exact ⟨m + n, World.drewN_drewN ..⟩
theorem DrawnTo.cell {w w' : World} (h : DrawnTo w w') {a : Addr} {v : Value} (hc : w.cell? a = some v) : w'.cell? a = some v := by
  obtain ⟨m, rfl⟩ := h; exact hc
theorem DrawnTo.below {w w' : World} (h : DrawnTo w w') : Below w.heap.size w w' := by
  obtain ⟨m, rfl⟩ := h; exact below_drewN w m

/-- the slice 'A, n' reads as the cells xs (size cells each element) -/
def Cells (w : World) (size : Nat) (A : Option Addr) (n : Nat) (xs : List Value) : Prop :=
  xs.length = n * size ∧ (0 < xs.length → ∃ ad : Addr, A = some ad ∧ ∀ j u, xs[j]? = some u → w.cell? (ad.add j) = some u)

theorem Cells.below {w w' : World} {size n : Nat} {A : Option Addr} {xs : List Value} (h : Cells w size A n xs) (hb : Below w.heap.size w w') : Cells w' size A n xs :=
  ⟨h.1, fun hn => let ⟨ad, e, hc⟩ := h.2 hn; ⟨ad, e, fun j u hu => cell_below hb (hc j u hu)⟩⟩
theorem Cells.drewN {w : World} {size n : Nat} {A : Option Addr} {xs : List Value} (h : Cells w size A n xs) (m : Nat) : Cells (w.drewN m) size A n xs := h
theorem Cells.nil_ (w : World) (size : Nat) (A : Option Addr) : Cells w size A 0 [] := ⟨by simp, fun h => by simp at h⟩
theorem Cells.at_ {w : World} {n k : Nat} {A : Option Addr} {xs : List Value} (h : Cells w 1 A n xs) (hk : k < n) : ∃ ad u, A = some ad ∧ xs[k]? = some u ∧ w.cell? (ad.add k) = some u := by
  have hl : k < xs.length := by have := h.1; omega
  obtain ⟨ad, e, hc⟩ := h.2 (by omega)
  exact ⟨ad, xs[k], e, List.getElem?_eq_getElem hl, hc k _ (List.getElem?_eq_getElem hl)⟩
theorem Cells.of_own {w : World} {base size n c g : Nat} {e : TypeId} {xs : List Value} (h : w.ownsRow base e size (.slice (some ⟨g, 0, none⟩) n c) n xs) : Cells w size (some ⟨g, 0, none⟩) n xs :=
  ⟨h.1, fun _ => ⟨_, rfl, fun j u hu => h.cells (g := g) rfl j u hu⟩⟩

/-- a row that is filled from the left -/
def fill (a ys : List Value) (k : Nat) : List Value := a.take k ++ ys.drop k
theorem fill_zero (a ys : List Value) : fill a ys 0 = ys := by simp [fill]
theorem fill_all (a ys : List Value) (h : ys.length = a.length) : fill a ys a.length = a := by
  unfold fill; rw [List.take_of_length_le (Nat.le_refl _), ← h, List.drop_of_length_le (Nat.le_refl _), List.append_nil]
theorem fill_set (a ys : List Value) (k : Nat) (u : Value) (hk : k < ys.length) (hu : a[k]? = some u) : (fill a ys k).set k u = fill a ys (k + 1) := by
  have ha := (List.getElem?_eq_some_iff.1 hu).1
  have hau := (List.getElem?_eq_some_iff.1 hu).2
  unfold fill
  have hl : (a.take k).length = k := by rw [List.length_take]; omega
  rw [List.set_append_right _ _ (by omega), hl, Nat.sub_self, List.take_succ_eq_append_getElem ha, hau, List.drop_eq_getElem_cons hk, List.set_cons_zero, List.append_assoc]
  rfl
theorem fill_len (a ys : List Value) (k : Nat) (h : ys.length = a.length) : (fill a ys k).length = ys.length := by
  unfold fill; rw [List.length_append, List.length_take, List.length_drop]; omega

/-- the slice 'A, n' reads as the strings l -/
def Strs (w : World) (A : Option Addr) (n : Nat) (l : List ByteArray) : Prop := Cells w 1 A n (l.map Value.string)
theorem Strs.len {w : World} {A : Option Addr} {n : Nat} {l : List ByteArray} (h : Strs w A n l) : l.length = n := by have := h.1; simpa using this
theorem Strs.below {w w' : World} {A : Option Addr} {n : Nat} {l : List ByteArray} (h : Strs w A n l) (hb : Below w.heap.size w w') : Strs w' A n l := Cells.below h hb
theorem Strs.at_ {w : World} {A : Option Addr} {n k : Nat} {l : List ByteArray} (h : Strs w A n l) (hk : k < n) : ∃ ad x, A = some ad ∧ l[k]? = some x ∧ w.cell? (ad.add k) = some (.string x) := by
  obtain ⟨ad, u, e, hx, hc⟩ := Cells.at_ h hk
  rw [List.getElem?_map] at hx
  cases hl : l[k]? with
  | none => rw [hl] at hx; simp at hx
  | some x => rw [hl] at hx; obtain rfl : Value.string x = u := by simpa using hx
              exact ⟨ad, x, e, rfl, hc⟩

end Go.Proofs.Ytbnpdaipgamgkaa.Rowed

/- Words on what may turn between two worlds: only the blocks of one span; and on rows that lie in a span of blocks, read or owned. No condition. -/
namespace Go.Proofs.Ytbnpdaipgamgkaa.Turn
set_option linter.unusedVariables false
open Go.RowKit
open Go.Proofs.Ytbnpdaipgamgkaa.Rowed

/-- of what was there, only blocks from lo on and below hi may have turned -/
structure Turned (lo hi : Nat) (w w' : World) : Prop where
  os : w'.os = w.os
  tape : w'.tape = w.tape
  output : w'.output = w.output
  size : w.heap.size ≤ w'.heap.size
  block : ∀ k, k < w.heap.size → ¬ (lo ≤ k ∧ k < hi) → w'.heap[k]? = w.heap[k]?
theorem Turned.of_grown {w w' : World} {lo hi : Nat} {r : Option Nat} (h : w.grownBy w' r) (hr : ∀ k, r = some k → lo ≤ k ∧ k < hi) : Turned lo hi w w' :=
  ⟨h.os, h.tape, h.output, h.size, fun k hk hn => h.block k hk (fun e => hn (hr k e.symm))⟩
theorem below_turned {w wr w' : World} {lo hi : Nat} (h : Below w.heap.size w wr) (t : Turned lo hi wr w') (hl : w.heap.size ≤ lo) : Below w.heap.size w w' :=
  ⟨t.os.trans h.os, t.tape.trans h.tape, t.output.trans h.output, Nat.le_trans h.size t.size, fun k hk => (t.block k (Nat.lt_of_lt_of_le hk h.size) (by omega)).trans (h.block k hk)⟩

/-- the slice 'A, n' reads as the cells xs, and they lie in blocks from lo on and below hi -/
structure Rd (w : World) (size lo hi : Nat) (A : Option Addr) (n : Nat) (xs : List Value) : Prop where
  cells : Cells w size A n xs
  span : ∀ ad, A = some ad → 0 < xs.length → lo ≤ ad.block ∧ ad.block < hi
  top : hi ≤ w.heap.size
theorem Rd.below {w w' : World} {size lo hi n : Nat} {A : Option Addr} {xs : List Value} (h : Rd w size lo hi A n xs) (hb : Below w.heap.size w w') : Rd w' size lo hi A n xs :=
  ⟨h.cells.below hb, h.span, Nat.le_trans h.top hb.size⟩
theorem Rd.turned {w w' : World} {size lo hi a b n : Nat} {A : Option Addr} {xs : List Value} (h : Rd w size lo hi A n xs) (t : Turned a b w w') (hd : hi ≤ a ∨ b ≤ lo) : Rd w' size lo hi A n xs :=
  ⟨⟨h.cells.1, fun hn => by
    obtain ⟨ad, e, hc⟩ := h.cells.2 hn
    have hs := h.span ad e hn
    have ht := h.top
    exact ⟨ad, e, fun j u hu => (World.cell?_of_block (by rw [add_block]; exact t.block _ (by omega) (by omega))).trans (hc j u hu)⟩⟩, h.span, Nat.le_trans h.top t.size⟩
/-- cells that came in -/
theorem Rd.came {w : World} {size n : Nat} {A : Option Addr} {xs : List Value} (h : Cells w size A n xs) : Rd w size 0 w.heap.size A n xs :=
  ⟨h, fun ad e hn => by
    obtain ⟨ad', e', hc⟩ := h.2 hn
    obtain rfl : ad = ad' := by rw [e] at e'; exact Option.some.inj e'
    have h0 := cell_lt (hc 0 _ (List.getElem?_eq_getElem hn))
    rw [add_block] at h0
    exact ⟨Nat.zero_le _, h0⟩, Nat.le_refl _⟩

/-- the slice 'A, n, c' is a row of the call's own with the cells xs, in a block from lo on and below hi -/
structure Ow (w : World) (T : TypeId) (size lo hi : Nat) (A : Option Addr) (n c : Nat) (xs : List Value) : Prop where
  own : w.ownsRow lo T size (.slice A n c) n xs
  span : ∀ q, (Value.slice A n c).ownBlock = some q → q < hi
  top : hi ≤ w.heap.size
theorem Ow.of {w : World} {T : TypeId} {size lo n c : Nat} {A : Option Addr} {xs : List Value} (h : w.ownsRow lo T size (.slice A n c) n xs) : Ow w T size lo w.heap.size A n c xs :=
  ⟨h, fun q hq => (h.lt q hq).2, Nat.le_refl _⟩
theorem Ow.kept {w w' : World} {T : TypeId} {size lo hi a b n c : Nat} {A : Option Addr} {xs : List Value} (h : Ow w T size lo hi A n c xs) (t : Turned a b w w') (hd : hi ≤ a ∨ b ≤ lo) : w'.ownsRow lo T size (.slice A n c) n xs := by
  refine ⟨h.own.1, ?_⟩
  rcases h.own.2 with h0 | ⟨g, cap, cur, hv, hb, hh, rest⟩
  · exact .inl h0
  · have hg : g < hi := h.span g (by rw [hv]; rfl)
    have ht := h.top
    exact .inr ⟨g, cap, cur, hv, hb, (t.block g (by omega) (by omega)).trans hh, rest⟩
theorem Ow.turned {w w' : World} {T : TypeId} {size lo hi a b n c : Nat} {A : Option Addr} {xs : List Value} (h : Ow w T size lo hi A n c xs) (t : Turned a b w w') (hd : hi ≤ a ∨ b ≤ lo) : Ow w' T size lo hi A n c xs :=
  ⟨h.kept t hd, h.span, Nat.le_trans h.top t.size⟩
theorem Turned.of_below {w w' : World} (h : Below w.heap.size w w') : Turned 0 0 w w' := ⟨h.os, h.tape, h.output, h.size, fun k hk _ => h.block k hk⟩
theorem Ow.below {w w' : World} {T : TypeId} {size lo hi n c : Nat} {A : Option Addr} {xs : List Value} (h : Ow w T size lo hi A n c xs) (hb : Below w.heap.size w w') : Ow w' T size lo hi A n c xs :=
  h.turned (Turned.of_below hb) (.inr (Nat.zero_le _))
theorem own_cells {w : World} {base n c size : Nat} {A : Option Addr} {e : TypeId} {xs : List Value} (h : w.ownsRow base e size (.slice A n c) n xs) : Cells w size A n xs := by
  rcases h.2 with ⟨hv, h0⟩ | ⟨g, cap, cur, hv, _⟩
  · subst h0
    have := h.1
    exact ⟨this, fun hn => by rw [Nat.zero_mul] at this; omega⟩
  · injection hv with e1 e2 e3
    subst e1
    exact Cells.of_own h
theorem Ow.cells {w : World} {T : TypeId} {size lo hi n c : Nat} {A : Option Addr} {xs : List Value} (h : Ow w T size lo hi A n c xs) : Cells w size A n xs := own_cells h.own
/-- what is read only -/
theorem Ow.rd {w : World} {T : TypeId} {size lo hi n c : Nat} {A : Option Addr} {xs : List Value} (h : Ow w T size lo hi A n c xs) : Rd w size lo hi A n xs :=
  ⟨h.cells, fun ad e hn => by
    rcases h.own.2 with ⟨hv, h0⟩ | ⟨g, cap, cur, hv, hb, _⟩
    · have := h.own.1
      rw [h0, Nat.zero_mul] at this
      omega
    · have hg : g < hi := h.span g (by rw [hv]; rfl)
      injection hv with e1 e2 e3
      subst e1
      obtain rfl := Option.some.inj e
      exact ⟨hb, hg⟩, h.top⟩
/-- a mark, or another writing of one row -/
theorem Ow.writes {w w' : World} {T : TypeId} {size lo hi n c : Nat} {A : Option Addr} {xs : List Value} (h : Ow w T size lo hi A n c xs) (hg : w.grownBy w' (Value.slice A n c).ownBlock) : Turned lo hi w w' :=
  Turned.of_grown hg (fun k hk => ⟨(h.own.lt k hk).1, h.span k hk⟩)
theorem Ow.written {w w' : World} {T : TypeId} {size lo hi n c : Nat} {A : Option Addr} {xs ys : List Value} (h : Ow w T size lo hi A n c xs) (hs : w.heap.size ≤ w'.heap.size) (ho : w'.ownsRow lo T size (.slice A n c) n ys) : Ow w' T size lo hi A n c ys :=
  ⟨ho, h.span, Nat.le_trans h.top hs⟩

/-- the answer has no memory, and nothing has turned -/
def Gives (v : Value) (w : World) (e : Ending) (w' : World) : Prop := e = .returned v ∧ Below w.heap.size w w'
end Go.Proofs.Ytbnpdaipgamgkaa.Turn

/- Small words on types' facts, on classes of worlds, and on rows that are written. No condition. -/
namespace Go.Proofs.Ytbnpdaipgamgkaa.Aid
set_option linter.unusedVariables false
open Go.RowKit
open Go.Proofs.Ytbnpdaipgamgkaa.Rowed Go.Proofs.Ytbnpdaipgamgkaa.Turn

theorem info_parts {P : Program} {T : TypeId} {z : Value} {s b : Nat} (h : (P.info? T).map (fun i => (i.zero, i.size, i.bytes)) = some (some z, s, b)) : ∃ i, P.info? T = some i ∧ i.zero = some z ∧ i.size = s ∧ i.bytes = b := by
  cases hi : P.info? T with
  | none => rw [hi] at h; simp at h
  | some i => rw [hi] at h; simp at h; exact ⟨i, rfl, h.1, h.2.1, h.2.2⟩
theorem below_class {X Y : World} (h : ∃ p : Regrown, Y = Go.Sort.grow (redrawn X p.d) p.os) : Below X.heap.size X Y := by
  obtain ⟨⟨d, os⟩, rfl⟩ := h; exact below_regrown _ _ _
theorem grown_of {W W' : World} (h : Below W.heap.size W W') : W.grownBy W' none := ⟨h.os, h.tape, h.output, h.size, fun k hk _ => h.block k hk⟩
theorem grown_weak {W W' : World} (h : W.grownBy W' none) (g : Nat) : W.grownBy W' (some g) := ⟨h.os, h.tape, h.output, h.size, fun k hk _ => h.block k hk (by simp)⟩
theorem grown_tr {a b c : World} {r : Option Nat} (h : a.grownBy b r) (k : b.grownBy c r) : a.grownBy c r :=
  ⟨k.os.trans h.os, k.tape.trans h.tape, k.output.trans h.output, Nat.le_trans h.size k.size, fun i hi hr => (k.block i (Nat.lt_of_lt_of_le hi h.size) hr).trans (h.block i hi hr)⟩
theorem grown_refl (w : World) (r : Option Nat) : w.grownBy w r := ⟨rfl, rfl, rfl, Nat.le_refl _, fun _ _ _ => rfl⟩
theorem ret_int {k : IntKind} {a b : Int} (h : a = b) : Ending.returned (.int k a) = .returned (.int k b) := by rw [h]
theorem ret_bool {a b : Bool} (h : a = b) : Ending.returned (.bool a) = .returned (.bool b) := by rw [h]
end Go.Proofs.Ytbnpdaipgamgkaa.Aid

/- Words on memory for the contracts of plain functions. No condition. -/
namespace Go.Proofs.Ytbnpdaipgamgkaa.GoM
set_option linter.unusedVariables false
open Go.RowKit
open Go.Proofs.Ytbnpdaipgamgkaa.Rowed Go.Proofs.Ytbnpdaipgamgkaa.Turn

theorem box_new (w : World) (cs : List Value) (T : TypeId) (j : Nat) (u : Value) (h : cs[j]? = some u) : (w.alloc (.cells ⟨cs⟩ T)).cell? ⟨w.heap.size, j, none⟩ = some u := by
  have hb : (w.alloc (.cells ⟨cs⟩ T)).heap[w.heap.size]? = some (.cells ⟨cs⟩ T) := heap_alloc_new w _
  unfold World.cell?
  rw [hb]
  simpa using h
theorem size_list (s : ByteArray) : s.toList.length = s.size := by rw [Lib.toList_data]; rfl
theorem byte_rule {s : ByteArray} {n : Nat} {y : UInt8} (l : n < s.toList.length) (g : s.toList[n]? = some y) : ∀ h : n < s.size, s[n]'h = y := by
  intro h
  have e := List.getElem?_eq_getElem l
  rw [g] at e
  have := Option.some.inj e
  rw [this]
  simp [Lib.toList_data]
  rfl
theorem own_empty {w wc : World} {T K : Nat} (h : w.heap.size ≤ wc.heap.size) : (wc.alloc (.cells #[] T)).ownsRow w.heap.size T K (.slice (some ⟨wc.heap.size, 0, none⟩) 0 0) 0 [] :=
  ⟨by simp, .inr ⟨wc.heap.size, 0, #[], rfl, h, heap_alloc_new wc _, Nat.le_refl _, by unfold maxLen; omega, by simp, by simp⟩⟩
theorem own_laid {w wc : World} {T K n : Nat} {cs : List Value} {xs : List Value} (h : w.heap.size ≤ wc.heap.size) (hx : cs = xs) (hl : cs.length = n * K) (hn : n ≤ maxLen) : (wc.alloc (.cells ⟨cs⟩ T)).ownsRow w.heap.size T K (.slice (some ⟨wc.heap.size, 0, none⟩) n n) n xs := by
  subst hx
  exact ⟨hl, .inr ⟨wc.heap.size, n, ⟨cs⟩, rfl, h, heap_alloc_new wc _, Nat.le_refl _, hn, by simpa using hl, by rw [← hl]; simp⟩⟩
theorem add_flat (b o n : Nat) : (⟨b, o, none⟩ : Addr).add n = ⟨b, o + n, none⟩ := by
  unfold Addr.add; split
  · rename_i h; subst h; rfl
  · rfl
theorem strs_at {w : World} {A : Option Addr} {n k : Nat} {l : List ByteArray} (h : Cells w 1 A n (l.map Value.string)) (hk : k < n) : ∃ (b o : Nat) (x : ByteArray), A = some ⟨b, o, none⟩ ∧ l[k]? = some x ∧ w.cell? ⟨b, o + k, none⟩ = some (.string x) := by
  have hl : k < l.length := by have := h.1; rw [List.length_map] at this; omega
  obtain ⟨⟨b, o, sp⟩, e, hc⟩ := h.2 (by rw [List.length_map]; omega)
  have h0 := hc 0 (.string l[0]) (by rw [List.getElem?_map, List.getElem?_eq_getElem (show 0 < l.length by omega)]; rfl)
  obtain rfl : sp = none := cell_spot (b := b) (o := o) h0
  have hs := List.getElem?_eq_getElem hl
  have := hc k (.string l[k]) (by rw [List.getElem?_map, hs]; rfl)
  rw [add_flat] at this
  exact ⟨b, o, l[k], e, hs, this⟩
theorem bools_at {w : World} {A : Option Addr} {n k : Nat} {l : List Bool} (h : Cells w 1 A n (l.map Value.bool)) (hk : k < n) : ∃ (b o : Nat) (x : Bool), A = some ⟨b, o, none⟩ ∧ l[k]? = some x ∧ w.cell? ⟨b, o + k, none⟩ = some (.bool x) := by
  have hl : k < l.length := by have := h.1; rw [List.length_map] at this; omega
  obtain ⟨⟨b, o, sp⟩, e, hc⟩ := h.2 (by rw [List.length_map]; omega)
  have h0 := hc 0 (.bool l[0]) (by rw [List.getElem?_map, List.getElem?_eq_getElem (show 0 < l.length by omega)]; rfl)
  obtain rfl : sp = none := cell_spot (b := b) (o := o) h0
  have hs := List.getElem?_eq_getElem hl
  have := hc k (.bool l[k]) (by rw [List.getElem?_map, hs]; rfl)
  rw [add_flat] at this
  exact ⟨b, o, l[k], e, hs, this⟩
theorem own_nil {w : World} {b T K : Nat} : w.ownsRow b T K (.slice none 0 0) 0 [] := ⟨by simp, .inl ⟨rfl, rfl⟩⟩
theorem own_lower {w : World} {b base n size : Nat} {v : Value} {e : TypeId} {xs : List Value} (h : w.ownsRow base e size v n xs) (hb : b ≤ base) : w.ownsRow b e size v n xs :=
  ⟨h.1, by
    rcases h.2 with h0 | ⟨g, cap, cur, hv, hb', rest⟩
    · exact .inl h0
    · exact .inr ⟨g, cap, cur, hv, Nat.le_trans hb hb', rest⟩⟩
theorem own_below {w w' : World} {base n size : Nat} {v : Value} {e : TypeId} {xs : List Value} (h : w.ownsRow base e size v n xs) (hb : Below w.heap.size w w') : w'.ownsRow base e size v n xs :=
  h.kept (Aid.grown_of hb) (by cases v.ownBlock <;> simp)
theorem own_push {α : Type} {f : List α → List Value} {cx : List Value} {l t : List α} {x : α} {w' : World} {b T K : Nat} {v' : Value} {n : Nat} (ht : l ++ [x] = t) (hf : f (l ++ [x]) = f l ++ cx) (hn : l.length = n) (h : w'.ownsRow b T K v' (n + 1) (f l ++ cx)) :
    ∃ g cap, v' = .slice (some ⟨g, 0, none⟩) t.length cap ∧ w'.ownsRow b T K (.slice (some ⟨g, 0, none⟩) t.length cap) t.length (f t) := by
  subst ht
  subst hn
  have el : (l ++ [x]).length = l.length + 1 := by simp
  obtain ⟨g, cap, rfl⟩ : ∃ g cap, v' = .slice (some ⟨g, 0, none⟩) (l.length + 1) cap := by
    rcases h.2 with ⟨_, h⟩ | ⟨g3, cap3, _, h, _⟩
    · omega
    · exact ⟨g3, cap3, h⟩
  exact ⟨g, cap, by rw [el], by rw [el, hf]; exact h⟩
theorem news_new {w w2 : World} {cs : List Value} {T : TypeId} (h : w.alloc (.cells ⟨cs⟩ T) = w2) : ∀ j u, cs[j]? = some u → w2.cell? ((⟨w.heap.size, 0, none⟩ : Addr).add j) = some u := by
  intro j u hu
  subst h
  have : (⟨w.heap.size, 0, none⟩ : Addr).add j = ⟨w.heap.size, j, none⟩ := by
    unfold Addr.add; split
    · rename_i hj; subst hj; rfl
    · simp
  rw [this]
  exact box_new w cs T j u hu
theorem one_cells {l : List Value} (h : l.all (fun u => u.oneCell') = true) : ∀ u ∈ l, u.oneCell' = true := fun u hu => List.all_eq_true.1 h u hu
theorem cat_rule {P : Program} {a b c : ByteArray} (h : a ++ b = c) (hl : a.size + b.size ≤ maxLen) : ∀ W, (Op.stringOp .add a b).run P W = .ok (.string c) W := by
  intro W
  rw [run_string_add_sum]
  · subst h; rfl
  · unfold maxLen at hl; omega
theorem slice_both {P : Program} {t : TypeId} {s c : ByteArray} {k k' : IntKind} {i j : Int} (hu : P.underlying t = some .string) (h : s.extract i.toNat j.toNat = c) (hl : 0 ≤ i ∧ i ≤ j ∧ j ≤ (s.size : Int)) :
    ∀ W, (Instr.slice t (.string s) (some (.int k i)) (some (.int k' j)) none).run P W = .ok (.string c) W := by
  intro W
  rw [run_slice_string_if _ _ _ _ _ _ _ hu, if_pos ⟨by omega, hl.2.2⟩, if_pos ⟨hl.1, hl.2.1⟩, h]
theorem slice_from {P : Program} {t : TypeId} {s c : ByteArray} {k : IntKind} {i : Int} (hu : P.underlying t = some .string) (h : s.extract i.toNat s.size = c) (hl : 0 ≤ i ∧ i ≤ (s.size : Int)) :
    ∀ W, (Instr.slice t (.string s) (some (.int k i)) none none).run P W = .ok (.string c) W := by
  intro W
  rw [run_slice_string_from_if _ _ _ _ _ hu, if_pos hl, h]
theorem slice_to {P : Program} {t : TypeId} {s c : ByteArray} {k : IntKind} {j : Int} (hu : P.underlying t = some .string) (h : s.extract 0 j.toNat = c) (hl : 0 ≤ j ∧ j ≤ (s.size : Int)) :
    ∀ W, (Instr.slice t (.string s) none (some (.int k j)) none).run P W = .ok (.string c) W := by
  intro W
  rw [run_slice_string_to_if _ _ _ _ _ hu, if_pos hl, h]
theorem results_tmp4 {fn : Func} {t u v x : Tmp} (h : fn.results = #[.tmp t, .tmp u, .tmp v, .tmp x]) (tmps : Array Value) (P : Program) (w : World) :
    (results fn tmps).run P w = .ok (.tuple #[tmps.getD t undef, tmps.getD u undef, tmps.getD v undef, tmps.getD x undef]) w := by
  simp [results, h]
/-- the walk stands here -/
def Stop (p : Prop) : Prop := p
theorem stop_in {p : Prop} (h : Stop p) : p := h
theorem stop_out {p : Prop} (h : p) : Stop p := h
/-- two rows lie in different blocks -/
def Apart (A B : Option Addr) : Prop := ∀ a b, A = some a → B = some b → a.block ≠ b.block
theorem Apart.symm {A B : Option Addr} (h : Apart A B) : Apart B A := fun a b ha hb e => h b a hb ha e.symm
theorem own_lt {w : World} {b T K n m c : Nat} {A : Option Addr} {xs : List Value} (h : w.ownsRow b T K (.slice A m c) n xs) (a : Addr) (ha : A = some a) : b ≤ a.block ∧ a.block < w.heap.size := by
  subst ha
  exact h.lt a.block rfl
theorem apart_fresh {w : World} {b T K n m c : Nat} {A : Option Addr} {xs : List Value} (h : w.ownsRow b T K (.slice A m c) n xs) : Apart (some ⟨w.heap.size, 0, none⟩) A := by
  intro a a' ha ha' e
  have := (own_lt h a' ha').2
  injection ha with ha
  subst ha
  simp at e
  omega
theorem apart_call {w w1 : World} {b T K n m c T' K' n' m' c' : Nat} {A B : Option Addr} {xs ys : List Value} (h1 : w1.ownsRow w.heap.size T K (.slice A m c) n xs) (h : w.ownsRow b T' K' (.slice B m' c') n' ys) : Apart A B := by
  intro a a' ha ha' e
  have := (own_lt h a' ha').2
  have := (own_lt h1 a ha).1
  omega
theorem apart_box {w : World} {g j : Nat} {v : Value} (h : w.cell? ⟨g, j, none⟩ = some v) : Apart (some ⟨w.heap.size, 0, none⟩) (some ⟨g, 0, none⟩) := by
  intro a a' ha ha' e
  have hl : g < w.heap.size := cell_lt h
  injection ha with ha
  injection ha' with ha'
  subst ha
  subst ha'
  simp at e
  omega
theorem apart_callbox {w w1 : World} {T K n m c g j : Nat} {A : Option Addr} {xs : List Value} {v : Value} (h1 : w1.ownsRow w.heap.size T K (.slice A m c) n xs) (h : w.cell? ⟨g, j, none⟩ = some v) : Apart A (some ⟨g, 0, none⟩) := by
  intro a a' ha ha' e
  have hl : g < w.heap.size := cell_lt h
  have := (own_lt h1 a ha).1
  injection ha' with ha'
  subst ha'
  simp at e
  omega
theorem apart_app {w : World} {n c n' c' : Nat} {A A' B : Option Addr} (hD : Apart A B) (hB : ∀ a, B = some a → a.block < w.heap.size) (h : (Value.slice A' n' c').ownBlock = (Value.slice A n c).ownBlock ∨ (Value.slice A' n' c').ownBlock = some w.heap.size) : Apart A' B := by
  intro a a' ha ha' e
  have hl := hB a' ha'
  subst ha
  rcases h with h | h
  · cases A with
    | none => simp [Value.ownBlock] at h
    | some x => simp only [Value.ownBlock, Option.some.injEq] at h; exact hD x a' rfl ha' (h ▸ e)
  · simp only [Value.ownBlock, Option.some.injEq] at h; omega
theorem own_other {w w' : World} {b T K n m c n' c' : Nat} {A B : Option Addr} {ys : List Value} (h : w.ownsRow b T K (.slice B m c) n ys) (hg : w.grownBy w' (Value.slice A n' c').ownBlock) (hD : Apart A B) : w'.ownsRow b T K (.slice B m c) n ys := by
  refine h.kept hg ?_
  cases B with
  | none => exact .inl rfl
  | some y =>
    refine .inr ?_
    cases A with
    | none => simp [Value.ownBlock]
    | some x => simp only [Value.ownBlock, ne_eq, Option.some.injEq]; exact fun e => hD x y rfl rfl e.symm
theorem cell_other {w w' : World} {n' c' : Nat} {A : Option Addr} {a : Addr} {v : Value} (h : w.cell? a = some v) (hg : w.grownBy w' (Value.slice A n' c').ownBlock) (hD : Apart A (some ⟨a.block, 0, none⟩)) : w'.cell? a = some v := by
  rw [World.cell?_of_block (hg.block a.block (cell_lt h) ?_)]
  · exact h
  · cases A with
    | none => simp [Value.ownBlock]
    | some x => simp only [Value.ownBlock, ne_eq, Option.some.injEq]; exact fun e => hD x _ rfl rfl e.symm
theorem apart_old {wr : World} {b T K n m c g : Nat} {A : Option Addr} {xs : List Value} (h : wr.ownsRow b T K (.slice A m c) n xs) (hg : g < b) : Apart A (some ⟨g, 0, none⟩) := by
  intro a a' ha ha' e
  have := (own_lt h a ha).1
  injection ha' with ha'
  subst ha'
  simp at e
  omega
theorem own_len {w : World} {b T K n m c : Nat} {A : Option Addr} {xs : List Value} (h : m = n) (hO : w.ownsRow b T K (.slice A n c) n xs) : w.ownsRow b T K (.slice A m c) m xs := by subst h; exact hO
theorem own_max {w : World} {b T K n c : Nat} {A : Option Addr} {xs : List Value} (h : w.ownsRow b T K (.slice A n c) n xs) : n ≤ 9223372036854775807 := by
  rcases h.2 with ⟨_, h0⟩ | ⟨g, cap, cur, hv, _, _, h1, h2, _⟩
  · omega
  · unfold maxLen at h2; omega
theorem grown_below {w wr w2 : World} {q : Option Nat} (h : w.grownBy wr q) (hb : Below wr.heap.size wr w2) : w.grownBy w2 q :=
  Aid.grown_tr h ⟨hb.os, hb.tape, hb.output, hb.size, fun k hk _ => hb.block k hk⟩
theorem own_some {w : World} {b T K n c : Nat} {A : Option Addr} {xs : List Value} (h : w.ownsRow b T K (.slice A n c) n xs) (hn : 0 < n) : ∃ g, A = some ⟨g, 0, none⟩ := by
  rcases h.2 with ⟨_, h0⟩ | ⟨g, cap, cur, hv, _⟩
  · omega
  · injection hv with e1; exact ⟨g, e1⟩
theorem own_stores {b T K n c g : Nat} (ps : List (Nat × Value)) : ∀ {w : World} {xs : List Value}, w.ownsRow b T K (.slice (some ⟨g, 0, none⟩) n c) n xs →
    (ps.foldl (fun w p => w.setCell ⟨g, p.1, none⟩ p.2) w).ownsRow b T K (.slice (some ⟨g, 0, none⟩) n c) n (ps.foldl (fun xs p => xs.set p.1 p.2) xs) ∧ w.grownBy (ps.foldl (fun w p => w.setCell ⟨g, p.1, none⟩ p.2) w) (some g) := by
  induction ps with
  | nil => intro w xs h; exact ⟨h, Aid.grown_refl _ _⟩
  | cons p ps ih =>
    intro w xs h
    have h1 := h.stored p.1 p.2
    have h2 := ih h1.1
    exact ⟨h2.1, Aid.grown_tr h1.2 h2.2⟩
theorem flat_set {α : Type} (f : α → List Value) (K : Nat) (hK : ∀ x, (f x).length = K) : ∀ (l : List α) (k j : Nat) (s1 s2 : α) (v : Value), k < l.length → j < K → (f s1).set j v = f s2 → ((l.set k s1).flatMap f).set (k * K + j) v = (l.set k s2).flatMap f := by
  intro l
  induction l with
  | nil => intro k j s1 s2 v hk; simp at hk
  | cons x l ih =>
    intro k j s1 s2 v hk hj hc
    cases k with
    | zero =>
      simp only [List.set_cons_zero, List.flatMap_cons, Nat.zero_mul, Nat.zero_add]
      rw [List.set_append_left _ _ (by rw [hK]; exact hj), hc]
    | succ k =>
      simp only [List.set_cons_succ, List.flatMap_cons]
      rw [List.set_append_right _ _ (by rw [hK, Nat.add_mul]; omega), hK, show (k + 1) * K + j - K = k * K + j by rw [Nat.add_mul]; omega, ih k j s1 s2 v (by simpa using hk) hj hc]
theorem set_self {α : Type} {l : List α} {k : Nat} {x : α} (h : l[k]? = some x) : l.set k x = l := by
  obtain ⟨hk, e⟩ := List.getElem?_eq_some_iff.1 h
  rw [← e]; simp
theorem map_flat {α : Type} (g : α → Value) (l : List α) : l.map g = l.flatMap (fun x => [g x]) := by
  induction l with
  | nil => rfl
  | cons x l ih => simp [List.flatMap_cons, ih]
theorem made_flat {α : Type} (f : α → List Value) (x0 : α) (z : Value) (K n : Nat) (hz : z.cells.toList = f x0) (hK : z.cells.size = K) (hp : 0 < K) : (madeCells z.cells (n * K)).toList = (List.replicate n x0).flatMap f := by
  have hl : (f x0).length = K := by rw [← hz, ← hK]; simp
  have hr : ∀ n, (List.range (n * K)).map (fun i => z.cells[i % z.cells.size]!) = (List.replicate n x0).flatMap f := by
    intro n
    induction n with
    | zero => simp
    | succ n ih =>
      rw [List.replicate_succ', List.flatMap_append, ← ih, Nat.add_mul, Nat.one_mul, List.range_add, List.map_append]
      congr 1
      simp only [List.map_map, List.flatMap_cons, List.flatMap_nil, List.append_nil]
      apply List.ext_getElem
      · simp [hl]
      · intro i h1 h2
        have hi : i < K := by simpa using h1
        simp only [List.getElem_map, List.getElem_range, Function.comp]
        rw [hK, Nat.add_comm, Nat.add_mul_mod_self_right, Nat.mod_eq_of_lt hi]
        have h3 : i < z.cells.size := by omega
        rw [getElem!_pos z.cells i h3]
        have : z.cells.toList[i]'(by simpa using h3) = z.cells[i] := by simp
        rw [← this]
        congr 1
  unfold madeCells
  rw [← hr n]
  simp
/-- a row is no longer than its room; nil has none -/
def Room (A : Option Addr) (n c : Nat) : Prop := n ≤ c ∧ (A = none → c = 0)
theorem own_room {w : World} {b T K n c : Nat} {A : Option Addr} {xs : List Value} (h : w.ownsRow b T K (.slice A n c) n xs) : Room A n c := by
  rcases h.2 with ⟨h1, h2⟩ | ⟨g, cap, cur, h1, _, _, hr, _⟩
  · simp only [Value.slice.injEq] at h1
    exact ⟨by omega, fun _ => by omega⟩
  · simp only [Value.slice.injEq] at h1
    exact ⟨by omega, fun e => by rw [h1.1] at e; simp at e⟩
theorem flat_drop {α : Type} (f : α → List Value) (K : Nat) (hK : ∀ x, (f x).length = K) : ∀ (l : List α) (j : Nat), (l.flatMap f).drop (j * K) = (l.drop j).flatMap f := by
  intro l
  induction l with
  | nil => intro j; simp
  | cons x l ih =>
    intro j
    cases j with
    | zero => simp
    | succ j =>
      have e : (j + 1) * K = (f x).length + j * K := by rw [hK x, Nat.add_mul]; omega
      rw [List.flatMap_cons, e, List.drop_append, List.drop_of_length_le (by omega), List.drop_succ_cons, ← ih j]
      simp
/-- s[lo:] of a row that came in -/
theorem slice_tail {P : Program} {t e : TypeId} {i : TypeInfo} {k : IntKind} {K n c : Nat} {A : Option Addr} {lo : Int} {w : World} {xs ys : List Value} {m : Nat}
    (ht : P.underlying t = some (.slice (P.elem t))) (he : P.elem t = e) (hi : P.info? e = some i) (hs : i.size = K) (hc : Cells w K A n xs) (hR : Room A n c) (hl : 0 ≤ lo ∧ lo ≤ (n : Int)) (hm : n - lo.toNat = m) (hd : xs.drop (lo.toNat * K) = ys) :
    ∃ A' c', (∀ W, (Instr.slice t (.slice A n c) (some (.int k lo)) none none).run P W = .ok (.slice A' m c') W) ∧ Cells w K A' m ys ∧ Room A' m c' := by
  subst hm; subst hd
  have hr := hR.1
  have hsz : ∀ W, (sizeOf (P.elem t)).run P W = .ok K W := by intro W; subst he; simp [sizeOf, typeInfo, hi, hs]
  refine ⟨if c = lo.toNat then A else A.map (·.add (lo.toNat * K)), c - lo.toNat, ?_, ?_, ⟨by omega, fun e => by
    have : A = none := by
      by_cases h : c = lo.toNat
      · rw [if_pos h] at e; exact e
      · rw [if_neg h] at e; simpa using e
    have := hR.2 this; omega⟩⟩
  · intro W
    rw [run_slice_l (P := P) W t A n c ht k lo hl.1 hl.2, hsz W]
    rfl
  · refine ⟨by rw [List.length_drop, hc.1, Nat.sub_mul], fun h0 => ?_⟩
    rw [List.length_drop] at h0
    obtain ⟨ad, rfl, h⟩ := hc.2 (by omega)
    have h1 := hc.1
    have hne : ¬ c = lo.toNat := by
      intro e2
      have : n = lo.toNat := by omega
      rw [h1, this] at h0; omega
    refine ⟨ad.add (lo.toNat * K), by rw [if_neg hne]; rfl, fun j u hu => ?_⟩
    rw [List.getElem?_drop] at hu
    have := h _ u hu
    rwa [Go.Deep.add_add]
theorem flat_take {α : Type} (f : α → List Value) (K : Nat) (hK : ∀ x, (f x).length = K) : ∀ (l : List α) (j : Nat), (l.flatMap f).take (j * K) = (l.take j).flatMap f := by
  intro l
  induction l with
  | nil => intro j; simp
  | cons x l ih =>
    intro j
    cases j with
    | zero => simp
    | succ j =>
      have e : (j + 1) * K = (f x).length + j * K := by rw [hK x, Nat.add_mul]; omega
      rw [List.flatMap_cons, e, List.take_append, List.take_of_length_le (by omega), List.take_succ_cons, List.flatMap_cons, ← ih j]
      simp
/-- s[:hi] of a row of its own -/
theorem slice_head {P : Program} {t e : TypeId} {i : TypeInfo} {k : IntKind} {K n c b : Nat} {A : Option Addr} {hi : Int} {w : World} {xs ys : List Value} {m : Nat}
    (ht : P.underlying t = some (.slice (P.elem t))) (he : P.elem t = e) (hi_ : P.info? e = some i) (hs : i.size = K) (h : w.ownsRow b e K (.slice A n c) n xs) (hl : 0 ≤ hi ∧ hi ≤ (n : Int)) (hm : hi.toNat = m) (hd : xs.take (hi.toNat * K) = ys) :
    (∀ W, (Instr.slice t (.slice A n c) none (some (.int k hi)) none).run P W = .ok (.slice A m c) W) ∧ w.ownsRow b e K (.slice A m c) m ys := by
  subst hm; subst hd
  have hR := own_room h
  have hsz : ∀ W, (sizeOf (P.elem t)).run P W = .ok K W := by intro W; subst he; simp [sizeOf, typeInfo, hi_, hs]
  have hz : ∀ a : Addr, a.add 0 = a := by intro a; unfold Addr.add; simp
  refine ⟨fun W => ?_, ?_, ?_⟩
  · rw [run_slice_h (P := P) W t A n c ht k hi hl.1 (by have := hR.1; omega), hsz W]
    cases A <;> simp [Result.andThen, sliced, hz]
  · rw [List.length_take, h.1]
    exact Nat.min_eq_left (Nat.mul_le_mul_right K (by omega))
  · rcases h.2 with ⟨h1, h2⟩ | ⟨g, cap, cur, h1, h2, h3, h4, h5, h6, h7⟩
    · simp only [Value.slice.injEq] at h1
      left
      have : hi.toNat = 0 := by omega
      exact ⟨by rw [h1.1, h1.2.2, this], this⟩
    · simp only [Value.slice.injEq] at h1
      right
      refine ⟨g, cap, cur, by rw [h1.1, h1.2.2], h2, h3, by omega, h5, h6, ?_⟩
      rw [← h7, List.take_take, Nat.min_eq_left (Nat.mul_le_mul_right K (by omega))]
/-- s[:hi] of a row that came in -/
theorem slice_headB {P : Program} {t e : TypeId} {i : TypeInfo} {k : IntKind} {K n c : Nat} {A : Option Addr} {hi : Int} {w : World} {xs ys : List Value} {m : Nat}
    (ht : P.underlying t = some (.slice (P.elem t))) (he : P.elem t = e) (hi_ : P.info? e = some i) (hs : i.size = K) (h : Cells w K A n xs) (hR : Room A n c) (hl : 0 ≤ hi ∧ hi ≤ (n : Int)) (hm : hi.toNat = m) (hd : xs.take (hi.toNat * K) = ys) :
    (∀ W, (Instr.slice t (.slice A n c) none (some (.int k hi)) none).run P W = .ok (.slice A m c) W) ∧ Cells w K A m ys ∧ Room A m c := by
  subst hm; subst hd
  have hsz : ∀ W, (sizeOf (P.elem t)).run P W = .ok K W := by intro W; subst he; simp [sizeOf, typeInfo, hi_, hs]
  have hz : ∀ a : Addr, a.add 0 = a := by intro a; unfold Addr.add; simp
  refine ⟨fun W => ?_, ⟨?_, fun h0 => ?_⟩, ⟨by have := hR.1; omega, hR.2⟩⟩
  · rw [run_slice_h (P := P) W t A n c ht k hi hl.1 (by have := hR.1; omega), hsz W]
    cases A <;> simp [Result.andThen, sliced, hz]
  · rw [List.length_take, h.1]
    exact Nat.min_eq_left (Nat.mul_le_mul_right K (by omega))
  · rw [List.length_take] at h0
    obtain ⟨ad, e, hc⟩ := h.2 (by omega)
    refine ⟨ad, e, fun j u hu => hc j u ?_⟩
    have := List.getElem?_take (l := xs) (i := hi.toNat * K) (j := j)
    rw [this] at hu
    split at hu
    · exact hu
    · cases hu
/-- append(a, b...) onto a row of its own -/
theorem append_spread {P : Program} {w : World} {ops : Array Oper} {rest : List Oper} {o : Oper} {a : Act} {Q : Exit → Act → World → Prop} (hgd : o.guard = none) (s x : Operand) (t : TypeId)
    (ho : o.op = .call { callee := .builtin .append, args := #[s, x], argTypes := #[t, t] })
    (base : Nat) (e : TypeId) (i : TypeInfo) (z : Value) (size bytes : Nat) (ht : P.underlying t = some (.slice e)) (hi : P.info? e = some i) (hz : i.zero = some z)
    (hsize : i.size = size) (hby : i.bytes = bytes) (hzs : z.cells.size = size) (hsz : 0 < size)
    (A1 : Option Addr) (c1 n : Nat) (xs : List Value) (hs : a.eval s = .slice A1 n c1) (hown : w.ownsRow base e size (.slice A1 n c1) n xs)
    (A : Option Addr) (m c : Nat) (news : List Value) (hx : a.eval x = .slice A m c) (hN : Room A m c) (hc : Cells w size A m news) (h1 : ∀ u ∈ news, u.oneCell' = true)
    (h63 : n + m ≤ maxLen) (hbytes : (n + m) * bytes ≤ 140737488355328) (hbase : base ≤ w.heap.size)
    (h : ∀ v' w', w'.ownsRow base e size v' (n + m) (xs ++ news) → w.grownBy w' (Value.slice A1 n c1).ownBlock → (v'.ownBlock = (Value.slice A1 n c1).ownBlock ∨ v'.ownBlock = some w.heap.size) → wpList P ops Q rest (a.put o.dst v') w') :
    wpList P ops Q (o :: rest) a w := by
  cases A with
  | some ad =>
    refine wpList_append_own_at w hgd s x t ho base e i z size bytes ht hi hz hsize hby hzs hsz _ n xs hs hown ad m c news hx hc.1 (fun j u hu => ?_) h1 h63 hbytes hbase (fun v' w' o1 g1 _ y1 => h v' w' o1 g1 y1)
    obtain ⟨ad', e', hcell⟩ := hc.2 (by have := (List.getElem?_eq_some_iff.1 hu).1; omega)
    obtain rfl : ad = ad' := Option.some.inj e'
    exact hcell j u hu
  | none =>
    have hm : m = 0 := by
      cases news with
      | nil =>
        have h0 : ([] : List Value).length = m * size := hc.1
        rw [List.length_nil] at h0
        rcases Nat.mul_eq_zero.1 h0.symm with h1 | h1 <;> omega
      | cons y l => obtain ⟨ad, e', _⟩ := hc.2 (by simp); simp at e'
    obtain rfl : c = 0 := hN.2 rfl
    subst hm
    have hn : news = [] := List.eq_nil_of_length_eq_zero (by have := hc.1; simpa using this)
    subst hn
    refine Go.wpList_append_own_none hgd s x t ho base e i size ht hi _ n xs hs hown hx ?_
    exact h _ w (by simpa using hown) (World.grownBy.refl w _) (.inl rfl)
theorem own_pushS {α : Type} {f : List α → List Value} {l b t : List α} {w' : World} {bs T K : Nat} {v' : Value} {n : Nat} (ht : l ++ b = t) (hf : f (l ++ b) = f l ++ f b) (hn : l.length = n) (h : w'.ownsRow bs T K v' (n + b.length) (f l ++ f b)) :
    ∃ A cap, v' = .slice A t.length cap ∧ w'.ownsRow bs T K (.slice A t.length cap) t.length (f t) := by
  subst ht
  subst hn
  rw [← List.length_append, ← hf] at h
  rcases h.2 with ⟨h1, h2⟩ | ⟨g3, cap3, _, h2, _⟩
  · have hv : v' = .slice none (l ++ b).length 0 := by rw [h1, h2]
    exact ⟨none, 0, hv, hv ▸ h⟩
  · exact ⟨_, _, h2, h2 ▸ h⟩
/-- w' is w but for two rows and for new blocks -/
structure Grown2 (w w' : World) (A1 A2 : Option Addr) : Prop where
  os : w'.os = w.os
  tape : w'.tape = w.tape
  output : w'.output = w.output
  size : w.heap.size ≤ w'.heap.size
  block : ∀ k, k < w.heap.size → (∀ a, A1 = some a → a.block ≠ k) → (∀ a, A2 = some a → a.block ≠ k) → w'.heap[k]? = w.heap[k]?
theorem grown2_refl (w : World) (A1 A2 : Option Addr) : Grown2 w w A1 A2 := ⟨rfl, rfl, rfl, Nat.le_refl _, fun _ _ _ _ => rfl⟩
theorem grown2_below {w wr w2 : World} {A1 A2 : Option Addr} (h : Grown2 w wr A1 A2) (hb : Below wr.heap.size wr w2) : Grown2 w w2 A1 A2 :=
  ⟨hb.os.trans h.os, hb.tape.trans h.tape, hb.output.trans h.output, Nat.le_trans h.size hb.size, fun k hk h1 h2 => (hb.block k (Nat.lt_of_lt_of_le hk h.size)).trans (h.block k hk h1 h2)⟩
theorem grown2_l {w wr w2 : World} {A1 A2 : Option Addr} {n c : Nat} (h : Grown2 w wr A1 A2) (hg : wr.grownBy w2 (Value.slice A1 n c).ownBlock) : Grown2 w w2 A1 A2 :=
  ⟨hg.os.trans h.os, hg.tape.trans h.tape, hg.output.trans h.output, Nat.le_trans h.size hg.size, fun k hk h1 h2 => (hg.block k (Nat.lt_of_lt_of_le hk h.size) (by
    cases A1 with
    | none => simp [Value.ownBlock]
    | some a => simp only [Value.ownBlock, ne_eq, Option.some.injEq]; exact fun e => h1 a rfl e.symm)).trans (h.block k hk h1 h2)⟩
theorem grown2_r {w wr w2 : World} {A1 A2 : Option Addr} {n c : Nat} (h : Grown2 w wr A1 A2) (hg : wr.grownBy w2 (Value.slice A2 n c).ownBlock) : Grown2 w w2 A1 A2 :=
  ⟨hg.os.trans h.os, hg.tape.trans h.tape, hg.output.trans h.output, Nat.le_trans h.size hg.size, fun k hk h1 h2 => (hg.block k (Nat.lt_of_lt_of_le hk h.size) (by
    cases A2 with
    | none => simp [Value.ownBlock]
    | some a => simp only [Value.ownBlock, ne_eq, Option.some.injEq]; exact fun e => h2 a rfl e.symm)).trans (h.block k hk h1 h2)⟩
theorem below2 {w wr w2 : World} {B : Nat} {A1 A2 : Option Addr} (h : Below B w wr) (hg : Grown2 wr w2 A1 A2) (hB : B ≤ wr.heap.size) (h1 : ∀ a, A1 = some a → B ≤ a.block) (h2 : ∀ a, A2 = some a → B ≤ a.block) : Below B w w2 :=
  ⟨hg.os.trans h.os, hg.tape.trans h.tape, hg.output.trans h.output, Nat.le_trans h.size hg.size, fun k hk => (hg.block k (Nat.lt_of_lt_of_le hk hB) (fun a e e2 => by have := h1 a e; omega) (fun a e e2 => by have := h2 a e; omega)).trans (h.block k hk)⟩
theorem own_other2 {w w' : World} {b T K n m c : Nat} {A1 A2 B : Option Addr} {ys : List Value} (h : w.ownsRow b T K (.slice B m c) n ys) (hg : Grown2 w w' A1 A2) (h1 : Apart A1 B) (h2 : Apart A2 B) : w'.ownsRow b T K (.slice B m c) n ys := by
  refine ⟨h.1, ?_⟩
  rcases h.2 with hn | ⟨g, cap, cur, hv, hb, hgg, rest⟩
  · exact .inl hn
  · have hlt := (h.lt g (by rw [hv]; rfl)).2
    have hB : B = some ⟨g, 0, none⟩ := by simp only [Value.slice.injEq] at hv; exact hv.1
    refine .inr ⟨g, cap, cur, hv, hb, ?_, rest⟩
    rw [hg.block g hlt (fun a e e2 => h1 a _ e hB e2) (fun a e e2 => h2 a _ e hB e2)]
    exact hgg
theorem cell_other2 {w w' : World} {A1 A2 : Option Addr} {a : Addr} {v : Value} (h : w.cell? a = some v) (hg : Grown2 w w' A1 A2) (h1 : Apart A1 (some ⟨a.block, 0, none⟩)) (h2 : Apart A2 (some ⟨a.block, 0, none⟩)) : w'.cell? a = some v := by
  rw [World.cell?_of_block (hg.block a.block (cell_lt h) (fun x e e2 => h1 x _ e rfl e2) (fun x e e2 => h2 x _ e rfl e2))]
  exact h
theorem own_ge2 {w : World} {b T K n m c : Nat} {A : Option Addr} {xs : List Value} (h : w.ownsRow b T K (.slice A m c) n xs) : ∀ a, A = some a → b ≤ a.block := fun a e => (own_lt h a e).1
end Go.Proofs.Ytbnpdaipgamgkaa.GoM

/- Plain words on the record Paper: its fields, its cells, a list of it as cells one after the other. No condition. -/
namespace Go.Proofs.Ytbnpdaipgamgkaa.PPaper
set_option linter.unusedVariables false
set_option maxRecDepth 100000

structure Paper where
  id : Int
  thick : Int
  tint : Int
  mark : ByteArray
  laid : Bool
def Paper.cells (s : Paper) : List Value := [.int .i64 s.id, .int .i64 s.thick, .int .i64 s.tint, .string s.mark, .bool s.laid]
def Paper.val (s : Paper) : Value := .agg #[.int .i64 s.id, .int .i64 s.thick, .int .i64 s.tint, .string s.mark, .bool s.laid]
/-- each field fits -/
def Paper.fits (s : Paper) : Prop := (Lit.int .i64 s.id).wf = true ∧ (Lit.int .i64 s.thick).wf = true ∧ (Lit.int .i64 s.tint).wf = true ∧ s.mark.size ≤ maxLen ∧ True
def zero : Paper := ⟨0, 0, 0, ByteArray.empty, false⟩
/-- the letters of its texts -/
def Paper.wt (s : Paper) : Nat := s.mark.size
def wts (l : List Paper) : Nat := (l.map Paper.wt).sum
theorem wts_snoc (l : List Paper) (s : Paper) : wts (l ++ [s]) = wts l + s.wt := by unfold wts; simp [List.sum_append]
theorem wts_succ {l : List Paper} {k : Nat} {s : Paper} (h : l[k]? = some s) : wts (l.take (k + 1)) = wts (l.take k) + s.wt := by
  have hk := List.getElem?_eq_some_iff.1 h
  rw [List.take_succ_eq_append_getElem hk.1, hk.2, wts_snoc]
theorem wts_take (l : List Paper) (k : Nat) : wts (l.take k) ≤ wts l := by
  have : wts l = wts (l.take k) + wts (l.drop k) := by
    unfold wts; rw [← List.sum_append, ← List.map_append, List.take_append_drop]
  omega
theorem wts_all (l : List Paper) : wts (l.take l.length) = wts l := by rw [List.take_of_length_le (Nat.le_refl _)]

/-- the cells of a list of records, one after the other -/
def flat (l : List Paper) : List Value := l.flatMap Paper.cells
theorem flat_nil : flat [] = [] := rfl
theorem flat_cons (s : Paper) (l : List Paper) : flat (s :: l) = s.cells ++ flat l := by simp [flat]
theorem flat_snoc (l : List Paper) (s : Paper) : flat (l ++ [s]) = flat l ++ s.cells := by simp [flat]
theorem flat_len (l : List Paper) : (flat l).length = l.length * 5 := by
  induction l with
  | nil => rfl
  | cons s l ih => rw [flat_cons, List.length_append, ih]; simp [Paper.cells]; omega
theorem flat_at : ∀ (l : List Paper) (k : Nat) (s : Paper), l[k]? = some s → ∀ j, j < 5 → (flat l)[k * 5 + j]? = s.cells[j]?
  | [], k, s, h, _, _ => by simp at h
  | r :: l, 0, s, h, j, hj => by
    obtain rfl : r = s := by simpa using h
    rw [flat_cons, List.getElem?_append_left (by simp [Paper.cells]; omega)]; simp
  | r :: l, k + 1, s, h, j, hj => by
    rw [flat_cons, List.getElem?_append_right (by simp [Paper.cells]; omega), show (k + 1) * 5 + j - r.cells.length = k * 5 + j by simp [Paper.cells]; omega]
    exact flat_at l k s (by simpa using h) j hj
end Go.Proofs.Ytbnpdaipgamgkaa.PPaper

/- A record Paper opened into its fields. No condition. -/
namespace Go.Proofs.Ytbnpdaipgamgkaa.GoP
set_option linter.unusedVariables false
open Go.RowKit
def unPaper {ρ : Type} (s : Go.Proofs.Ytbnpdaipgamgkaa.PPaper.Paper) (f : Int → Int → Int → ByteArray → Bool → Option ρ) : Option ρ := f s.id s.thick s.tint s.mark s.laid
theorem unPaper_hid {ρ : Type} {x0 : Int} {x1 : Int} {x2 : Int} {x3 : ByteArray} {x4 : Bool} {f : Int → Int → Int → ByteArray → Bool → Option ρ} {r : ρ} (H : Hid (unPaper ⟨x0, x1, x2, x3, x4⟩ f = some r)) : Hid (f x0 x1 x2 x3 x4 = some r) := H
end Go.Proofs.Ytbnpdaipgamgkaa.GoP

/- How a struct of one-cell fields that comes in as data is opened, whatever the number of its fields; lists by their members. No condition. -/
namespace Go.Proofs.Ytbnpdaipgamgkaa.OpenAny
set_option linter.unusedVariables false
open Go.Joins Go.ChangeShapes Go.WideShapes Go.RowKit Go.Deep

theorem add_none (b o n : Nat) : (⟨b, o, none⟩ : Addr).add n = ⟨b, o + n, none⟩ := by
  unfold Addr.add; split
  · rename_i h; subst h; rfl
  · rfl
section
variable {H : Type} {enc : TypeId × Value → H} {P : Program} {w : World} {base : Nat} {spare : Nat → Bool} {held : Bool}
/-- each field reads on its own -/
theorem read_fields {t : TypeId} {fs : Array Field} {fuel : Nat} {cs : List Value} {x : DataW H × List MemPlace} (hs : P.underlying t = some (.struct fs)) (hone : oneCellFields P fs = true) (hC : P.cellsOf t = fs.size)
    (h : DataW.trod enc P w base spare held fuel t cs = some x) :
    cs.length = P.cellsOf t ∧ ∀ (j : Nat) (f : Field), fs[j]? = some f → ∃ (u : Value) (n : Nat) (y : DataW H × List MemPlace), cs[j]? = some u ∧ DataW.trod enc P w base spare held n f.type [u] = some y := by
  obtain ⟨xs, n, _, _, hlen, hxl, hg⟩ := DataW.trod_struct hs h
  refine ⟨hlen, fun j f hj => ?_⟩
  obtain ⟨ho, hk⟩ := hone_of hone j f hj
  have hjl : j < fs.size := (Array.getElem?_eq_some_iff.1 hj).1
  have h1 := hg j f hj
  rw [ho, hk, List.getElem?_eq_getElem (by omega : j < xs.length)] at h1
  have hc : j < cs.length := by omega
  rw [List.drop_eq_getElem_cons hc] at h1
  exact ⟨cs[j], n, _, List.getElem?_eq_getElem hc, h1⟩
/-- an aggregate that comes in reads as its cells do -/
theorem agg_any {r : Reach} {b0 : Nat} {t : TypeId} {fs : Array Field} {v : Value} {d : DataW H} {p : List MemPlace} (hs : P.underlying t = some (.struct fs)) (hv : Value.okWide P w r b0 t v) (h : DataW.Trod enc P w base spare held t v d p) :
    ∃ (cs : Array Value) (n : Nat) (x : DataW H × List MemPlace), v = .agg cs ∧ DataW.trod enc P w base spare held n t cs.toList = some x := by
  obtain ⟨cs, rfl, _⟩ := okWide_struct hs hv
  obtain ⟨fuel, hf⟩ := h
  exact ⟨cs, fuel, _, rfl, hf⟩
end
/-- a list by its members -/
theorem list_of {α : Type} (p : Nat → α → Prop) : ∀ (n : Nat), (∀ k, k < n → ∃ a, p k a) → ∃ l : List α, l.length = n ∧ ∀ k a, l[k]? = some a → p k a
  | 0, _ => ⟨[], rfl, fun k a h => by simp at h⟩
  | n + 1, h => by
    obtain ⟨l, hl, hp⟩ := list_of p n (fun k hk => h k (by omega))
    obtain ⟨a, ha⟩ := h n (by omega)
    refine ⟨l ++ [a], by simp [hl], fun k b hb => ?_⟩
    by_cases hk : k < n
    · rw [List.getElem?_append_left (by omega)] at hb; exact hp k b hb
    · have hk' : k < (l ++ [a]).length := (List.getElem?_eq_some_iff.1 hb).1
      simp [hl] at hk'
      obtain rfl : k = n := by omega
      rw [List.getElem?_append_right (by omega), hl, Nat.sub_self] at hb
      obtain rfl : a = b := by simpa using hb
      exact ha
end Go.Proofs.Ytbnpdaipgamgkaa.OpenAny

/- The record Paper as data that comes in, and a slice of it. No condition. -/
namespace Go.Proofs.Ytbnpdaipgamgkaa.OPaper
set_option linter.unusedVariables false
set_option maxRecDepth 100000
open Go.Joins Go.ChangeShapes Go.WideShapes Go.RowKit Go.Deep
open Go.Proofs.Ytbnpdaipgamgkaa.Rowed Go.Proofs.Ytbnpdaipgamgkaa.OpenAny Go.Proofs.Ytbnpdaipgamgkaa.PPaper

/-- the slice 'A, n' reads as the records l -/
abbrev Papers (w : World) (A : Option Addr) (n : Nat) (l : List Paper) : Prop := Cells w 5 A n (flat l)
theorem at_ {w : World} {A : Option Addr} {n k : Nat} {l : List Paper} (h : Papers w A n l) (hk : k < n) :
    ∃ (b o : Nat) (s : Paper), A = some ⟨b, o, none⟩ ∧ l[k]? = some s ∧ w.cell? ⟨b, o + k * 5, none⟩ = some (.int .i64 s.id) ∧ w.cell? ⟨b, o + k * 5 + 1, none⟩ = some (.int .i64 s.thick) ∧ w.cell? ⟨b, o + k * 5 + 2, none⟩ = some (.int .i64 s.tint) ∧ w.cell? ⟨b, o + k * 5 + 3, none⟩ = some (.string s.mark) ∧ w.cell? ⟨b, o + k * 5 + 4, none⟩ = some (.bool s.laid) := by
  have hl : k < l.length := by have := h.1; rw [flat_len] at this; omega
  obtain ⟨⟨b, o, sp⟩, e, hc⟩ := h.2 (by rw [flat_len]; omega)
  have h0 := hc 0 _ (flat_at l 0 l[0] (List.getElem?_eq_getElem (by omega)) 0 (by omega))
  obtain rfl : sp = none := cell_spot (b := b) (o := o) h0
  have hs := List.getElem?_eq_getElem hl
  have f := flat_at l k _ hs
  have g := fun j u hu => add_none b o j ▸ hc j u hu
  exact ⟨b, o, l[k], e, hs, g _ _ (f 0 (by omega)), g _ _ (f 1 (by omega)), g _ _ (f 2 (by omega)), g _ _ (f 3 (by omega)), g _ _ (f 4 (by omega))⟩
theorem len_of {w : World} {A : Option Addr} {n : Nat} {l : List Paper} (h : Papers w A n l) : l.length = n := by
  have := h.1
  rw [flat_len] at this; omega

/-- a slice of records that came in: the list that it reads as -/
structure Came (w : World) (A : Option Addr) (len cap : Nat) (l : List Paper) : Prop where
  cells : Papers w A len l
  small : len ≤ maxLen
  fits : ∀ s ∈ l, s.fits
theorem Came.len {w : World} {A : Option Addr} {len cap : Nat} {l : List Paper} (h : Came w A len cap l) : l.length = len := len_of h.cells

section
variable {H : Type} {enc : TypeId × Value → H} {w : World} {base : Nat} {spare : Nat → Bool} {held : Bool}
theorem read_one {n : Nat} {cs : List Value} {x : DataW H × List MemPlace} (h : DataW.trod enc Try.prog w base spare held n 36 cs = some x) : ∃ s : Paper, cs = s.cells ∧ s.fits := by
  have hc : Try.prog.cellsOf 36 = 5 := by kernel_rfl
  obtain ⟨hl, hf⟩ := read_fields Try.underlying36 (by kernel_rfl) hc h
  rw [hc] at hl
  match cs, hl with
  | [v0, v1, v2, v3, v4], _ =>
    obtain ⟨u0, n0, y0, eu0, t0⟩ := hf 0 _ rfl
    obtain ⟨x0, e0, _, f0⟩ := DataW.trod_int Try.underlying3 t0
    obtain rfl : v0 = u0 := by simpa using eu0
    obtain rfl : v0 = .int .i64 x0 := by simpa using e0
    obtain ⟨u1, n1, y1, eu1, t1⟩ := hf 1 _ rfl
    obtain ⟨x1, e1, _, f1⟩ := DataW.trod_int Try.underlying3 t1
    obtain rfl : v1 = u1 := by simpa using eu1
    obtain rfl : v1 = .int .i64 x1 := by simpa using e1
    obtain ⟨u2, n2, y2, eu2, t2⟩ := hf 2 _ rfl
    obtain ⟨x2, e2, _, f2⟩ := DataW.trod_int Try.underlying3 t2
    obtain rfl : v2 = u2 := by simpa using eu2
    obtain rfl : v2 = .int .i64 x2 := by simpa using e2
    obtain ⟨u3, n3, y3, eu3, t3⟩ := hf 3 _ rfl
    obtain ⟨x3, e3, _, f3⟩ := DataW.trod_string Try.underlying9 t3
    obtain rfl : v3 = u3 := by simpa using eu3
    obtain rfl : v3 = .string x3 := by simpa using e3
    obtain ⟨u4, n4, y4, eu4, t4⟩ := hf 4 _ rfl
    obtain ⟨x4, e4, _⟩ := DataW.trod_bool Try.underlying4 t4
    obtain rfl : v4 = u4 := by simpa using eu4
    obtain rfl : v4 = .bool x4 := by simpa using e4
    exact ⟨⟨x0, x1, x2, x3, x4⟩, rfl, f0, f1, f2, f3, trivial⟩
theorem open_one {r : Reach} {b0 : Nat} {v : Value} {d : DataW H} {p : List MemPlace} (hv : Value.okWide Try.prog w r b0 36 v) (h : DataW.Trod enc Try.prog w base spare held 36 v d p) :
    ∃ s : Paper, v = s.val ∧ s.fits := by
  obtain ⟨cs, n, x, rfl, ht⟩ := agg_any Try.underlying36 hv h
  obtain ⟨s, e, hs⟩ := read_one ht
  refine ⟨s, ?_, hs⟩
  obtain ⟨l⟩ := cs
  obtain rfl : l = s.cells := by simpa using e
  rfl
end
theorem open_many {H : Type} {enc : TypeId × Value → H} {W : World} {a : Option Addr} {len cap : Nat} {d : DataW H} {p : List MemPlace}
    (h : DataW.Trod enc Try.prog W 0 (fun _ => true) true 22 (.slice a len cap) d p) : ∃ l : List Paper, Came W a len cap l := by
  obtain ⟨fuel, hf⟩ := h
  have ck : Try.prog.cellsOf 36 = 5 := by kernel_rfl
  rcases open_slice Try.underlying22 hf with ⟨hcs, _⟩ | ⟨x, ln, cp, m, n, D, Pl, hcs, hb, hl, hm, hmm, _, hi⟩
  · simp [Value.cells] at hcs
    obtain ⟨rfl, rfl, rfl⟩ := hcs
    exact ⟨[], Cells.nil_ _ _ _, by unfold maxLen; omega, by intro s hs; simp at hs⟩
  · simp [Value.cells] at hcs
    obtain ⟨rfl, rfl, rfl⟩ := hcs
    simp only [if_true] at hmm
    subst hmm
    rw [ck] at hi
    obtain ⟨l, hll, hp⟩ := list_of (fun k s => Paper.fits s ∧ ∀ j, j < 5 → W.cell? (x.add (k * 5 + j)) = s.cells[j]?) len (fun k hk => by
      obtain ⟨cs', hc, ht⟩ := hi k (by omega)
      obtain ⟨s, rfl, hfit⟩ := read_one ht
      refine ⟨s, hfit, fun j hj => ?_⟩
      have := (World.cells?_some hc).2.2 j hj
      rw [Go.Deep.add_add] at this
      exact this)
    refine ⟨l, ⟨by rw [flat_len, hll], fun h0 => ⟨x, rfl, fun j u hu => ?_⟩⟩, by omega, fun s hs => ?_⟩
    · have hj : j < (flat l).length := (List.getElem?_eq_some_iff.1 hu).1
      rw [flat_len] at hj
      have hk : j / 5 < l.length := by omega
      have e := flat_at l (j / 5) l[j/5] (List.getElem?_eq_getElem hk) (j % 5) (by omega)
      rw [show j / 5 * 5 + j % 5 = j by omega, hu] at e
      have := (hp (j / 5) l[j/5] (List.getElem?_eq_getElem hk)).2 (j % 5) (by omega)
      rw [show j / 5 * 5 + j % 5 = j by omega, ← e] at this
      exact this
    · obtain ⟨k, hk⟩ := List.getElem?_of_mem hs
      exact (hp k s hk).1

/-- a record that was boxed -/
theorem box_ {w : World} {s : Paper} {g : Nat} (h : Cells w 5 (some ⟨g, 0, none⟩) 1 s.cells) : w.cell? ⟨g, 0, none⟩ = some (.int .i64 s.id) ∧ w.cell? ⟨g, 1, none⟩ = some (.int .i64 s.thick) ∧ w.cell? ⟨g, 2, none⟩ = some (.int .i64 s.tint) ∧ w.cell? ⟨g, 3, none⟩ = some (.string s.mark) ∧ w.cell? ⟨g, 4, none⟩ = some (.bool s.laid) := by
  obtain ⟨ad, e, hc⟩ := h.2 (by simp [Paper.cells])
  obtain rfl := Option.some.inj e
  have gg := fun j u hu => add_none g 0 j ▸ hc j u hu
  exact ⟨by simpa using gg 0 _ rfl, by simpa using gg 1 _ rfl, by simpa using gg 2 _ rfl, by simpa using gg 3 _ rfl, by simpa using gg 4 _ rfl⟩
theorem box_new (w : World) (s : Paper) (T : TypeId) : Cells (w.alloc (.cells #[.int .i64 s.id, .int .i64 s.thick, .int .i64 s.tint, .string s.mark, .bool s.laid] T)) 5 (some ⟨w.heap.size, 0, none⟩) 1 s.cells :=
  ⟨by simp [Paper.cells], fun _ => ⟨_, rfl, fun j u hu => by
    have hj : j < 5 := by have := (List.getElem?_eq_some_iff.1 hu).1; simpa [Paper.cells] using this
    rw [add_none, World.cell?_alloc_new]
    match j, hj with
    | 0, _ => simpa [Paper.cells] using hu
    | 1, _ => simpa [Paper.cells] using hu
    | 2, _ => simpa [Paper.cells] using hu
    | 3, _ => simpa [Paper.cells] using hu
    | 4, _ => simpa [Paper.cells] using hu
⟩⟩
end Go.Proofs.Ytbnpdaipgamgkaa.OPaper

/- loop.example/g01062/laws.szPaper as a plain function, and the contract of the program's: where the plain one has an answer, the program has it. Conditions: slices read as lists. -/
namespace Go.Proofs.Ytbnpdaipgamgkaa.GlSzPaper
set_option linter.unusedVariables false
set_option linter.unusedSimpArgs false
open Go.RowKit
open Go.Proofs.Ytbnpdaipgamgkaa.Rowed Go.Proofs.Ytbnpdaipgamgkaa.Turn Go.Proofs.Ytbnpdaipgamgkaa.Aid Go.Proofs.Ytbnpdaipgamgkaa.GoP Go.Proofs.Ytbnpdaipgamgkaa.GoM

def P (a : Go.Proofs.Ytbnpdaipgamgkaa.PPaper.Paper) (left : Int) : Option (Int) :=
  unPaper a fun (a_id : Int) (a_thick : Int) (a_tint : Int) (a_mark : ByteArray) (a_laid : Bool) =>
  letK (IntKind.i64.wrap (left - (a_mark.size : Int))) fun (t_6 : Int) =>
  letK (decide (t_6 < 0)) fun (t_9 : Bool) =>
  iteK t_9
  (some (-1))
  (some t_6)

set_option maxRecDepth 100000 in
set_option maxHeartbeats 2000000 in
theorem C (a : Go.Proofs.Ytbnpdaipgamgkaa.PPaper.Paper) (left : Int)   (w : World)   {r : Int} (H : Hid (P a left = some r)) :
    Calls Try.prog 13 #[a.val, .int .i64 left] w (Gives (.int .i64 r) w) := by
  have HB := Lib.hid (Below.refl w.heap.size w)
  unfold P at H
  obtain ⟨a_id, a_thick, a_tint, a_mark, a_laid⟩ := a
  replace H := unPaper_hid H
  unfold Go.Proofs.Ytbnpdaipgamgkaa.PPaper.Paper.val
  go_enter Try.func13, Try.ntmps13
  obtain ⟨w_a_0, hw_a_0⟩ : ∃ x, w.alloc (.cells #[.int .i64 a_id, .int .i64 a_thick, .int .i64 a_tint, .string a_mark, .bool a_laid] 36) = x := ⟨_, rfl⟩
  have bw_a_0 : Below w.heap.size w w_a_0 := by rw [← hw_a_0]; exact (Below.refl _ _).alloc (Nat.le_refl _) _
  have HBw_a_0 := Lib.hid (Below.step HB.out bw_a_0)
  clear bw_a_0
  have ka_0_0 : w_a_0.cell? ⟨w.heap.size, 0, none⟩ = some (.int .i64 a_id) := by rw [← hw_a_0]; exact box_new _ _ _ 0 _ rfl
  have ka_0_1 : w_a_0.cell? ⟨w.heap.size, 1, none⟩ = some (.int .i64 a_thick) := by rw [← hw_a_0]; exact box_new _ _ _ 1 _ rfl
  have ka_0_2 : w_a_0.cell? ⟨w.heap.size, 2, none⟩ = some (.int .i64 a_tint) := by rw [← hw_a_0]; exact box_new _ _ _ 2 _ rfl
  have ka_0_3 : w_a_0.cell? ⟨w.heap.size, 3, none⟩ = some (.string a_mark) := by rw [← hw_a_0]; exact box_new _ _ _ 3 _ rfl
  have ka_0_4 : w_a_0.cell? ⟨w.heap.size, 4, none⟩ = some (.bool a_laid) := by rw [← hw_a_0]; exact box_new _ _ _ 4 _ rfl
  replace H := let_hid H
  obtain ⟨t_6, ht_6, H⟩ := H
  replace H := let_hid H
  obtain ⟨t_9, ht_9, H⟩ := H
  cases t_9 with
  | false =>
    replace H := ite_f H
    obtain rfl := ret_hid H
    go_wp2_with fail
    go_ret
    exact ⟨rfl, HBw_a_0.out⟩
  | true =>
    replace H := ite_t H
    obtain rfl := ret_hid H
    go_wp2_with fail
    go_ret
    exact ⟨rfl, HBw_a_0.out⟩
end Go.Proofs.Ytbnpdaipgamgkaa.GlSzPaper

/- loop.example/g01062/laws.szPaperS as a plain function, and the contract of the program's: where the plain one has an answer, the program has it. Conditions: slices read as lists. -/
namespace Go.Proofs.Ytbnpdaipgamgkaa.GlSzPaperS
set_option linter.unusedVariables false
set_option linter.unusedSimpArgs false
open Go.RowKit
open Go.Proofs.Ytbnpdaipgamgkaa.Rowed Go.Proofs.Ytbnpdaipgamgkaa.Turn Go.Proofs.Ytbnpdaipgamgkaa.Aid Go.Proofs.Ytbnpdaipgamgkaa.GoP Go.Proofs.Ytbnpdaipgamgkaa.GoM

def l0 (a : (List Go.Proofs.Ytbnpdaipgamgkaa.PPaper.Paper)) (k0 : Nat) (s : Int) (nx0 bk0 : Int → Option (Int)) : Option (Int) :=
  letK s fun left_1l0 =>
  Option.bind (idx a (k0 : Int)) fun (yt_16 : Go.Proofs.Ytbnpdaipgamgkaa.PPaper.Paper) =>
  unPaper yt_16 fun (t_16_id : Int) (t_16_thick : Int) (t_16_tint : Int) (t_16_mark : ByteArray) (t_16_laid : Bool) =>
  Option.bind (Go.Proofs.Ytbnpdaipgamgkaa.GlSzPaper.P (Go.Proofs.Ytbnpdaipgamgkaa.PPaper.Paper.mk t_16_id t_16_thick t_16_tint t_16_mark t_16_laid) left_1l0) fun (t_19 : Int) =>
  letK (decide (t_19 < 0)) fun (t_22 : Bool) =>
  iteK t_22
  (some (-1))
  (appK nx0 (t_19))

def e0  (s : Int) : Option (Int) :=
  letK s fun left_1l0 =>
  some left_1l0

def P (a : (List Go.Proofs.Ytbnpdaipgamgkaa.PPaper.Paper)) (left : Int) : Option (Int) :=
  letK (IntKind.i64.wrap (left - (a.length : Int))) fun (t_4 : Int) =>
  letK (decide (t_4 < 0)) fun (t_7 : Bool) =>
  iteK t_7
  (some (-1))
  (cntK (l0 a) (a.length) 0 (t_4) (e0 ))

set_option maxRecDepth 100000 in
set_option maxHeartbeats 2000000 in
theorem C (a : (List Go.Proofs.Ytbnpdaipgamgkaa.PPaper.Paper)) (left : Int) (A0 : Option Addr) (c0 : Nat)  (w : World) (M0 : Hid (Cells w 5 A0 a.length (Go.Proofs.Ytbnpdaipgamgkaa.PPaper.flat a))) (N0 : Hid (a.length ≤ 9223372036854775807))  {r : Int} (H : Hid (P a left = some r)) :
    Calls Try.prog 4 #[.slice A0 a.length c0, .int .i64 left] w (Gives (.int .i64 r) w) := by
  have HB := Lib.hid (Below.refl w.heap.size w)
  unfold P at H
  have N0o := N0.out
  go_enter Try.func4, Try.ntmps4
  replace H := let_hid H
  obtain ⟨t_4, ht_4, H⟩ := H
  replace H := let_hid H
  obtain ⟨t_7, ht_7, H⟩ := H
  cases t_7 with
  | false =>
    replace H := ite_f H
    go_wp2_with fail
    go_loopg [5, 1] (a.length) (fun m_ v5_ v1_ wr => ∃ (k0 : Nat) (left_1l0 : Int), k0 + m_ = a.length ∧ v5_ = .int .i64 (k0 : Int) ∧ v1_ = .int .i64 left_1l0 ∧ Hid (cntK (l0 a) m_ k0 (left_1l0) (e0 ) = some r) ∧ Hid (Below w.heap.size w wr))
    case atStart => exact ⟨0, _, by omega, rfl, rfl, H, HB⟩
    case round =>
      obtain ⟨k0, left_1l0, hkm0, rfl, rfl, H, HBwr0⟩ := hrel
      rename World => wr0
      cases gk with
      | zero =>
        obtain rfl : k0 = a.length := by omega
        have hc0 : decide (((a.length : Nat) : Int) < ((a.length : Nat) : Int)) = false := by simp
        replace H := cnt_zero H
        unfold e0 at H
        replace H := let_hid H
        obtain ⟨_, rfl, H⟩ := H
        obtain rfl := ret_hid H
        go_wp2_with fail
        go_ret
        exact ⟨rfl, HBwr0.out⟩
      | succ m0 =>
        have hlt0 : k0 < a.length := by omega
        have hc0 : decide ((k0 : Int) < ((a.length : Nat) : Int)) = true := by simp; omega
        replace H := cnt_succ H
        unfold l0 at H
        replace H := let_hid H
        obtain ⟨_, rfl, H⟩ := H
        replace H := idx_hid H
        obtain ⟨nt_16, yt_16, et_16, lt_16, gt_16, H⟩ := H
        obtain rfl : k0 = nt_16 := by omega
        clear et_16
        obtain ⟨t_16_id, t_16_thick, t_16_tint, t_16_mark, t_16_laid⟩ := yt_16
        replace H := unPaper_hid H
        obtain ⟨ab_t_16, ao_t_16, zt_16, At_16, z_t_16, ct_16_0, ct_16_1, ct_16_2, ct_16_3, ct_16_4⟩ := Go.Proofs.Ytbnpdaipgamgkaa.OPaper.at_ M0.out lt_16
        obtain rfl := Option.some.inj (gt_16.out.symm.trans z_t_16)
        subst At_16
        have ltt_16 := cell_lt ct_16_0
        replace ct_16_0 := cell_below HBwr0.out ct_16_0
        replace ct_16_1 := cell_below HBwr0.out ct_16_1
        replace ct_16_2 := cell_below HBwr0.out ct_16_2
        replace ct_16_3 := cell_below HBwr0.out ct_16_3
        replace ct_16_4 := cell_below HBwr0.out ct_16_4
        clear z_t_16
        have b0t_16 : (0 : Int) ≤ (k0 : Int) := by omega
        have b1t_16 : (k0 : Int) < ((a.length : Nat) : Int) := by omega
        have b2t_16 : ((k0 : Int)).toNat = k0 := by omega
        replace H := bind_hid H
        obtain ⟨t_19, qt_19, H⟩ := H
        go_wp2_with fail
        go_at_call 13
        refine (Go.Proofs.Ytbnpdaipgamgkaa.GlSzPaper.C ((Go.Proofs.Ytbnpdaipgamgkaa.PPaper.Paper.mk t_16_id t_16_thick t_16_tint t_16_mark t_16_laid)) (left_1l0)  _    qt_19).mono ?_
        rintro e_t_19 wt_19 ⟨rfl, bt_19⟩
        have HBwt_19 := Lib.hid (Below.step HBwr0.out bt_19)
        replace ct_16_0 := cell_below bt_19 ct_16_0
        replace ct_16_1 := cell_below bt_19 ct_16_1
        replace ct_16_2 := cell_below bt_19 ct_16_2
        replace ct_16_3 := cell_below bt_19 ct_16_3
        replace ct_16_4 := cell_below bt_19 ct_16_4
        clear bt_19
        replace H := let_hid H
        obtain ⟨t_22, ht_22, H⟩ := H
        cases t_22 with
        | false =>
          replace H := ite_f H
          replace H := app_hid H
          go_wp2_with fail
          go_roundg m0
          case measure => omega
          case rel => exact ⟨k0 + 1, _, by omega, by go_num, rfl, H, HBwt_19⟩
        | true =>
          replace H := ite_t H
          obtain rfl := ret_hid H
          go_wp2_with fail
          go_ret
          exact ⟨rfl, HBwt_19.out⟩
  | true =>
    replace H := ite_t H
    obtain rfl := ret_hid H
    go_wp2_with fail
    go_ret
    exact ⟨rfl, HB.out⟩
end Go.Proofs.Ytbnpdaipgamgkaa.GlSzPaperS

/- loop.example/g01062/laws.toPaper as a plain function, and the contract of the program's: where the plain one has an answer, the program has it. Conditions: slices read as lists. -/
namespace Go.Proofs.Ytbnpdaipgamgkaa.GlToPaper
set_option linter.unusedVariables false
set_option linter.unusedSimpArgs false
open Go.RowKit
open Go.Proofs.Ytbnpdaipgamgkaa.Rowed Go.Proofs.Ytbnpdaipgamgkaa.Turn Go.Proofs.Ytbnpdaipgamgkaa.Aid Go.Proofs.Ytbnpdaipgamgkaa.GoP Go.Proofs.Ytbnpdaipgamgkaa.GoM

def P (a : Go.Proofs.Ytbnpdaipgamgkaa.PPaper.Paper) : Option (Go.Proofs.Ytbnpdaipgamgkaa.PPaper.Paper) :=
  unPaper a fun (a_id : Int) (a_thick : Int) (a_tint : Int) (a_mark : ByteArray) (a_laid : Bool) =>
  some (Go.Proofs.Ytbnpdaipgamgkaa.PPaper.Paper.mk a_id a_thick a_tint a_mark a_laid)

set_option maxRecDepth 100000 in
set_option maxHeartbeats 2000000 in
theorem C (a : Go.Proofs.Ytbnpdaipgamgkaa.PPaper.Paper)   (w : World)   {r : Go.Proofs.Ytbnpdaipgamgkaa.PPaper.Paper} (H : Hid (P a = some r)) :
    Calls Try.prog 15 #[a.val] w (Gives ((Go.Proofs.Ytbnpdaipgamgkaa.PPaper.Paper.val r)) w) := by
  have HB := Lib.hid (Below.refl w.heap.size w)
  unfold P at H
  obtain ⟨a_id, a_thick, a_tint, a_mark, a_laid⟩ := a
  replace H := unPaper_hid H
  unfold Go.Proofs.Ytbnpdaipgamgkaa.PPaper.Paper.val
  go_enter Try.func15, Try.ntmps15
  obtain ⟨w_a_0, hw_a_0⟩ : ∃ x, w.alloc (.cells #[.int .i64 a_id, .int .i64 a_thick, .int .i64 a_tint, .string a_mark, .bool a_laid] 36) = x := ⟨_, rfl⟩
  have bw_a_0 : Below w.heap.size w w_a_0 := by rw [← hw_a_0]; exact (Below.refl _ _).alloc (Nat.le_refl _) _
  have HBw_a_0 := Lib.hid (Below.step HB.out bw_a_0)
  clear bw_a_0
  have ka_0_0 : w_a_0.cell? ⟨w.heap.size, 0, none⟩ = some (.int .i64 a_id) := by rw [← hw_a_0]; exact box_new _ _ _ 0 _ rfl
  have ka_0_1 : w_a_0.cell? ⟨w.heap.size, 1, none⟩ = some (.int .i64 a_thick) := by rw [← hw_a_0]; exact box_new _ _ _ 1 _ rfl
  have ka_0_2 : w_a_0.cell? ⟨w.heap.size, 2, none⟩ = some (.int .i64 a_tint) := by rw [← hw_a_0]; exact box_new _ _ _ 2 _ rfl
  have ka_0_3 : w_a_0.cell? ⟨w.heap.size, 3, none⟩ = some (.string a_mark) := by rw [← hw_a_0]; exact box_new _ _ _ 3 _ rfl
  have ka_0_4 : w_a_0.cell? ⟨w.heap.size, 4, none⟩ = some (.bool a_laid) := by rw [← hw_a_0]; exact box_new _ _ _ 4 _ rfl
  obtain ⟨w_t_1, hw_t_1⟩ : ∃ x, w_a_0.alloc (.cells #[.int .i64 0, .int .i64 0, .int .i64 0, .string (⟨#[]⟩ : ByteArray), .bool false] 38) = x := ⟨_, rfl⟩
  have bw_t_1 : Below w_a_0.heap.size w_a_0 w_t_1 := by rw [← hw_t_1]; exact (Below.refl _ _).alloc (Nat.le_refl _) _
  have Dt_1_a_0 := Lib.hid (apart_box ka_0_0)
  have HBw_t_1 := Lib.hid (Below.step HBw_a_0.out bw_t_1)
  have ka_0_0__1 := cell_below bw_t_1 ka_0_0
  have ka_0_1__2 := cell_below bw_t_1 ka_0_1
  have ka_0_2__3 := cell_below bw_t_1 ka_0_2
  have ka_0_3__4 := cell_below bw_t_1 ka_0_3
  have ka_0_4__5 := cell_below bw_t_1 ka_0_4
  clear bw_t_1
  have kt_1_0 : w_t_1.cell? ⟨w_a_0.heap.size, 0, none⟩ = some (.int .i64 0) := by rw [← hw_t_1]; exact box_new _ _ _ 0 _ rfl
  have kt_1_1 : w_t_1.cell? ⟨w_a_0.heap.size, 1, none⟩ = some (.int .i64 0) := by rw [← hw_t_1]; exact box_new _ _ _ 1 _ rfl
  have kt_1_2 : w_t_1.cell? ⟨w_a_0.heap.size, 2, none⟩ = some (.int .i64 0) := by rw [← hw_t_1]; exact box_new _ _ _ 2 _ rfl
  have kt_1_3 : w_t_1.cell? ⟨w_a_0.heap.size, 3, none⟩ = some (.string (⟨#[]⟩ : ByteArray)) := by rw [← hw_t_1]; exact box_new _ _ _ 3 _ rfl
  have kt_1_4 : w_t_1.cell? ⟨w_a_0.heap.size, 4, none⟩ = some (.bool false) := by rw [← hw_t_1]; exact box_new _ _ _ 4 _ rfl
  have Ot_1 : Hid (w_t_1.ownsRow w.heap.size 38 5 (.slice (some ⟨w_a_0.heap.size, 0, none⟩) 1 1) 1 [.int .i64 0, .int .i64 0, .int .i64 0, .string (⟨#[]⟩ : ByteArray), .bool false]) := Lib.hid (by rw [← hw_t_1]; exact own_laid (n := 1) HBw_a_0.out.size rfl rfl (by unfold maxLen; omega))
  obtain ⟨w_out_2, hw_out_2⟩ : ∃ x, w_t_1.alloc (.cells #[.int .i64 0, .int .i64 0, .int .i64 0, .string (⟨#[]⟩ : ByteArray), .bool false] 38) = x := ⟨_, rfl⟩
  have bw_out_2 : Below w_t_1.heap.size w_t_1 w_out_2 := by rw [← hw_out_2]; exact (Below.refl _ _).alloc (Nat.le_refl _) _
  have Dout_2_a_0 := Lib.hid (apart_box ka_0_0__1)
  have Dout_2_t_1 := Lib.hid (apart_box kt_1_0)
  have HBw_out_2 := Lib.hid (Below.step HBw_t_1.out bw_out_2)
  have ka_0_0__6 := cell_below bw_out_2 ka_0_0__1
  have ka_0_1__7 := cell_below bw_out_2 ka_0_1__2
  have ka_0_2__8 := cell_below bw_out_2 ka_0_2__3
  have ka_0_3__9 := cell_below bw_out_2 ka_0_3__4
  have ka_0_4__10 := cell_below bw_out_2 ka_0_4__5
  have kt_1_0__11 := cell_below bw_out_2 kt_1_0
  have kt_1_1__12 := cell_below bw_out_2 kt_1_1
  have kt_1_2__13 := cell_below bw_out_2 kt_1_2
  have kt_1_3__14 := cell_below bw_out_2 kt_1_3
  have kt_1_4__15 := cell_below bw_out_2 kt_1_4
  replace Ot_1 := Lib.hid (own_below Ot_1.out bw_out_2)
  clear bw_out_2
  have kout_2_0 : w_out_2.cell? ⟨w_t_1.heap.size, 0, none⟩ = some (.int .i64 0) := by rw [← hw_out_2]; exact box_new _ _ _ 0 _ rfl
  have kout_2_1 : w_out_2.cell? ⟨w_t_1.heap.size, 1, none⟩ = some (.int .i64 0) := by rw [← hw_out_2]; exact box_new _ _ _ 1 _ rfl
  have kout_2_2 : w_out_2.cell? ⟨w_t_1.heap.size, 2, none⟩ = some (.int .i64 0) := by rw [← hw_out_2]; exact box_new _ _ _ 2 _ rfl
  have kout_2_3 : w_out_2.cell? ⟨w_t_1.heap.size, 3, none⟩ = some (.string (⟨#[]⟩ : ByteArray)) := by rw [← hw_out_2]; exact box_new _ _ _ 3 _ rfl
  have kout_2_4 : w_out_2.cell? ⟨w_t_1.heap.size, 4, none⟩ = some (.bool false) := by rw [← hw_out_2]; exact box_new _ _ _ 4 _ rfl
  have Oout_2 : Hid (w_out_2.ownsRow w.heap.size 38 5 (.slice (some ⟨w_t_1.heap.size, 0, none⟩) 1 1) 1 [.int .i64 0, .int .i64 0, .int .i64 0, .string (⟨#[]⟩ : ByteArray), .bool false]) := Lib.hid (by rw [← hw_out_2]; exact own_laid (n := 1) HBw_t_1.out.size rfl rfl (by unfold maxLen; omega))
  obtain ⟨wb6_6, hwb6_6⟩ : ∃ x, (w_out_2).setCell ⟨w_t_1.heap.size, 0, none⟩ (.int .i64 a_id) = x := ⟨_, rfl⟩
  have z0b6_6 := Oout_2.out.frozenAt 0
  have Sb6_6 := Lib.hid (own_stores [(0, .int .i64 a_id)] Oout_2.out)
  have Pb6_6 : Hid (wb6_6.ownsRow w.heap.size 38 5 (.slice (some ⟨w_t_1.heap.size, 0, none⟩) 1 1) 1 [.int .i64 a_id, .int .i64 0, .int .i64 0, .string (⟨#[]⟩ : ByteArray), .bool false]) := Lib.hid (by rw [← hwb6_6]; exact Sb6_6.out.1)
  have Gb6_6 : Hid (w_out_2.grownBy wb6_6 (Value.slice (some ⟨w_t_1.heap.size, 0, none⟩) 1 1).ownBlock) := Lib.hid (by rw [← hwb6_6]; exact Sb6_6.out.2)
  have HBwb6_6 := Lib.hid (HBw_out_2.out.grown Gb6_6.out HBw_out_2.out.size (fun q hq => (Oout_2.out.lt q hq).1))
  clear Sb6_6
  have ka_0_0__16 := cell_other ka_0_0__6 Gb6_6.out Dout_2_a_0.out
  have ka_0_1__17 := cell_other ka_0_1__7 Gb6_6.out Dout_2_a_0.out
  have ka_0_2__18 := cell_other ka_0_2__8 Gb6_6.out Dout_2_a_0.out
  have ka_0_3__19 := cell_other ka_0_3__9 Gb6_6.out Dout_2_a_0.out
  have ka_0_4__20 := cell_other ka_0_4__10 Gb6_6.out Dout_2_a_0.out
  have kt_1_0__21 := cell_other kt_1_0__11 Gb6_6.out Dout_2_t_1.out
  have kt_1_1__22 := cell_other kt_1_1__12 Gb6_6.out Dout_2_t_1.out
  have kt_1_2__23 := cell_other kt_1_2__13 Gb6_6.out Dout_2_t_1.out
  have kt_1_3__24 := cell_other kt_1_3__14 Gb6_6.out Dout_2_t_1.out
  have kt_1_4__25 := cell_other kt_1_4__15 Gb6_6.out Dout_2_t_1.out
  replace Ot_1 := Lib.hid (own_other Ot_1.out Gb6_6.out Dout_2_t_1.out)
  clear Oout_2 Gb6_6
  have kout_2_0__26 : wb6_6.cell? ⟨w_t_1.heap.size, 0, none⟩ = some (.int .i64 a_id) := Pb6_6.out.cells rfl 0 _ rfl
  have kout_2_1__27 : wb6_6.cell? ⟨w_t_1.heap.size, 1, none⟩ = some (.int .i64 0) := Pb6_6.out.cells rfl 1 _ rfl
  have kout_2_2__28 : wb6_6.cell? ⟨w_t_1.heap.size, 2, none⟩ = some (.int .i64 0) := Pb6_6.out.cells rfl 2 _ rfl
  have kout_2_3__29 : wb6_6.cell? ⟨w_t_1.heap.size, 3, none⟩ = some (.string (⟨#[]⟩ : ByteArray)) := Pb6_6.out.cells rfl 3 _ rfl
  have kout_2_4__30 : wb6_6.cell? ⟨w_t_1.heap.size, 4, none⟩ = some (.bool false) := Pb6_6.out.cells rfl 4 _ rfl
  obtain ⟨wb10_10, hwb10_10⟩ : ∃ x, (wb6_6).setCell ⟨w_t_1.heap.size, 1, none⟩ (.int .i64 a_thick) = x := ⟨_, rfl⟩
  have z0b10_10 := Pb6_6.out.frozenAt 1
  have Sb10_10 := Lib.hid (own_stores [(1, .int .i64 a_thick)] Pb6_6.out)
  have Pb10_10 : Hid (wb10_10.ownsRow w.heap.size 38 5 (.slice (some ⟨w_t_1.heap.size, 0, none⟩) 1 1) 1 [.int .i64 a_id, .int .i64 a_thick, .int .i64 0, .string (⟨#[]⟩ : ByteArray), .bool false]) := Lib.hid (by rw [← hwb10_10]; exact Sb10_10.out.1)
  have Gb10_10 : Hid (wb6_6.grownBy wb10_10 (Value.slice (some ⟨w_t_1.heap.size, 0, none⟩) 1 1).ownBlock) := Lib.hid (by rw [← hwb10_10]; exact Sb10_10.out.2)
  have HBwb10_10 := Lib.hid (HBwb6_6.out.grown Gb10_10.out HBwb6_6.out.size (fun q hq => (Pb6_6.out.lt q hq).1))
  clear Sb10_10
  have ka_0_0__31 := cell_other ka_0_0__16 Gb10_10.out Dout_2_a_0.out
  have ka_0_1__32 := cell_other ka_0_1__17 Gb10_10.out Dout_2_a_0.out
  have ka_0_2__33 := cell_other ka_0_2__18 Gb10_10.out Dout_2_a_0.out
  have ka_0_3__34 := cell_other ka_0_3__19 Gb10_10.out Dout_2_a_0.out
  have ka_0_4__35 := cell_other ka_0_4__20 Gb10_10.out Dout_2_a_0.out
  have kt_1_0__36 := cell_other kt_1_0__21 Gb10_10.out Dout_2_t_1.out
  have kt_1_1__37 := cell_other kt_1_1__22 Gb10_10.out Dout_2_t_1.out
  have kt_1_2__38 := cell_other kt_1_2__23 Gb10_10.out Dout_2_t_1.out
  have kt_1_3__39 := cell_other kt_1_3__24 Gb10_10.out Dout_2_t_1.out
  have kt_1_4__40 := cell_other kt_1_4__25 Gb10_10.out Dout_2_t_1.out
  replace Ot_1 := Lib.hid (own_other Ot_1.out Gb10_10.out Dout_2_t_1.out)
  clear Pb6_6 Gb10_10
  have kout_2_0__41 : wb10_10.cell? ⟨w_t_1.heap.size, 0, none⟩ = some (.int .i64 a_id) := Pb10_10.out.cells rfl 0 _ rfl
  have kout_2_1__42 : wb10_10.cell? ⟨w_t_1.heap.size, 1, none⟩ = some (.int .i64 a_thick) := Pb10_10.out.cells rfl 1 _ rfl
  have kout_2_2__43 : wb10_10.cell? ⟨w_t_1.heap.size, 2, none⟩ = some (.int .i64 0) := Pb10_10.out.cells rfl 2 _ rfl
  have kout_2_3__44 : wb10_10.cell? ⟨w_t_1.heap.size, 3, none⟩ = some (.string (⟨#[]⟩ : ByteArray)) := Pb10_10.out.cells rfl 3 _ rfl
  have kout_2_4__45 : wb10_10.cell? ⟨w_t_1.heap.size, 4, none⟩ = some (.bool false) := Pb10_10.out.cells rfl 4 _ rfl
  obtain ⟨wb14_14, hwb14_14⟩ : ∃ x, (wb10_10).setCell ⟨w_t_1.heap.size, 2, none⟩ (.int .i64 a_tint) = x := ⟨_, rfl⟩
  have z0b14_14 := Pb10_10.out.frozenAt 2
  have Sb14_14 := Lib.hid (own_stores [(2, .int .i64 a_tint)] Pb10_10.out)
  have Pb14_14 : Hid (wb14_14.ownsRow w.heap.size 38 5 (.slice (some ⟨w_t_1.heap.size, 0, none⟩) 1 1) 1 [.int .i64 a_id, .int .i64 a_thick, .int .i64 a_tint, .string (⟨#[]⟩ : ByteArray), .bool false]) := Lib.hid (by rw [← hwb14_14]; exact Sb14_14.out.1)
  have Gb14_14 : Hid (wb10_10.grownBy wb14_14 (Value.slice (some ⟨w_t_1.heap.size, 0, none⟩) 1 1).ownBlock) := Lib.hid (by rw [← hwb14_14]; exact Sb14_14.out.2)
  have HBwb14_14 := Lib.hid (HBwb10_10.out.grown Gb14_14.out HBwb10_10.out.size (fun q hq => (Pb10_10.out.lt q hq).1))
  clear Sb14_14
  have ka_0_0__46 := cell_other ka_0_0__31 Gb14_14.out Dout_2_a_0.out
  have ka_0_1__47 := cell_other ka_0_1__32 Gb14_14.out Dout_2_a_0.out
  have ka_0_2__48 := cell_other ka_0_2__33 Gb14_14.out Dout_2_a_0.out
  have ka_0_3__49 := cell_other ka_0_3__34 Gb14_14.out Dout_2_a_0.out
  have ka_0_4__50 := cell_other ka_0_4__35 Gb14_14.out Dout_2_a_0.out
  have kt_1_0__51 := cell_other kt_1_0__36 Gb14_14.out Dout_2_t_1.out
  have kt_1_1__52 := cell_other kt_1_1__37 Gb14_14.out Dout_2_t_1.out
  have kt_1_2__53 := cell_other kt_1_2__38 Gb14_14.out Dout_2_t_1.out
  have kt_1_3__54 := cell_other kt_1_3__39 Gb14_14.out Dout_2_t_1.out
  have kt_1_4__55 := cell_other kt_1_4__40 Gb14_14.out Dout_2_t_1.out
  replace Ot_1 := Lib.hid (own_other Ot_1.out Gb14_14.out Dout_2_t_1.out)
  clear Pb10_10 Gb14_14
  have kout_2_0__56 : wb14_14.cell? ⟨w_t_1.heap.size, 0, none⟩ = some (.int .i64 a_id) := Pb14_14.out.cells rfl 0 _ rfl
  have kout_2_1__57 : wb14_14.cell? ⟨w_t_1.heap.size, 1, none⟩ = some (.int .i64 a_thick) := Pb14_14.out.cells rfl 1 _ rfl
  have kout_2_2__58 : wb14_14.cell? ⟨w_t_1.heap.size, 2, none⟩ = some (.int .i64 a_tint) := Pb14_14.out.cells rfl 2 _ rfl
  have kout_2_3__59 : wb14_14.cell? ⟨w_t_1.heap.size, 3, none⟩ = some (.string (⟨#[]⟩ : ByteArray)) := Pb14_14.out.cells rfl 3 _ rfl
  have kout_2_4__60 : wb14_14.cell? ⟨w_t_1.heap.size, 4, none⟩ = some (.bool false) := Pb14_14.out.cells rfl 4 _ rfl
  obtain ⟨wb18_18, hwb18_18⟩ : ∃ x, (wb14_14).setCell ⟨w_t_1.heap.size, 3, none⟩ (.string a_mark) = x := ⟨_, rfl⟩
  have z0b18_18 := Pb14_14.out.frozenAt 3
  have Sb18_18 := Lib.hid (own_stores [(3, .string a_mark)] Pb14_14.out)
  have Pb18_18 : Hid (wb18_18.ownsRow w.heap.size 38 5 (.slice (some ⟨w_t_1.heap.size, 0, none⟩) 1 1) 1 [.int .i64 a_id, .int .i64 a_thick, .int .i64 a_tint, .string a_mark, .bool false]) := Lib.hid (by rw [← hwb18_18]; exact Sb18_18.out.1)
  have Gb18_18 : Hid (wb14_14.grownBy wb18_18 (Value.slice (some ⟨w_t_1.heap.size, 0, none⟩) 1 1).ownBlock) := Lib.hid (by rw [← hwb18_18]; exact Sb18_18.out.2)
  have HBwb18_18 := Lib.hid (HBwb14_14.out.grown Gb18_18.out HBwb14_14.out.size (fun q hq => (Pb14_14.out.lt q hq).1))
  clear Sb18_18
  have ka_0_0__61 := cell_other ka_0_0__46 Gb18_18.out Dout_2_a_0.out
  have ka_0_1__62 := cell_other ka_0_1__47 Gb18_18.out Dout_2_a_0.out
  have ka_0_2__63 := cell_other ka_0_2__48 Gb18_18.out Dout_2_a_0.out
  have ka_0_3__64 := cell_other ka_0_3__49 Gb18_18.out Dout_2_a_0.out
  have ka_0_4__65 := cell_other ka_0_4__50 Gb18_18.out Dout_2_a_0.out
  have kt_1_0__66 := cell_other kt_1_0__51 Gb18_18.out Dout_2_t_1.out
  have kt_1_1__67 := cell_other kt_1_1__52 Gb18_18.out Dout_2_t_1.out
  have kt_1_2__68 := cell_other kt_1_2__53 Gb18_18.out Dout_2_t_1.out
  have kt_1_3__69 := cell_other kt_1_3__54 Gb18_18.out Dout_2_t_1.out
  have kt_1_4__70 := cell_other kt_1_4__55 Gb18_18.out Dout_2_t_1.out
  replace Ot_1 := Lib.hid (own_other Ot_1.out Gb18_18.out Dout_2_t_1.out)
  clear Pb14_14 Gb18_18
  have kout_2_0__71 : wb18_18.cell? ⟨w_t_1.heap.size, 0, none⟩ = some (.int .i64 a_id) := Pb18_18.out.cells rfl 0 _ rfl
  have kout_2_1__72 : wb18_18.cell? ⟨w_t_1.heap.size, 1, none⟩ = some (.int .i64 a_thick) := Pb18_18.out.cells rfl 1 _ rfl
  have kout_2_2__73 : wb18_18.cell? ⟨w_t_1.heap.size, 2, none⟩ = some (.int .i64 a_tint) := Pb18_18.out.cells rfl 2 _ rfl
  have kout_2_3__74 : wb18_18.cell? ⟨w_t_1.heap.size, 3, none⟩ = some (.string a_mark) := Pb18_18.out.cells rfl 3 _ rfl
  have kout_2_4__75 : wb18_18.cell? ⟨w_t_1.heap.size, 4, none⟩ = some (.bool false) := Pb18_18.out.cells rfl 4 _ rfl
  obtain ⟨wb22_22, hwb22_22⟩ : ∃ x, (wb18_18).setCell ⟨w_t_1.heap.size, 4, none⟩ (.bool a_laid) = x := ⟨_, rfl⟩
  have z0b22_22 := Pb18_18.out.frozenAt 4
  have Sb22_22 := Lib.hid (own_stores [(4, .bool a_laid)] Pb18_18.out)
  have Pb22_22 : Hid (wb22_22.ownsRow w.heap.size 38 5 (.slice (some ⟨w_t_1.heap.size, 0, none⟩) 1 1) 1 [.int .i64 a_id, .int .i64 a_thick, .int .i64 a_tint, .string a_mark, .bool a_laid]) := Lib.hid (by rw [← hwb22_22]; exact Sb22_22.out.1)
  have Gb22_22 : Hid (wb18_18.grownBy wb22_22 (Value.slice (some ⟨w_t_1.heap.size, 0, none⟩) 1 1).ownBlock) := Lib.hid (by rw [← hwb22_22]; exact Sb22_22.out.2)
  have HBwb22_22 := Lib.hid (HBwb18_18.out.grown Gb22_22.out HBwb18_18.out.size (fun q hq => (Pb18_18.out.lt q hq).1))
  clear Sb22_22
  have ka_0_0__76 := cell_other ka_0_0__61 Gb22_22.out Dout_2_a_0.out
  have ka_0_1__77 := cell_other ka_0_1__62 Gb22_22.out Dout_2_a_0.out
  have ka_0_2__78 := cell_other ka_0_2__63 Gb22_22.out Dout_2_a_0.out
  have ka_0_3__79 := cell_other ka_0_3__64 Gb22_22.out Dout_2_a_0.out
  have ka_0_4__80 := cell_other ka_0_4__65 Gb22_22.out Dout_2_a_0.out
  have kt_1_0__81 := cell_other kt_1_0__66 Gb22_22.out Dout_2_t_1.out
  have kt_1_1__82 := cell_other kt_1_1__67 Gb22_22.out Dout_2_t_1.out
  have kt_1_2__83 := cell_other kt_1_2__68 Gb22_22.out Dout_2_t_1.out
  have kt_1_3__84 := cell_other kt_1_3__69 Gb22_22.out Dout_2_t_1.out
  have kt_1_4__85 := cell_other kt_1_4__70 Gb22_22.out Dout_2_t_1.out
  replace Ot_1 := Lib.hid (own_other Ot_1.out Gb22_22.out Dout_2_t_1.out)
  clear Pb18_18 Gb22_22
  have kout_2_0__86 : wb22_22.cell? ⟨w_t_1.heap.size, 0, none⟩ = some (.int .i64 a_id) := Pb22_22.out.cells rfl 0 _ rfl
  have kout_2_1__87 : wb22_22.cell? ⟨w_t_1.heap.size, 1, none⟩ = some (.int .i64 a_thick) := Pb22_22.out.cells rfl 1 _ rfl
  have kout_2_2__88 : wb22_22.cell? ⟨w_t_1.heap.size, 2, none⟩ = some (.int .i64 a_tint) := Pb22_22.out.cells rfl 2 _ rfl
  have kout_2_3__89 : wb22_22.cell? ⟨w_t_1.heap.size, 3, none⟩ = some (.string a_mark) := Pb22_22.out.cells rfl 3 _ rfl
  have kout_2_4__90 : wb22_22.cell? ⟨w_t_1.heap.size, 4, none⟩ = some (.bool a_laid) := Pb22_22.out.cells rfl 4 _ rfl
  obtain ⟨wb24_24, hwb24_24⟩ : ∃ x, (((((wb22_22).setCell ⟨w_a_0.heap.size, 0, none⟩ (.int .i64 a_id)).setCell ⟨w_a_0.heap.size, 1, none⟩ (.int .i64 a_thick)).setCell ⟨w_a_0.heap.size, 2, none⟩ (.int .i64 a_tint)).setCell ⟨w_a_0.heap.size, 3, none⟩ (.string a_mark)).setCell ⟨w_a_0.heap.size, 4, none⟩ (.bool a_laid) = x := ⟨_, rfl⟩
  have z0b24_24 := Ot_1.out.frozenAt 0
  have z1b24_24 := Ot_1.out.frozenAt 1
  have z2b24_24 := Ot_1.out.frozenAt 2
  have z3b24_24 := Ot_1.out.frozenAt 3
  have z4b24_24 := Ot_1.out.frozenAt 4
  have Sb24_24 := Lib.hid (own_stores [(0, .int .i64 a_id), (1, .int .i64 a_thick), (2, .int .i64 a_tint), (3, .string a_mark), (4, .bool a_laid)] Ot_1.out)
  have Pb24_24 : Hid (wb24_24.ownsRow w.heap.size 38 5 (.slice (some ⟨w_a_0.heap.size, 0, none⟩) 1 1) 1 [.int .i64 a_id, .int .i64 a_thick, .int .i64 a_tint, .string a_mark, .bool a_laid]) := Lib.hid (by rw [← hwb24_24]; exact Sb24_24.out.1)
  have Gb24_24 : Hid (wb22_22.grownBy wb24_24 (Value.slice (some ⟨w_a_0.heap.size, 0, none⟩) 1 1).ownBlock) := Lib.hid (by rw [← hwb24_24]; exact Sb24_24.out.2)
  have HBwb24_24 := Lib.hid (HBwb22_22.out.grown Gb24_24.out HBwb22_22.out.size (fun q hq => (Ot_1.out.lt q hq).1))
  clear Sb24_24
  have ka_0_0__91 := cell_other ka_0_0__76 Gb24_24.out Dt_1_a_0.out
  have ka_0_1__92 := cell_other ka_0_1__77 Gb24_24.out Dt_1_a_0.out
  have ka_0_2__93 := cell_other ka_0_2__78 Gb24_24.out Dt_1_a_0.out
  have ka_0_3__94 := cell_other ka_0_3__79 Gb24_24.out Dt_1_a_0.out
  have ka_0_4__95 := cell_other ka_0_4__80 Gb24_24.out Dt_1_a_0.out
  have kout_2_0__96 := cell_other kout_2_0__86 Gb24_24.out (Apart.symm Dout_2_t_1.out)
  have kout_2_1__97 := cell_other kout_2_1__87 Gb24_24.out (Apart.symm Dout_2_t_1.out)
  have kout_2_2__98 := cell_other kout_2_2__88 Gb24_24.out (Apart.symm Dout_2_t_1.out)
  have kout_2_3__99 := cell_other kout_2_3__89 Gb24_24.out (Apart.symm Dout_2_t_1.out)
  have kout_2_4__100 := cell_other kout_2_4__90 Gb24_24.out (Apart.symm Dout_2_t_1.out)
  replace Pb22_22 := Lib.hid (own_other Pb22_22.out Gb24_24.out (Apart.symm Dout_2_t_1.out))
  clear Ot_1 Gb24_24
  have kt_1_0__101 : wb24_24.cell? ⟨w_a_0.heap.size, 0, none⟩ = some (.int .i64 a_id) := Pb24_24.out.cells rfl 0 _ rfl
  have kt_1_1__102 : wb24_24.cell? ⟨w_a_0.heap.size, 1, none⟩ = some (.int .i64 a_thick) := Pb24_24.out.cells rfl 1 _ rfl
  have kt_1_2__103 : wb24_24.cell? ⟨w_a_0.heap.size, 2, none⟩ = some (.int .i64 a_tint) := Pb24_24.out.cells rfl 2 _ rfl
  have kt_1_3__104 : wb24_24.cell? ⟨w_a_0.heap.size, 3, none⟩ = some (.string a_mark) := Pb24_24.out.cells rfl 3 _ rfl
  have kt_1_4__105 : wb24_24.cell? ⟨w_a_0.heap.size, 4, none⟩ = some (.bool a_laid) := Pb24_24.out.cells rfl 4 _ rfl
  cases ret_hid H
  go_wp2_with fail
  (try simp only [Exit.inBlock, Exit.then])
  refine bodyPost_ret (v := .agg #[.int .i64 a_id, .int .i64 a_thick, .int .i64 a_tint, .string a_mark, .bool a_laid]) ?hr_ ?hd_ ?_
  case hd_ => rfl
  case hr_ => simp [results, Try.results15, kt_1_0__101, kt_1_1__102, kt_1_2__103, kt_1_3__104, kt_1_4__105, go_sem]
  exact ⟨rfl, HBwb24_24.out⟩
end Go.Proofs.Ytbnpdaipgamgkaa.GlToPaper

/- loop.example/g01062/laws.toPaperS as a plain function, and the contract of the program's: where the plain one has an answer, the program has it. Conditions: slices read as lists. -/
namespace Go.Proofs.Ytbnpdaipgamgkaa.GlToPaperS
set_option linter.unusedVariables false
set_option linter.unusedSimpArgs false
open Go.RowKit
open Go.Proofs.Ytbnpdaipgamgkaa.Rowed Go.Proofs.Ytbnpdaipgamgkaa.Turn Go.Proofs.Ytbnpdaipgamgkaa.Aid Go.Proofs.Ytbnpdaipgamgkaa.GoP Go.Proofs.Ytbnpdaipgamgkaa.GoM

def l0 (a : (List Go.Proofs.Ytbnpdaipgamgkaa.PPaper.Paper)) (k0 : Nat) (s : (List Go.Proofs.Ytbnpdaipgamgkaa.PPaper.Paper)) (nx0 bk0 : (List Go.Proofs.Ytbnpdaipgamgkaa.PPaper.Paper) → Option ((List Go.Proofs.Ytbnpdaipgamgkaa.PPaper.Paper))) : Option ((List Go.Proofs.Ytbnpdaipgamgkaa.PPaper.Paper)) :=
  letK s fun out_3l0 =>
  Option.bind (idx a (k0 : Int)) fun (yt_14 : Go.Proofs.Ytbnpdaipgamgkaa.PPaper.Paper) =>
  unPaper yt_14 fun (t_14_id : Int) (t_14_thick : Int) (t_14_tint : Int) (t_14_mark : ByteArray) (t_14_laid : Bool) =>
  Option.bind (Go.Proofs.Ytbnpdaipgamgkaa.GlToPaper.P (Go.Proofs.Ytbnpdaipgamgkaa.PPaper.Paper.mk t_14_id t_14_thick t_14_tint t_14_mark t_14_laid)) fun (t_16 : Go.Proofs.Ytbnpdaipgamgkaa.PPaper.Paper) =>
  unPaper t_16 fun (t_16_id : Int) (t_16_thick : Int) (t_16_tint : Int) (t_16_mark : ByteArray) (t_16_laid : Bool) =>
  Option.bind (idx out_3l0 (k0 : Int)) fun (yt_17 : Go.Proofs.Ytbnpdaipgamgkaa.PPaper.Paper) =>
  unPaper yt_17 fun (t_17_id : Int) (t_17_thick : Int) (t_17_tint : Int) (t_17_mark : ByteArray) (t_17_laid : Bool) =>
  letK (out_3l0.set k0 (Go.Proofs.Ytbnpdaipgamgkaa.PPaper.Paper.mk t_16_id t_16_thick t_16_tint t_16_mark t_16_laid)) fun (l18_18 : (List Go.Proofs.Ytbnpdaipgamgkaa.PPaper.Paper)) =>
  appK nx0 (l18_18)

def e0  (s : (List Go.Proofs.Ytbnpdaipgamgkaa.PPaper.Paper)) : Option ((List Go.Proofs.Ytbnpdaipgamgkaa.PPaper.Paper)) :=
  letK s fun out_3l0 =>
  some out_3l0

def P (a : (List Go.Proofs.Ytbnpdaipgamgkaa.PPaper.Paper)) : Option ((List Go.Proofs.Ytbnpdaipgamgkaa.PPaper.Paper)) :=
  guardK (0 ≤ (a.length : Int) ∧ (a.length : Int) ≤ 1099511627776) <|
  letK (List.replicate a.length (Go.Proofs.Ytbnpdaipgamgkaa.PPaper.Paper.mk 0 0 0 ByteArray.empty false)) fun (t_3 : (List Go.Proofs.Ytbnpdaipgamgkaa.PPaper.Paper)) =>
  cntK (l0 a) (a.length) 0 (t_3) (e0 )

set_option maxRecDepth 100000 in
set_option maxHeartbeats 2000000 in
theorem C (a : (List Go.Proofs.Ytbnpdaipgamgkaa.PPaper.Paper)) (A0 : Option Addr) (c0 : Nat)  (w : World) (M0 : Hid (Cells w 5 A0 a.length (Go.Proofs.Ytbnpdaipgamgkaa.PPaper.flat a))) (N0 : Hid (a.length ≤ 9223372036854775807))  {r : (List Go.Proofs.Ytbnpdaipgamgkaa.PPaper.Paper)} (H : Hid (P a = some r)) :
    Calls Try.prog 6 #[.slice A0 a.length c0] w (fun e w' => ∃ A_r c_r, e = .returned (.slice A_r r.length c_r) ∧ w'.ownsRow w.heap.size 38 5 (.slice A_r r.length c_r) r.length (Go.Proofs.Ytbnpdaipgamgkaa.PPaper.flat r) ∧ Below w.heap.size w w') := by
  have HB := Lib.hid (Below.refl w.heap.size w)
  unfold P at H
  have N0o := N0.out
  obtain ⟨i0_38, hi_38, hz0_38, hz1_38, hz2_38⟩ := Aid.info_parts (P := Try.prog) (T := 38) (z := .agg #[.int .i64 0, .int .i64 0, .int .i64 0, .string ByteArray.empty, .bool false]) (s := 5) (b := 48) (by kernel_rfl)
  go_enter Try.func6, Try.ntmps6
  replace H := guard_hid H
  obtain ⟨hnt_3, H⟩ := H
  replace H := let_hid H
  obtain ⟨t_3, ht_3, H⟩ := H
  have hst_3 := HB.out.size
  have hlt_3 : t_3.length = a.length := by rw [← ht_3]; simp
  have hht_3 := Lib.hid ht_3
  clear ht_3
  go_wp2_with (at_make; refine wpList_make_full _ rfl _ _ 27 rfl w.heap.size 38 i0_38 (.agg #[.int .i64 0, .int .i64 0, .int .i64 0, .string ByteArray.empty, .bool false]) 5 Try.underlying27 hi_38 hz0_38 hz1_38 .i64 .i64 _ _ a.length rfl rfl (by omega) (by omega) (by rw [hz2_38]; omega) (by unfold maxLen; omega) hst_3 ?_; intro wt_3 ot_3 gt_3; have Qt_3 := Lib.hid ot_3; have Gt_3 := Lib.hid gt_3; clear ot_3 gt_3; refine stop_in ?_)
  refine stop_out ?_
  have hv_ : (Value.slice (some ⟨w.heap.size, 0, none⟩) a.length a.length : Value) = Value.slice (some ⟨w.heap.size, 0, none⟩) t_3.length a.length := by rw [hlt_3]
  rw [hv_]
  clear hv_
  have Et_3 : (Go.Proofs.Ytbnpdaipgamgkaa.PPaper.flat t_3) = (madeCells (.agg #[.int .i64 0, .int .i64 0, .int .i64 0, .string ByteArray.empty, .bool false] : Value).cells (a.length * 5)).toList := by
    rw [made_flat Go.Proofs.Ytbnpdaipgamgkaa.PPaper.Paper.cells (Go.Proofs.Ytbnpdaipgamgkaa.PPaper.Paper.mk 0 0 0 ByteArray.empty false) _ 5 _ rfl rfl (by decide), ← hht_3.out]
    rfl
  have Pt_3 : Hid (wt_3.ownsRow w.heap.size 38 5 (.slice (some ⟨w.heap.size, 0, none⟩) a.length a.length) a.length (Go.Proofs.Ytbnpdaipgamgkaa.PPaper.flat t_3)) := Lib.hid (by rw [Et_3]; exact Qt_3.out)
  clear Et_3
  replace hlt_3 := Lib.hid hlt_3
  clear Qt_3 hst_3
  have bt_3 : Below w.heap.size w wt_3 := (Below.refl _ _).grown Gt_3.out (Nat.le_refl _) (by simp)
  clear Gt_3
  have HBwt_3 := Lib.hid (Below.step HB.out bt_3)
  clear bt_3
  replace Pt_3 := Lib.hid (own_len hlt_3.out Pt_3.out)
  go_wp2_with fail
  go_wp2_with fail
  go_loopg [4] (a.length) (fun m_ v4_ wr => ∃ (k0 : Nat) (out_3l0 : (List Go.Proofs.Ytbnpdaipgamgkaa.PPaper.Paper)), k0 + m_ = a.length ∧ v4_ = .int .i64 (k0 : Int) ∧ Hid (cntK (l0 a) m_ k0 (out_3l0) (e0 ) = some r) ∧ Hid (Below w.heap.size w wr) ∧ Hid (wr.ownsRow w.heap.size 38 5 (.slice (some ⟨w.heap.size, 0, none⟩) t_3.length a.length) t_3.length (Go.Proofs.Ytbnpdaipgamgkaa.PPaper.flat out_3l0)) ∧ Hid (out_3l0.length = t_3.length))
  case atStart => exact ⟨0, _, by omega, rfl, H, HBwt_3, Pt_3, Lib.hid (rfl)⟩
  case round =>
    obtain ⟨k0, out_3l0, hkm0, rfl, H, HBwr0, Oout_3l0, hnout_3l0⟩ := hrel
    rename World => wr0
    cases gk with
    | zero =>
      obtain rfl : k0 = a.length := by omega
      have hc0 : decide (((a.length : Nat) : Int) < ((a.length : Nat) : Int)) = false := by simp
      replace H := cnt_zero H
      unfold e0 at H
      replace H := let_hid H
      obtain ⟨_, rfl, H⟩ := H
      obtain rfl := ret_hid H
      go_wp2_with fail
      go_ret
      have hr_0 := hnout_3l0.out
      replace Oout_3l0 := Lib.hid (own_len hr_0 Oout_3l0.out)
      exact ⟨(some ⟨w.heap.size, 0, none⟩), a.length, (by first | (rw [hr_0]; done) | (rw [hr_0]; rfl)), Oout_3l0.out, HBwr0.out⟩
    | succ m0 =>
      have hlt0 : k0 < a.length := by omega
      have hc0 : decide ((k0 : Int) < ((a.length : Nat) : Int)) = true := by simp; omega
      replace H := cnt_succ H
      unfold l0 at H
      replace H := let_hid H
      obtain ⟨_, rfl, H⟩ := H
      replace H := idx_hid H
      obtain ⟨nt_14, yt_14, et_14, lt_14, gt_14, H⟩ := H
      obtain rfl : k0 = nt_14 := by omega
      clear et_14
      obtain ⟨t_14_id, t_14_thick, t_14_tint, t_14_mark, t_14_laid⟩ := yt_14
      replace H := unPaper_hid H
      obtain ⟨ab_t_14, ao_t_14, zt_14, At_14, z_t_14, ct_14_0, ct_14_1, ct_14_2, ct_14_3, ct_14_4⟩ := Go.Proofs.Ytbnpdaipgamgkaa.OPaper.at_ M0.out lt_14
      obtain rfl := Option.some.inj (gt_14.out.symm.trans z_t_14)
      subst At_14
      have ltt_14 := cell_lt ct_14_0
      replace ct_14_0 := cell_below HBwr0.out ct_14_0
      replace ct_14_1 := cell_below HBwr0.out ct_14_1
      replace ct_14_2 := cell_below HBwr0.out ct_14_2
      replace ct_14_3 := cell_below HBwr0.out ct_14_3
      replace ct_14_4 := cell_below HBwr0.out ct_14_4
      clear z_t_14
      have b0t_14 : (0 : Int) ≤ (k0 : Int) := by omega
      have b1t_14 : (k0 : Int) < ((a.length : Nat) : Int) := by omega
      have b2t_14 : ((k0 : Int)).toNat = k0 := by omega
      replace H := bind_hid H
      obtain ⟨t_16, qt_16, H⟩ := H
      obtain ⟨t_16_id, t_16_thick, t_16_tint, t_16_mark, t_16_laid⟩ := t_16
      replace H := unPaper_hid H
      go_wp2_with fail
      go_at_call 15
      refine (Go.Proofs.Ytbnpdaipgamgkaa.GlToPaper.C ((Go.Proofs.Ytbnpdaipgamgkaa.PPaper.Paper.mk t_14_id t_14_thick t_14_tint t_14_mark t_14_laid))  _    qt_16).mono ?_
      rintro e_t_16 wt_16 ⟨rfl, bt_16⟩
      unfold Go.Proofs.Ytbnpdaipgamgkaa.PPaper.Paper.val
      have HBwt_16 := Lib.hid (Below.step HBwr0.out bt_16)
      replace ct_14_0 := cell_below bt_16 ct_14_0
      replace ct_14_1 := cell_below bt_16 ct_14_1
      replace ct_14_2 := cell_below bt_16 ct_14_2
      replace ct_14_3 := cell_below bt_16 ct_14_3
      replace ct_14_4 := cell_below bt_16 ct_14_4
      replace Oout_3l0 := Lib.hid (own_below Oout_3l0.out bt_16)
      clear bt_16
      replace H := idx_hid H
      obtain ⟨nt_17, yt_17, et_17, lt_17, gt_17, H⟩ := H
      obtain rfl : k0 = nt_17 := by omega
      clear et_17
      obtain ⟨t_17_id, t_17_thick, t_17_tint, t_17_mark, t_17_laid⟩ := yt_17
      replace H := unPaper_hid H
      have hqt_17 := hnout_3l0.out
      obtain ⟨ab_t_17, ao_t_17, zt_17, At_17, z_t_17, ct_17_0, ct_17_1, ct_17_2, ct_17_3, ct_17_4⟩ := Go.Proofs.Ytbnpdaipgamgkaa.OPaper.at_ (own_cells Oout_3l0.out) (k := k0) (by omega)
      obtain rfl := Option.some.inj (gt_17.out.symm.trans z_t_17)
      simp only [Option.some.injEq, Addr.mk.injEq] at At_17
      obtain ⟨rfl, rfl, _⟩ := At_17
      clear z_t_17
      simp only [Nat.zero_add] at ct_17_0 ct_17_1 ct_17_2 ct_17_3 ct_17_4
      have b0t_17 : (0 : Int) ≤ (k0 : Int) := by omega
      have b1t_17 : (k0 : Int) < ((t_3.length : Nat) : Int) := by omega
      have b2t_17 : ((k0 : Int)).toNat = k0 := by omega
      clear hqt_17
      replace H := let_hid H
      obtain ⟨l18_18, hl18_18, H⟩ := H
      try simp only [Int.toNat_natCast] at hl18_18
      obtain ⟨wl18_18, hwl18_18⟩ : ∃ x, (((((wt_16).setCell ⟨w.heap.size, k0 * 5, none⟩ (.int .i64 t_16_id)).setCell ⟨w.heap.size, k0 * 5 + 1, none⟩ (.int .i64 t_16_thick)).setCell ⟨w.heap.size, k0 * 5 + 2, none⟩ (.int .i64 t_16_tint)).setCell ⟨w.heap.size, k0 * 5 + 3, none⟩ (.string t_16_mark)).setCell ⟨w.heap.size, k0 * 5 + 4, none⟩ (.bool t_16_laid) = x := ⟨_, rfl⟩
      have z0l18_18 := Oout_3l0.out.frozenAt (k0 * 5)
      have z1l18_18 := Oout_3l0.out.frozenAt (k0 * 5 + 1)
      have z2l18_18 := Oout_3l0.out.frozenAt (k0 * 5 + 2)
      have z3l18_18 := Oout_3l0.out.frozenAt (k0 * 5 + 3)
      have z4l18_18 := Oout_3l0.out.frozenAt (k0 * 5 + 4)
      have Sl18_18 := Lib.hid (own_stores [(k0 * 5, .int .i64 t_16_id), (k0 * 5 + 1, .int .i64 t_16_thick), (k0 * 5 + 2, .int .i64 t_16_tint), (k0 * 5 + 3, .string t_16_mark), (k0 * 5 + 4, .bool t_16_laid)] Oout_3l0.out)
      have nl18_18 : Hid (l18_18.length = t_3.length) := Lib.hid (by rw [← hl18_18, List.length_set]; exact hnout_3l0.out)
      have Pl18_18 : Hid (wl18_18.ownsRow w.heap.size 38 5 (.slice (some ⟨w.heap.size, 0, none⟩) t_3.length a.length) t_3.length (Go.Proofs.Ytbnpdaipgamgkaa.PPaper.flat l18_18)) := Lib.hid (by have es_ := set_self gt_17.out; have e0_ := flat_set Go.Proofs.Ytbnpdaipgamgkaa.PPaper.Paper.cells 5 (fun _ => rfl) out_3l0 (k0) 0 (Go.Proofs.Ytbnpdaipgamgkaa.PPaper.Paper.mk t_17_id t_17_thick t_17_tint t_17_mark t_17_laid) (Go.Proofs.Ytbnpdaipgamgkaa.PPaper.Paper.mk t_16_id t_17_thick t_17_tint t_17_mark t_17_laid) (.int .i64 t_16_id) lt_17 (by decide) rfl; have e1_ := flat_set Go.Proofs.Ytbnpdaipgamgkaa.PPaper.Paper.cells 5 (fun _ => rfl) out_3l0 (k0) 1 (Go.Proofs.Ytbnpdaipgamgkaa.PPaper.Paper.mk t_16_id t_17_thick t_17_tint t_17_mark t_17_laid) (Go.Proofs.Ytbnpdaipgamgkaa.PPaper.Paper.mk t_16_id t_16_thick t_17_tint t_17_mark t_17_laid) (.int .i64 t_16_thick) lt_17 (by decide) rfl; have e2_ := flat_set Go.Proofs.Ytbnpdaipgamgkaa.PPaper.Paper.cells 5 (fun _ => rfl) out_3l0 (k0) 2 (Go.Proofs.Ytbnpdaipgamgkaa.PPaper.Paper.mk t_16_id t_16_thick t_17_tint t_17_mark t_17_laid) (Go.Proofs.Ytbnpdaipgamgkaa.PPaper.Paper.mk t_16_id t_16_thick t_16_tint t_17_mark t_17_laid) (.int .i64 t_16_tint) lt_17 (by decide) rfl; have e3_ := flat_set Go.Proofs.Ytbnpdaipgamgkaa.PPaper.Paper.cells 5 (fun _ => rfl) out_3l0 (k0) 3 (Go.Proofs.Ytbnpdaipgamgkaa.PPaper.Paper.mk t_16_id t_16_thick t_16_tint t_17_mark t_17_laid) (Go.Proofs.Ytbnpdaipgamgkaa.PPaper.Paper.mk t_16_id t_16_thick t_16_tint t_16_mark t_17_laid) (.string t_16_mark) lt_17 (by decide) rfl; have e4_ := flat_set Go.Proofs.Ytbnpdaipgamgkaa.PPaper.Paper.cells 5 (fun _ => rfl) out_3l0 (k0) 4 (Go.Proofs.Ytbnpdaipgamgkaa.PPaper.Paper.mk t_16_id t_16_thick t_16_tint t_16_mark t_17_laid) (Go.Proofs.Ytbnpdaipgamgkaa.PPaper.Paper.mk t_16_id t_16_thick t_16_tint t_16_mark t_16_laid) (.bool t_16_laid) lt_17 (by decide) rfl; rw [es_] at e0_; have e_ : ([(k0 * 5, .int .i64 t_16_id), (k0 * 5 + 1, .int .i64 t_16_thick), (k0 * 5 + 2, .int .i64 t_16_tint), (k0 * 5 + 3, .string t_16_mark), (k0 * 5 + 4, .bool t_16_laid)] : List (Nat × Value)).foldl (fun xs p => xs.set p.1 p.2) (Go.Proofs.Ytbnpdaipgamgkaa.PPaper.flat out_3l0) = (Go.Proofs.Ytbnpdaipgamgkaa.PPaper.flat l18_18) := (by rw [← hl18_18]; show _ = List.flatMap Go.Proofs.Ytbnpdaipgamgkaa.PPaper.Paper.cells _; first | (rw [← e4_, ← e3_, ← e2_, ← e1_, ← e0_]; first | done | rfl) | (rw [← e4_, ← e3_, ← e2_, ← e1_, es_, ← e0_]; first | done | rfl)); rw [← hwl18_18, ← e_]; exact Sl18_18.out.1)
      have Gl18_18 : Hid (wt_16.grownBy wl18_18 (Value.slice (some ⟨w.heap.size, 0, none⟩) t_3.length a.length).ownBlock) := Lib.hid (by rw [← hwl18_18]; exact Sl18_18.out.2)
      have HBwl18_18 := Lib.hid (HBwt_16.out.grown Gl18_18.out HBwt_16.out.size (fun q hq => (Oout_3l0.out.lt q hq).1))
      have hhl18_18 := Lib.hid hl18_18
      clear hl18_18 Sl18_18
      have ct_14_0__106 := cell_other ct_14_0 Gl18_18.out (apart_old Oout_3l0.out ltt_14)
      have ct_14_1__107 := cell_other ct_14_1 Gl18_18.out (apart_old Oout_3l0.out ltt_14)
      have ct_14_2__108 := cell_other ct_14_2 Gl18_18.out (apart_old Oout_3l0.out ltt_14)
      have ct_14_3__109 := cell_other ct_14_3 Gl18_18.out (apart_old Oout_3l0.out ltt_14)
      have ct_14_4__110 := cell_other ct_14_4 Gl18_18.out (apart_old Oout_3l0.out ltt_14)
      clear Oout_3l0 Gl18_18
      replace H := app_hid H
      go_wp2_with fail
      clear z0l18_18 z1l18_18 z2l18_18 z3l18_18 z4l18_18 ct_14_0 ct_14_1 ct_14_2 ct_14_3 ct_14_4 ct_17_0 ct_17_1 ct_17_2 ct_17_3 ct_17_4
      go_roundg m0
      case measure => omega
      case rel => exact ⟨k0 + 1, _, by omega, by go_num, H, HBwl18_18, Pl18_18, Lib.hid (nl18_18.out)⟩
end Go.Proofs.Ytbnpdaipgamgkaa.GlToPaperS

/- More words for the contracts of plain functions: a test against nil, a row that is handed over, a row whose end is cleared. No condition. -/
namespace Go.Proofs.Ytbnpdaipgamgkaa.GoK
set_option linter.unusedVariables false
open Go.RowKit
open Go.Proofs.Ytbnpdaipgamgkaa.Rowed Go.Proofs.Ytbnpdaipgamgkaa.Turn Go.Proofs.Ytbnpdaipgamgkaa.GoM

/-- a test of a row against nil: only an empty row can be nil, and then both ways have one answer -/
def nilK {α ρ : Type} (l : List α) (f : Bool → Option ρ) : Option ρ := f false
theorem nilK_hid {α ρ : Type} {l : List α} {f : Bool → Option ρ} {r : ρ} (H : Hid (nilK l f = some r)) (b : Bool) (hb : b = true → l = []) (he : l = [] → f true = f false) : Hid (f b = some r) := by
  have h : f false = some r := H
  cases b with
  | false => exact h
  | true => exact (he (hb rfl)).trans h
theorem nil_cells {w : World} {K n : Nat} {A : Option Addr} {α : Type} {l : List α} {cs : List Value} (h : Cells w K A n cs) (hl : cs = [] → l = []) : A.isNone = true → l = [] := by
  intro hA
  refine hl ?_
  cases hc : cs with
  | nil => rfl
  | cons y ys => obtain ⟨a, e, _⟩ := h.2 (by rw [hc]; simp); rw [e] at hA; simp at hA
/-- where a row lies that a function hands on: where another one lay, or behind all that was there -/
def From (w : World) (A A' : Option Addr) : Prop := ∀ a', A' = some a' → (∃ a, A = some a ∧ a.block = a'.block) ∨ w.heap.size ≤ a'.block
theorem from_self {w : World} {A : Option Addr} : From w A A := fun a h => .inl ⟨a, h, rfl⟩
theorem from_new {w : World} {A : Option Addr} {g : Nat} (h : w.heap.size ≤ g) : From w A (some ⟨g, 0, none⟩) := by
  intro a' e
  injection e with e
  subst e
  exact .inr h
theorem apart_from {w : World} {A A' B : Option Addr} (hD : Apart A B) (hB : ∀ a, B = some a → a.block < w.heap.size) (h : From w A A') : Apart A' B := by
  intro a a' ha ha' e
  have hl := hB a' ha'
  rcases h a ha with ⟨a2, h2, e2⟩ | h2
  · exact hD a2 a' h2 ha' (e2.trans e)
  · omega
theorem own_emptyB {b : Nat} {wc : World} {T K : Nat} (h : b ≤ wc.heap.size) : (wc.alloc (.cells #[] T)).ownsRow b T K (.slice (some ⟨wc.heap.size, 0, none⟩) 0 0) 0 [] :=
  ⟨by simp, .inr ⟨wc.heap.size, 0, #[], rfl, h, heap_alloc_new wc _, Nat.le_refl _, by unfold maxLen; omega, by simp, by simp⟩⟩
theorem own_setCells {b T K n c g : Nat} : ∀ (vs : List Value) (o : Nat) {w : World} {xs : List Value}, w.ownsRow b T K (.slice (some ⟨g, 0, none⟩) n c) n xs → o + vs.length ≤ xs.length →
    (w.setCells g o vs).ownsRow b T K (.slice (some ⟨g, 0, none⟩) n c) n (xs.take o ++ vs ++ xs.drop (o + vs.length)) ∧ w.grownBy (w.setCells g o vs) (some g) := by
  intro vs
  induction vs with
  | nil => intro o w xs h _; exact ⟨by simpa [World.setCells] using h, Aid.grown_refl _ _⟩
  | cons v vs ih =>
    intro o w xs h hl
    simp only [List.length_cons] at hl
    have h1 := h.stored o v
    have h2 := ih (o + 1) h1.1 (by rw [List.length_set]; omega)
    refine ⟨?_, Aid.grown_tr h1.2 h2.2⟩
    have e : (xs.set o v).take (o + 1) ++ vs ++ (xs.set o v).drop (o + 1 + vs.length) = xs.take o ++ (v :: vs) ++ xs.drop (o + (v :: vs).length) := by
      have ho : o < xs.length := by omega
      rw [List.drop_set_of_lt (by omega), List.take_add_one, List.getElem?_set_self ho, List.take_set_of_le (Nat.le_refl _)]
      simp [Nat.add_comm, Nat.add_left_comm]
    rw [← e]
    exact h2.1
/-- clear(s[lo:]) of a row of its own -/
theorem own_clear {P : Program} {t e : TypeId} {i : TypeInfo} {k : IntKind} {n c b : Nat} {A : Option Addr} {lo : Int} {w : World} {xs ys : List Value} {z : Value}
    (ht : P.underlying t = some (.slice (P.elem t))) (he : P.elem t = e) (hi : P.info? e = some i) (hs : i.size = 1) (hv : i.zero = some z) (hz : z.cells = #[z]) (h1 : z.oneCell' = true)
    (h : w.ownsRow b e 1 (.slice A n c) n xs) (hl : 0 ≤ lo ∧ lo ≤ (n : Int)) (hd : xs.take lo.toNat ++ List.replicate (n - lo.toNat) z = ys) :
    ∃ A' m c' w', (∀ W, (Instr.slice t (.slice A n c) (some (.int k lo)) none none).run P W = .ok (.slice A' m c') W) ∧ (∀ ty, (Builtin.clear_ #[t] ty #[.slice A' m c']).run P w = .ok (.tuple #[]) w') ∧
      w'.ownsRow b e 1 (.slice A n c) n ys ∧ w.grownBy w' (Value.slice A n c).ownBlock := by
  have hR := own_room h
  have hxs : xs.length = n := by have := h.1; omega
  have hsz : ∀ W, (sizeOf (P.elem t)).run P W = .ok 1 W := by intro W; subst he; simp [sizeOf, typeInfo, hi, hs]
  have hrun : ∀ W, (Instr.slice t (.slice A n c) (some (.int k lo)) none none).run P W = .ok (.slice (if c = lo.toNat then A else A.map (·.add (lo.toNat * 1))) (n - lo.toNat) (c - lo.toNat)) W := by
    intro W
    rw [run_slice_l (P := P) W t A n c ht k lo hl.1 hl.2, hsz W]
    rfl
  by_cases hm : n - lo.toNat = 0
  · refine ⟨_, _, _, w, hrun, ?_, ?_, Aid.grown_refl _ _⟩
    · intro ty
      rw [hm]
      generalize (if c = lo.toNat then A else A.map (·.add (lo.toNat * 1))) = A'
      cases A' <;> simp [Builtin.clear_, run_underlying ht]
    · rw [← hd, hm, List.replicate_zero, List.append_nil, List.take_of_length_le (by omega)]
      exact h
  · obtain ⟨g, rfl⟩ := own_some h (by omega)
    have hne : ¬ c = lo.toNat := by have := hR.1; omega
    have hcl := own_cells h
    have hget : ∀ j, j < n → (w.cell? ⟨g, j, none⟩).isSome = true := by
      intro j hj
      obtain ⟨ad, e0, hc⟩ := hcl.2 (by omega)
      obtain rfl := Option.some.inj e0
      have := hc j xs[j] (List.getElem?_eq_getElem (by omega))
      rw [add_flat, Nat.zero_add] at this
      rw [this]; rfl
    have hadd : (if c = lo.toNat then (some ⟨g, 0, none⟩ : Option Addr) else (some ⟨g, 0, none⟩ : Option Addr).map (·.add (lo.toNat * 1))) = some ⟨g, lo.toNat, none⟩ := by
      rw [if_neg hne, Option.map_some, add_flat, Nat.zero_add, Nat.mul_one]
    rw [hadd] at hrun
    have h2 := own_setCells (List.replicate (n - lo.toNat) z) lo.toNat h (by rw [List.length_replicate]; omega)
    refine ⟨_, _, _, _, hrun, fun ty => ?_, ?_, h2.2⟩
    · refine Lib.run_clear_slice w t e ty z (he ▸ ht) (fun w => by simp [zeroValue, typeInfo, hi, hv]) hz h1 g lo.toNat (n - lo.toNat) (c - lo.toNat) (by omega) (fun j hj => hget _ (by omega)) (fun j hj => h.frozenAt _)
    · have e2 : xs.take lo.toNat ++ List.replicate (n - lo.toNat) z ++ xs.drop (lo.toNat + (List.replicate (n - lo.toNat) z).length) = ys := by
        rw [List.length_replicate, List.drop_of_length_le (by omega), List.append_nil, hd]
      rw [← e2]
      exact h2.1
theorem apart_xio {n bb oo : Nat} {B : Option Addr} (h : 0 < n → Apart (some ⟨bb, oo, none⟩) B) (h0 : 0 < n) : Apart B (some ⟨bb, 0, none⟩) := by
  intro a a' ha ha' e
  injection ha' with ha'
  subst ha'
  exact h h0 ⟨bb, oo, none⟩ a rfl ha e.symm
/-- a row that came in, where another one was written -/
theorem cells_wr {w w' : World} {K n q c' : Nat} {A B : Option Addr} {xs : List Value} (h : Cells w K A n xs) (hg : w.grownBy w' (Value.slice B q c').ownBlock) (hX : 0 < n → Apart A B) : Cells w' K A n xs := by
  refine ⟨h.1, fun h0 => ?_⟩
  obtain ⟨a, e, hc⟩ := h.2 h0
  have hn : 0 < n := by
    rcases Nat.eq_zero_or_pos n with h1 | h1
    · have := h.1; rw [h1, Nat.zero_mul] at this; omega
    · exact h1
  refine ⟨a, e, fun j u hu => ?_⟩
  have hj := hc j u hu
  have hb : (a.add j).block = a.block := by unfold Addr.add; split <;> rfl
  rw [World.cell?_of_block (hg.block (a.add j).block (cell_lt hj) ?_)]
  · exact hj
  · cases hB : B with
    | none => simp [Value.ownBlock]
    | some y =>
      simp only [Value.ownBlock, ne_eq, Option.some.injEq]
      intro e2
      exact hX hn a y e hB (by rw [← hb]; exact e2)
/-- what came in lies apart from a row of one's own -/
theorem far_base {w w1 : World} {K n T K' m c n' : Nat} {A B : Option Addr} {cs xs : List Value} (hK : 0 < K) (h : Cells w K A n cs) (hO : w1.ownsRow w.heap.size T K' (.slice B m c) n' xs) : 0 < n → Apart A B := by
  intro hn a a' ha ha' e
  have h0 : 0 < cs.length := by rw [h.1]; exact Nat.mul_pos hn hK
  obtain ⟨a2, e2, hc⟩ := h.2 h0
  obtain rfl : a = a2 := by rw [ha] at e2; exact Option.some.inj e2
  have hl := cell_lt (hc 0 _ (List.getElem?_eq_getElem h0))
  have hb : (a.add 0).block = a.block := by unfold Addr.add; simp
  have := (own_lt hO a' ha').1
  rw [hb] at hl
  omega
end Go.Proofs.Ytbnpdaipgamgkaa.GoK

/- Rows of records in one's own memory: clear of a tail; a part taken out (append(s[:i], s[j:]...), clear of what is left behind). No condition. -/
namespace Go.Proofs.Ytbnpdaipgamgkaa.GoD
set_option linter.unusedVariables false
set_option linter.unusedSimpArgs false
open Go.RowKit
open Go.Proofs.Ytbnpdaipgamgkaa.Rowed Go.Proofs.Ytbnpdaipgamgkaa.Turn Go.Proofs.Ytbnpdaipgamgkaa.GoM Go.Proofs.Ytbnpdaipgamgkaa.GoK

theorem flatten_rep (zs : List Value) : ∀ (n i : Nat), (List.replicate n zs).flatten[i]? = if i < n * zs.length then some zs[i % zs.length]! else none
  | 0, i => by simp
  | n + 1, i => by
    rw [List.replicate_succ, List.flatten_cons]
    by_cases hi : i < zs.length
    · rw [List.getElem?_append_left hi, Nat.mod_eq_of_lt hi, if_pos (by rw [Nat.succ_mul]; omega), List.getElem?_eq_getElem hi]
      simp [getElem!_pos, hi]
    · have h1 : (i - zs.length < n * zs.length) ↔ (i < (n + 1) * zs.length) := by rw [Nat.succ_mul]; omega
      have h2 : (i - zs.length) % zs.length = i % zs.length := (Nat.mod_eq_sub_mod (by omega)).symm
      rw [List.getElem?_append_right (by omega), flatten_rep zs n (i - zs.length), h2]
      simp only [h1]
theorem rep_len (zs : List Value) (n : Nat) : (List.replicate n zs).flatten.length = n * zs.length := by simp
theorem zero_list (zs : List Value) (n : Nat) : (Builtin.zeroCells zs.toArray n).toList = (List.replicate n zs).flatten := by
  apply List.ext_getElem?
  intro i
  rw [flatten_rep]
  unfold Builtin.zeroCells
  by_cases hi : i < n * zs.length
  · rw [if_pos hi]; simp [hi]
  · rw [if_neg hi, List.getElem?_eq_none (by simp; omega)]
theorem run_clearK {P : Program} (w : World) (t e ty : TypeId) (z : Value) (zs : List Value) (ht : P.underlying t = some (.slice e)) (hv : ∀ w, (zeroValue e).run P w = .ok z w) (hz : z.cells = zs.toArray) (h1 : ∀ u ∈ zs, u.oneCell' = true) (b o n c : Nat) (hn : 0 < n)
    (hc : ∀ j, j < n * zs.length → (w.cell? ⟨b, o + j, none⟩).isSome = true) (hf : ∀ j, j < n * zs.length → w.frozen? ⟨b, o + j, none⟩ = false) :
    (Builtin.clear_ #[t] ty #[.slice (some ⟨b, o, none⟩) n c]).run P w = .ok (.tuple #[]) (w.setCells b o (List.replicate n zs).flatten) := by
  have hl := rep_len zs n
  have hst := run_storeCells_cells (P := P) b o (List.replicate n zs).flatten 0 w (by rw [hl]; simpa using hc) (by rw [hl]; simpa using hf)
    (by intro v hv'; obtain ⟨l, hl1, hl2⟩ := List.mem_flatten.1 hv'; rw [List.eq_of_mem_replicate hl1] at hl2; exact h1 v hl2)
  simp only [Nat.add_zero] at hst
  have hzl := zero_list zs n
  obtain ⟨m, rfl⟩ : ∃ m, n = m + 1 := ⟨n - 1, by omega⟩
  simp [Builtin.clear_, run_underlying ht, hv, hz, hzl, hst]
theorem flat_clear {α : Type} (f : α → List Value) (K : Nat) (hK : ∀ x, (f x).length = K) (l : List α) (q m : Nat) (z : α) : (l.flatMap f).take (q * K) ++ (List.replicate m (f z)).flatten = (l.take q ++ List.replicate m z).flatMap f := by
  rw [flat_take f K hK, List.flatMap_append]
  congr 1
  induction m with
  | zero => rfl
  | succ m ih => rw [List.replicate_succ, List.flatten_cons, List.replicate_succ, List.flatMap_cons, ih]
/-- clear(s[lo:]) of a row of its own, of records -/
theorem own_clearK {P : Program} {t e : TypeId} {i : TypeInfo} {k : IntKind} {K n c b : Nat} {A : Option Addr} {lo : Int} {w : World} {xs ys zs : List Value} {z : Value}
    (ht : P.underlying t = some (.slice (P.elem t))) (he : P.elem t = e) (hi : P.info? e = some i) (hs : i.size = K) (hv : i.zero = some z) (hz : z.cells = zs.toArray) (hzl : zs.length = K) (hK : 0 < K) (h1 : ∀ u ∈ zs, u.oneCell' = true)
    (h : w.ownsRow b e K (.slice A n c) n xs) (hl : 0 ≤ lo ∧ lo ≤ (n : Int)) (hd : xs.take (lo.toNat * K) ++ (List.replicate (n - lo.toNat) zs).flatten = ys) :
    ∃ A' m c' w', (∀ W, (Instr.slice t (.slice A n c) (some (.int k lo)) none none).run P W = .ok (.slice A' m c') W) ∧ (∀ ty, (Builtin.clear_ #[t] ty #[.slice A' m c']).run P w = .ok (.tuple #[]) w') ∧
      w'.ownsRow b e K (.slice A n c) n ys ∧ w.grownBy w' (Value.slice A n c).ownBlock := by
  have hR := own_room h
  have hxs : xs.length = n * K := h.1
  have hsz : ∀ W, (sizeOf (P.elem t)).run P W = .ok K W := by intro W; subst he; simp [sizeOf, typeInfo, hi, hs]
  have hrun : ∀ W, (Instr.slice t (.slice A n c) (some (.int k lo)) none none).run P W = .ok (.slice (if c = lo.toNat then A else A.map (·.add (lo.toNat * K))) (n - lo.toNat) (c - lo.toNat)) W := by
    intro W
    rw [run_slice_l (P := P) W t A n c ht k lo hl.1 hl.2, hsz W]
    rfl
  by_cases hm : n - lo.toNat = 0
  · refine ⟨_, _, _, w, hrun, ?_, ?_, Aid.grown_refl _ _⟩
    · intro ty
      rw [hm]
      generalize (if c = lo.toNat then A else A.map (·.add (lo.toNat * K))) = A'
      cases A' <;> simp [Builtin.clear_, run_underlying ht]
    · have hle : n * K ≤ lo.toNat * K := Nat.mul_le_mul_right K (by omega)
      rw [← hd, hm, List.replicate_zero, List.flatten_nil, List.append_nil, List.take_of_length_le (by omega)]
      exact h
  · obtain ⟨g, rfl⟩ := own_some h (by omega)
    have hne : ¬ c = lo.toNat := by have := hR.1; omega
    have hcl := own_cells h
    have hmul : lo.toNat * K + (n - lo.toNat) * K = n * K := by rw [← Nat.add_mul]; congr 1; omega
    have hget : ∀ j, j < n * K → (w.cell? ⟨g, j, none⟩).isSome = true := by
      intro j hj
      obtain ⟨ad, e0, hc⟩ := hcl.2 (by omega)
      obtain rfl := Option.some.inj e0
      have := hc j xs[j] (List.getElem?_eq_getElem (by omega))
      rw [add_flat, Nat.zero_add] at this
      rw [this]; rfl
    have hadd : (if c = lo.toNat then (some ⟨g, 0, none⟩ : Option Addr) else (some ⟨g, 0, none⟩ : Option Addr).map (·.add (lo.toNat * K))) = some ⟨g, lo.toNat * K, none⟩ := by
      rw [if_neg hne, Option.map_some, add_flat, Nat.zero_add]
    rw [hadd] at hrun
    have hrl : (List.replicate (n - lo.toNat) zs).flatten.length = (n - lo.toNat) * K := by rw [rep_len, hzl]
    have h2 := own_setCells (List.replicate (n - lo.toNat) zs).flatten (lo.toNat * K) h (by rw [hrl]; omega)
    refine ⟨_, _, _, _, hrun, fun ty => ?_, ?_, h2.2⟩
    · exact run_clearK w t e ty z zs (he ▸ ht) (fun w => by simp [zeroValue, typeInfo, hi, hv]) hz h1 g (lo.toNat * K) (n - lo.toNat) (c - lo.toNat) (by omega) (fun j hj => hget _ (by rw [hzl] at hj; omega)) (fun j hj => h.frozenAt _)
    · have e2 : xs.take (lo.toNat * K) ++ (List.replicate (n - lo.toNat) zs).flatten ++ xs.drop (lo.toNat * K + (List.replicate (n - lo.toNat) zs).flatten.length) = ys := by
        rw [hrl, List.drop_of_length_le (by omega), List.append_nil, hd]
      rw [← e2]
      exact h2.1
/-- s[lo:] of a row of its own, to be read -/
theorem slice_view {P : Program} {t e : TypeId} {i : TypeInfo} {k : IntKind} {K n c b : Nat} {A : Option Addr} {lo : Int} {w : World} {xs ys : List Value} {m : Nat}
    (ht : P.underlying t = some (.slice (P.elem t))) (he : P.elem t = e) (hi : P.info? e = some i) (hs : i.size = K) (h : w.ownsRow b e K (.slice A n c) n xs) (hl : 0 ≤ lo ∧ lo ≤ (n : Int)) (hm : n - lo.toNat = m) (hd : xs.drop (lo.toNat * K) = ys) :
    ∃ A' c', (∀ W, (Instr.slice t (.slice A n c) (some (.int k lo)) none none).run P W = .ok (.slice A' m c') W) ∧ (∀ W : World, W.ownsRow b e K (.slice A n c) n xs → Cells W K A' m ys) ∧ Room A' m c' := by
  have hR := own_room h
  subst hm
  have hsz : ∀ W, (sizeOf (P.elem t)).run P W = .ok K W := by intro W; subst he; simp [sizeOf, typeInfo, hi, hs]
  have hrun : ∀ W, (Instr.slice t (.slice A n c) (some (.int k lo)) none none).run P W = .ok (.slice (if c = lo.toNat then A else A.map (·.add (lo.toNat * K))) (n - lo.toNat) (c - lo.toNat)) W := by
    intro W
    rw [run_slice_l (P := P) W t A n c ht k lo hl.1 hl.2, hsz W]
    rfl
  have key : ∀ W : World, W.ownsRow b e K (.slice A n c) n xs → Cells W K (if c = lo.toNat then A else A.map (·.add (lo.toNat * K))) (n - lo.toNat) ys ∧ Room (if c = lo.toNat then A else A.map (·.add (lo.toNat * K))) (n - lo.toNat) (c - lo.toNat) := by
    intro W hW
    obtain ⟨A', c', hr, hC, hM⟩ := slice_tail (P := P) (t := t) (k := k) ht he hi hs (own_cells hW) (own_room hW) hl rfl hd
    have e1 := (hr W).symm.trans (hrun W)
    simp only [Result.ok.injEq, Value.slice.injEq, true_and, and_true] at e1
    obtain ⟨rfl, rfl⟩ := e1
    exact ⟨hC, hM⟩
  exact ⟨_, _, hrun, fun W hW => (key W hW).1, (key w h).2⟩
/-- s[:hi] of a row of its own, to be read -/
theorem slice_viewH {P : Program} {t e : TypeId} {i : TypeInfo} {k : IntKind} {K n c b : Nat} {A : Option Addr} {hi : Int} {w : World} {xs ys : List Value} {m : Nat}
    (ht : P.underlying t = some (.slice (P.elem t))) (he : P.elem t = e) (hi_ : P.info? e = some i) (hs : i.size = K) (h : w.ownsRow b e K (.slice A n c) n xs) (hl : 0 ≤ hi ∧ hi ≤ (n : Int)) (hm : hi.toNat = m) (hd : xs.take (hi.toNat * K) = ys) :
    ∃ A' c', (∀ W, (Instr.slice t (.slice A n c) none (some (.int k hi)) none).run P W = .ok (.slice A' m c') W) ∧ (∀ W : World, W.ownsRow b e K (.slice A n c) n xs → Cells W K A' m ys) ∧ Room A' m c' :=
  ⟨A, c, (slice_head ht he hi_ hs h hl hm hd).1, fun W hW => own_cells (slice_head (k := k) ht he hi_ hs hW hl hm hd).2, own_room (slice_head (k := k) ht he hi_ hs h hl hm hd).2⟩
/-- a part of a row of its own is taken out: append(s[:p], s[q:]...), then clear of what is left behind -/
theorem own_cut {P : Program} {t e : TypeId} {i : TypeInfo} {K n c b : Nat} {A : Option Addr} {w : World} {xs zs : List Value} {z : Value}
    (ht : P.underlying t = some (.slice (P.elem t))) (he : P.elem t = e) (hi : P.info? e = some i) (hs : i.size = K) (hv : i.zero = some z) (hz : z.cells = zs.toArray) (hzl : zs.length = K) (hK : 0 < K) (h1 : ∀ u ∈ zs, u.oneCell' = true) (hx1 : ∀ u ∈ xs, u.oneCell' = true)
    (h : w.ownsRow b e K (.slice A n c) n xs) {p q : Nat} (hpq : p < q) (hq : q ≤ n) :
    ∃ g A1 c1 w1 w2, A = some ⟨g, 0, none⟩ ∧ (∀ W, (Instr.slice t (.slice (some ⟨g, 0, none⟩) n c) none (some (.int .i64 (p : Int))) none).run P W = .ok (.slice (some ⟨g, 0, none⟩) p c) W) ∧
      (∀ W, (Instr.slice t (.slice (some ⟨g, 0, none⟩) n c) (some (.int .i64 (q : Int))) none none).run P W = .ok (.slice A1 (n - q) c1) W) ∧
      (∀ ty, (Builtin.append_ #[t, t] ty #[.slice (some ⟨g, 0, none⟩) p c, .slice A1 (n - q) c1]).run P w = .ok (.slice (some ⟨g, 0, none⟩) (p + (n - q)) c) w1) ∧
      (∀ ty, (Builtin.clear_ #[t] ty #[.slice (some ⟨g, (p + (n - q)) * K, none⟩) (n - (p + (n - q))) (c - (p + (n - q)))]).run P w1 = .ok (.tuple #[]) w2) ∧
      w2.ownsRow b e K (.slice (some ⟨g, 0, none⟩) (p + (n - q)) c) (p + (n - q)) (xs.take (p * K) ++ xs.drop (q * K)) ∧ w.grownBy w2 (some g) := by
  have hR := own_room h
  have hxs : xs.length = n * K := h.1
  obtain ⟨g, rfl⟩ := own_some h (by omega)
  have hsz : ∀ W, (sizeOf (P.elem t)).run P W = .ok K W := by intro W; subst he; simp [sizeOf, typeInfo, hi, hs]
  have hcl := own_cells h
  have hpK : p * K + (q - p) * K = q * K := by rw [← Nat.add_mul]; congr 1; omega
  have hqK : q * K + (n - q) * K = n * K := by rw [← Nat.add_mul]; congr 1; omega
  have hmK : (p + (n - q)) * K = p * K + (n - q) * K := Nat.add_mul _ _ _
  have hmm : (p + (n - q)) * K + (q - p) * K = n * K := by rw [← Nat.add_mul]; congr 1; omega
  have r1 := (slice_head (P := P) (t := t) (k := .i64) (hi := (p : Int)) (m := p) ht he hi hs h ⟨by omega, by omega⟩ (by omega) rfl).1
  have r2 : ∀ W, (Instr.slice t (.slice (some ⟨g, 0, none⟩) n c) (some (.int .i64 (q : Int))) none none).run P W = .ok (.slice (some (if c = q then ⟨g, 0, none⟩ else ⟨g, q * K, none⟩)) (n - q) (c - q)) W := by
    intro W
    rw [run_slice_l (P := P) W t _ n c ht .i64 (q : Int) (by omega) (by omega), hsz W]
    simp only [Result.andThen, sliced, Int.toNat_natCast, Option.map_some, add_flat, Nat.zero_add]
    by_cases hcq : c = q <;> simp [hcq]
  obtain ⟨_, hown⟩ := h
  rcases hown with ⟨h0, _⟩ | ⟨g', cap, cur, e0, hb, hg, hnc, hcm, hcs, htake⟩
  · simp at h0
  simp only [Value.slice.injEq, Option.some.injEq, Addr.mk.injEq, true_and, and_true] at e0
  obtain ⟨rfl, rfl⟩ := e0
  have h : w.ownsRow b e K (.slice (some ⟨g, 0, none⟩) n c) n xs := ⟨hxs, .inr ⟨g, c, cur, rfl, hb, hg, hnc, hcm, hcs, htake⟩⟩
  have hnews : (xs.drop (q * K)).length = (n - q) * i.size := by rw [List.length_drop, hs]; omega
  have hcK : n * K ≤ c * K := Nat.mul_le_mul_right K hnc
  have hcell : ∀ j u, (xs.drop (q * K))[j]? = some u → w.cell? ((if c = q then ⟨g, 0, none⟩ else ⟨g, q * K, none⟩ : Addr).add j) = some u := by
    intro j u hu
    rw [List.getElem?_drop] at hu
    have hlt := (List.getElem?_eq_some_iff.1 hu).1
    obtain ⟨ad, ea, hc⟩ := hcl.2 (by omega)
    obtain rfl := Option.some.inj ea
    have := hc (q * K + j) u hu
    rw [add_flat, Nat.zero_add] at this
    have hne : ¬ c = q := by
      intro ec
      have : n = q := by omega
      rw [this] at hxs
      omega
    rw [if_neg hne, add_flat]
    exact this
  have hfit : p * i.size + (xs.drop (q * K)).length ≤ cur.size := by rw [hnews, hs, hcs]; omega
  have ra := fun ty => run_append_room (P := P) w t ty e i (he ▸ ht) hi g p c cur hg _ (n - q) (c - q) _ hnews hcell (fun u hu => hx1 u (List.mem_of_mem_drop hu)) (by omega) hfit
  obtain ⟨w1, hw1⟩ : ∃ x, w.setRow g (cur.toList.take (p * i.size) ++ xs.drop (q * K) ++ cur.toList.drop (p * i.size + (xs.drop (q * K)).length)).toArray = x := ⟨_, rfl⟩
  rw [hw1] at ra
  have hn2 : (xs.drop (q * K)).length = (n - q) * K := by rw [hnews, hs]
  have hcl2 : cur.toList.length = c * K := by simpa using hcs
  have hpn : p * K ≤ n * K := Nat.mul_le_mul_right K (by omega)
  have hx : ∀ m, m ≤ n * K → cur.toList.take m = xs.take m := by
    intro m hm
    rw [← htake, List.take_take, Nat.min_eq_left hm]
  have ho1 : w1.ownsRow b e K (.slice (some ⟨g, 0, none⟩) n c) n (xs.take (p * K) ++ xs.drop (q * K) ++ (cur.toList.drop (p * K + (n - q) * K)).take ((q - p) * K)) := by
    refine ⟨?_, .inr ⟨g, c, (xs.take (p * K) ++ xs.drop (q * K) ++ cur.toList.drop (p * K + (n - q) * K)).toArray, rfl, hb, ?_, hnc, hcm, ?_, ?_⟩⟩
    · rw [List.length_append, List.length_append, hn2, List.length_take, List.length_take, List.length_drop, hcl2]; omega
    · rw [← hw1, hs, hn2, hx _ hpn]; exact setRow_heap w g cur _ e _ hg
    · rw [List.size_toArray, List.length_append, List.length_append, hn2, List.length_take, List.length_drop, hcl2]; omega
    · rw [List.take_append, List.take_of_length_le (l := xs.take (p * K) ++ xs.drop (q * K)) (by rw [List.length_append, hn2, List.length_take]; omega)]
      congr 2
      rw [List.length_append, hn2, List.length_take]; omega
  have hgr1 : w.grownBy w1 (some g) := by
    rw [← hw1]
    exact ⟨rfl, rfl, rfl, by simp [World.setRow], fun k _ hk => setRow_other w g k _ (fun e => hk (by rw [e]))⟩
  have hrl : (List.replicate (q - p) zs).flatten.length = (q - p) * K := by rw [rep_len, hzl]
  have hl1 : (xs.take (p * K) ++ xs.drop (q * K) ++ (cur.toList.drop (p * K + (n - q) * K)).take ((q - p) * K)).length = n * K := ho1.1
  have hset := own_setCells (List.replicate (q - p) zs).flatten ((p + (n - q)) * K) ho1 (by rw [hrl, hl1]; omega)
  have hcl1 := own_cells ho1
  have hget : ∀ j, j < n * K → (w1.cell? ⟨g, j, none⟩).isSome = true := by
    intro j hj
    obtain ⟨ad, ea, hc⟩ := hcl1.2 (by rw [hl1]; omega)
    obtain rfl := Option.some.inj ea
    have := hc j _ (List.getElem?_eq_getElem (by rw [hl1]; exact hj))
    rw [add_flat, Nat.zero_add] at this
    rw [this]; rfl
  have hcr := fun ty => run_clearK w1 t e ty z zs (he ▸ ht) (fun w => by simp [zeroValue, typeInfo, hi, hv]) hz h1 g ((p + (n - q)) * K) (q - p) (c - (p + (n - q))) (by omega) (fun j hj => hget _ (by rw [hzl] at hj; omega)) (fun j hj => ho1.frozenAt _)
  have hcr2 : ∀ ty, (Builtin.clear_ #[t] ty #[.slice (some ⟨g, (p + (n - q)) * K, none⟩) (n - (p + (n - q))) (c - (p + (n - q)))]).run P w1 = .ok (.tuple #[]) (w1.setCells g ((p + (n - q)) * K) (List.replicate (q - p) zs).flatten) := by rw [show n - (p + (n - q)) = q - p by omega]; exact hcr
  refine ⟨g, _, _, w1, _, rfl, r1, r2, ra, hcr2, ?_, Aid.grown_tr hgr1 hset.2⟩
  have hh := (slice_head (P := P) (t := t) (k := .i64) (hi := ((p + (n - q) : Nat) : Int)) (m := p + (n - q)) ht he hi hs hset.1 ⟨by omega, by omega⟩ (by omega) rfl).2
  rw [Int.toNat_natCast, List.append_assoc, List.take_append_of_le_length (by rw [List.length_take, hl1]; omega), List.take_take, Nat.min_self, List.take_append_of_le_length (by rw [List.length_append, hn2, List.length_take]; omega), List.take_of_length_le (by rw [List.length_append, hn2, List.length_take]; omega)] at hh
  exact hh
/-- an append that is known, as one step of a region that draws its order -/
theorem step_append_run {P : Program} {w : World} {ops : Array Oper} {o : Oper} {a : Act} {K : Act → World → Prop} {Q : Exit → Act → World → Prop} {E : Prop} (hgd : o.guard = none) (s x : Operand) (t : TypeId)
    (ho : o.op = .call { callee := .builtin .append, args := #[s, x], argTypes := #[t, t] }) {sv xv v' : Value} {w' : World} (hs : a.eval s = sv) (hx : a.eval x = xv)
    (hr : ∀ ty, (Builtin.append_ #[t, t] ty #[sv, xv]).run P w = .ok v' w') (h : K (a.put o.dst v') w') :
    if Region.wanted o (yielded ops a.tmps) = true then Oper.wp P o a w K Q else E := by
  have hw : Region.wanted o (yielded ops a.tmps) = true := by simp [Region.wanted, hgd]
  rw [if_pos hw]
  unfold Oper.wp execOp
  simp only [ho, resolve, invoke, builtin, Sem.run_bind, Sem.run_pure, Result.andThen_ok, List.map_toArray, List.map_cons, List.map_nil, hs, hx, hr]
  exact h
end Go.Proofs.Ytbnpdaipgamgkaa.GoD

/- An append onto a row of its own as one step of a region that draws its order. No condition. -/
namespace Go.Proofs.Ytbnpdaipgamgkaa.GoH
set_option linter.unusedVariables false
theorem step_append_own {P : Program} {w : World} {ops : Array Oper} {o : Oper} {a : Act} {K : Act → World → Prop} {Q : Exit → Act → World → Prop} {E : Prop} (hgd : o.guard = none) (s x : Operand) (t : TypeId)
    (ho : o.op = .call { callee := .builtin .append, args := #[s, x], argTypes := #[t, t] })
    (base : Nat) (e : TypeId) (i : TypeInfo) (z : Value) (size bytes : Nat) (ht : P.underlying t = some (.slice e)) (hi : P.info? e = some i) (hz : i.zero = some z)
    (hsize : i.size = size) (hby : i.bytes = bytes) (hzs : z.cells.size = size) (hsz : 0 < size)
    (A : Option Addr) (c n : Nat) (xs : List Value) (hs : a.eval s = .slice A n c) (hown : w.ownsRow base e size (.slice A n c) n xs)
    (ad : Addr) (cc : Nat) (news : List Value) (hx : a.eval x = .slice (some ad) 1 cc) (hl : news.length = 1 * size) (hnews : ∀ j u, news[j]? = some u → w.cell? (ad.add j) = some u) (h1 : ∀ u ∈ news, u.oneCell' = true)
    (h63 : n + 1 ≤ maxLen) (hbytes : (n + 1) * bytes ≤ 140737488355328) (hbase : base ≤ w.heap.size)
    (h : ∀ v' w', w'.ownsRow base e size v' (n + 1) (xs ++ news) → w.grownBy w' (Value.slice A n c).ownBlock → (v'.ownBlock = (Value.slice A n c).ownBlock ∨ v'.ownBlock = some w.heap.size) → K (a.put o.dst v') w') :
    if Region.wanted o (yielded ops a.tmps) = true then Oper.wp P o a w K Q else E := by
  refine Go.step_append_lies w hgd s x t ho base e i z size bytes ht hi hz hsize hby hzs hsz (.slice A n c) n xs hs hown ad 1 cc news hx hl hnews h1 (by omega) h63 hbytes hbase w.heap.size rfl ?_
  intro g cap w' o1 g1 y1 _
  refine h _ w' o1 g1 ?_
  rcases y1 with y1 | y1
  · left; rw [y1]; rfl
  · right; rw [y1]; rfl
/-- append(a, b...) onto a row of its own as one step of such a region -/
theorem step_spread_own {P : Program} {w : World} {ops : Array Oper} {o : Oper} {a : Act} {K : Act → World → Prop} {Q : Exit → Act → World → Prop} {E : Prop} (hgd : o.guard = none) (s x : Operand) (t : TypeId)
    (ho : o.op = .call { callee := .builtin .append, args := #[s, x], argTypes := #[t, t] })
    (base : Nat) (e : TypeId) (i : TypeInfo) (z : Value) (size bytes : Nat) (ht : P.underlying t = some (.slice e)) (hi : P.info? e = some i) (hz : i.zero = some z)
    (hsize : i.size = size) (hby : i.bytes = bytes) (hzs : z.cells.size = size) (hsz : 0 < size)
    (A1 : Option Addr) (c1 n : Nat) (xs : List Value) (hs : a.eval s = .slice A1 n c1) (hown : w.ownsRow base e size (.slice A1 n c1) n xs)
    (A : Option Addr) (m c : Nat) (news : List Value) (hx : a.eval x = .slice A m c) (hN : Go.Proofs.Ytbnpdaipgamgkaa.GoM.Room A m c) (hc : Go.Proofs.Ytbnpdaipgamgkaa.Rowed.Cells w size A m news) (h1 : ∀ u ∈ news, u.oneCell' = true)
    (h63 : n + m ≤ maxLen) (hbytes : (n + m) * bytes ≤ 140737488355328) (hbase : base ≤ w.heap.size)
    (h : ∀ v' w', w'.ownsRow base e size v' (n + m) (xs ++ news) → w.grownBy w' (Value.slice A1 n c1).ownBlock → (v'.ownBlock = (Value.slice A1 n c1).ownBlock ∨ v'.ownBlock = some w.heap.size) → K (a.put o.dst v') w') :
    if Region.wanted o (yielded ops a.tmps) = true then Oper.wp P o a w K Q else E := by
  have hw : Region.wanted o (yielded ops a.tmps) = true := by simp [Region.wanted, hgd]
  rw [if_pos hw]
  obtain ⟨v', w', hr, h2, h3, h5⟩ : ∃ v' w', (Builtin.append_ #[t, t] o.type #[.slice A1 n c1, .slice A m c]).run P w = .ok v' w' ∧ w'.ownsRow base e size v' (n + m) (xs ++ news) ∧ w.grownBy w' (Value.slice A1 n c1).ownBlock ∧ (v'.ownBlock = (Value.slice A1 n c1).ownBlock ∨ v'.ownBlock = some w.heap.size) := by
    cases A with
    | some ad =>
      obtain ⟨v', w', hr, h2, h3, _, h5⟩ := run_append_own_at (P := P) w base t o.type e i z size bytes ht hi hz hsize hby hzs hsz (.slice A1 n c1) n xs hown ad m c news hc.1 (fun j u hu => by
        obtain ⟨ad', e', hcell⟩ := hc.2 (by have := (List.getElem?_eq_some_iff.1 hu).1; omega)
        obtain rfl : ad = ad' := Option.some.inj e'
        exact hcell j u hu) h1 h63 hbytes hbase
      exact ⟨v', w', hr, h2, h3, h5⟩
    | none =>
      have hm : m = 0 := by
        cases news with
        | nil =>
          have h0 : ([] : List Value).length = m * size := hc.1
          rw [List.length_nil] at h0
          rcases Nat.mul_eq_zero.1 h0.symm with h1 | h1 <;> omega
        | cons y l => obtain ⟨ad, e', _⟩ := hc.2 (by simp); simp at e'
      obtain rfl : c = 0 := hN.2 rfl
      subst hm
      have hn : news = [] := List.eq_nil_of_length_eq_zero (by have := hc.1; simpa using this)
      subst hn
      exact ⟨_, w, run_append_owned_none (P := P) w base t o.type e i size ht hi (.slice A1 n c1) n xs hown, by simpa using hown, World.grownBy.refl w _, .inl rfl⟩
  unfold Oper.wp execOp
  simp only [ho, resolve, invoke, builtin, Sem.run_bind, Sem.run_pure, Result.andThen_ok, List.map_toArray, List.map_cons, List.map_nil, hs, hx, hr]
  exact h v' w' h2 h3 h5
end Go.Proofs.Ytbnpdaipgamgkaa.GoH

/- loop.example/g01062/spec.l1In as a plain function, and the contract of the program's: where the plain one has an answer, the program has it. Conditions: slices read as lists. -/
namespace Go.Proofs.Ytbnpdaipgamgkaa.GsL1In
set_option linter.unusedVariables false
set_option linter.unusedSimpArgs false
open Go.RowKit
open Go.Proofs.Ytbnpdaipgamgkaa.Rowed Go.Proofs.Ytbnpdaipgamgkaa.Turn Go.Proofs.Ytbnpdaipgamgkaa.Aid Go.Proofs.Ytbnpdaipgamgkaa.GoP Go.Proofs.Ytbnpdaipgamgkaa.GoM

def P (x : Int) (a : Int) (b : Int) : Option (Bool) :=
  letK (decide (a ≤ x)) fun (t_3 : Bool) =>
  joinK (fun (t_8 : Bool) =>
  some t_8) fun jt_8 => iteK t_3 (letK (decide (x ≤ b)) fun (t_7 : Bool) =>
  appK jt_8 t_7) (appK jt_8 false)

set_option maxRecDepth 100000 in
set_option maxHeartbeats 2000000 in
theorem C (x : Int) (a : Int) (b : Int)   (w : World)   {r : Bool} (H : Hid (P x a b = some r)) :
    Calls Try.prog 27 #[.int .i64 x, .int .i64 a, .int .i64 b] w (Gives (.bool r) w) := by
  have HB := Lib.hid (Below.refl w.heap.size w)
  unfold P at H
  go_enter Try.func27, Try.ntmps27
  replace H := let_hid H
  obtain ⟨t_3, ht_3, H⟩ := H
  replace H := join_hid H
  cases t_3 with
  | false =>
    replace H := ite_f H
    replace H := app_hid H
    obtain rfl := ret_hid H
    go_wp2_with fail
    go_ret
    exact ⟨rfl, HB.out⟩
  | true =>
    replace H := ite_t H
    replace H := let_hid H
    obtain ⟨t_7, ht_7, H⟩ := H
    replace H := app_hid H
    obtain rfl := ret_hid H
    go_wp2_with fail
    go_ret
    exact ⟨rfl, HB.out⟩

set_option maxRecDepth 100000 in
set_option maxHeartbeats 2000000 in
theorem C0 (x : Int) (a : Int) (b : Int)   (w : World)   {r : Bool} (H : Hid (P x a b = some r)) :
    Calls Try.prog 27 #[.int .i64 x, .int .i64 a, .int .i64 b] w (fun e w'' => e = .returned (.bool r) ∧ w'' = w) := by
  have HB := Lib.hid (Below.refl w.heap.size w)
  unfold P at H
  go_enter Try.func27, Try.ntmps27
  replace H := let_hid H
  obtain ⟨t_3, ht_3, H⟩ := H
  replace H := join_hid H
  cases t_3 with
  | false =>
    replace H := ite_f H
    replace H := app_hid H
    obtain rfl := ret_hid H
    go_wp2_with fail
    go_ret
    exact ⟨rfl, rfl⟩
  | true =>
    replace H := ite_t H
    replace H := let_hid H
    obtain ⟨t_7, ht_7, H⟩ := H
    replace H := app_hid H
    obtain rfl := ret_hid H
    go_wp2_with fail
    go_ret
    exact ⟨rfl, rfl⟩
end Go.Proofs.Ytbnpdaipgamgkaa.GsL1In

/- loop.example/g01062/spec.l2Word as a plain function, and the contract of the program's: where the plain one has an answer, the program has it. Conditions: slices read as lists. -/
namespace Go.Proofs.Ytbnpdaipgamgkaa.GsL2Word
set_option linter.unusedVariables false
set_option linter.unusedSimpArgs false
open Go.RowKit
open Go.Proofs.Ytbnpdaipgamgkaa.Rowed Go.Proofs.Ytbnpdaipgamgkaa.Turn Go.Proofs.Ytbnpdaipgamgkaa.Aid Go.Proofs.Ytbnpdaipgamgkaa.GoP Go.Proofs.Ytbnpdaipgamgkaa.GoM

def l0 (s_0 : ByteArray) (k0 : Nat) (s : Unit) (nx0 bk0 : Unit → Option (Bool)) : Option (Bool) :=
  
  Option.bind (idx s_0.toList (k0 : Int)) fun (yt_8 : UInt8) =>
  letK ((yt_8.toNat : Int)) fun (t_8 : Int) =>
  letK (decide (t_8 < 97)) fun (t_9 : Bool) =>
  joinK (fun (t_15 : Bool) =>
  iteK t_15
  (some false)
  (appK nx0 ())) fun jt_15 => iteK t_9 (appK jt_15 true) (Option.bind (idx s_0.toList (k0 : Int)) fun (yt_13 : UInt8) =>
  letK ((yt_13.toNat : Int)) fun (t_13 : Int) =>
  letK (decide (122 < t_13)) fun (t_14 : Bool) =>
  appK jt_15 t_14)

def e0 (s_0 : ByteArray) (s : Unit) : Option (Bool) :=
  
  Option.bind (Go.Proofs.Ytbnpdaipgamgkaa.GsL1In.P (s_0.size : Int) 1 10) fun (t_22 : Bool) =>
  some t_22

def P (s_0 : ByteArray) : Option (Bool) :=
  guardK (s_0.size ≤ 9223372036854775807) <|
  cntK (l0 s_0) (s_0.size) 0 () (e0 s_0)

set_option maxRecDepth 100000 in
set_option maxHeartbeats 2000000 in
theorem C (s_0 : ByteArray)   (w : World)   {r : Bool} (H : Hid (P s_0 = some r)) :
    Calls Try.prog 28 #[.string s_0] w (Gives (.bool r) w) := by
  have HB := Lib.hid (Below.refl w.heap.size w)
  unfold P at H
  go_enter Try.func28, Try.ntmps28
  replace H := guard_hid H
  obtain ⟨hg0, H⟩ := H
  go_wp2_with fail
  go_loopg [3] (s_0.size) (fun m_ v3_ wr => ∃ (k0 : Nat) , k0 + m_ = s_0.size ∧ v3_ = .int .i64 (k0 : Int) ∧ Hid (cntK (l0 s_0) m_ k0 () (e0 s_0) = some r) ∧ Hid (Below w.heap.size w wr))
  case atStart => exact ⟨0, by omega, rfl, H, HB⟩
  case round =>
    obtain ⟨k0, hkm0, rfl, H, HBwr0⟩ := hrel
    rename World => wr0
    cases gk with
    | zero =>
      obtain rfl : k0 = s_0.size := by omega
      have hc0 : decide (((s_0.size : Nat) : Int) < ((s_0.size : Nat) : Int)) = false := by simp
      replace H := cnt_zero H
      unfold e0 at H
      replace H := bind_hid H
      obtain ⟨t_22, qt_22, H⟩ := H
      go_wp2_with fail
      go_at_call 27
      refine (Go.Proofs.Ytbnpdaipgamgkaa.GsL1In.C ((s_0.size : Int)) (1) (10)  _    qt_22).mono ?_
      rintro e_t_22 wt_22 ⟨rfl, bt_22⟩
      have HBwt_22 := Lib.hid (Below.step HBwr0.out bt_22)
      clear bt_22
      obtain rfl := ret_hid H
      go_wp2_with fail
      go_ret
      exact ⟨rfl, HBwt_22.out⟩
    | succ m0 =>
      have hlt0 : k0 < s_0.size := by omega
      have hc0 : decide ((k0 : Int) < ((s_0.size : Nat) : Int)) = true := by simp; omega
      replace H := cnt_succ H
      unfold l0 at H
      replace H := idx_hid H
      obtain ⟨nt_8, yt_8, et_8, lt_8, gt_8, H⟩ := H
      obtain rfl : k0 = nt_8 := by omega
      clear et_8
      have rt_8 := byte_rule lt_8 gt_8.out
      have b0t_8 : (0 : Int) ≤ (k0 : Int) := by omega
      have b1t_8 : (k0 : Int) < (s_0.size : Int) := by have := size_list s_0; omega
      have b2t_8 : ((k0 : Int)).toNat = k0 := by omega
      have b3t_8 : k0 < s_0.size := by have := size_list s_0; omega
      replace H := let_hid H
      obtain ⟨t_8, ht_8, H⟩ := H
      replace H := let_hid H
      obtain ⟨t_9, ht_9, H⟩ := H
      replace H := join_hid H
      cases t_9 with
      | false =>
        replace H := ite_f H
        replace H := idx_hid H
        obtain ⟨nt_13, yt_13, et_13, lt_13, gt_13, H⟩ := H
        obtain rfl : k0 = nt_13 := by omega
        clear et_13
        obtain rfl := Option.some.inj (gt_8.out.symm.trans gt_13.out)
        clear gt_13 lt_13
        replace H := let_hid H
        obtain ⟨t_13, ht_13, H⟩ := H
        obtain rfl := ht_8.symm.trans ht_13
        replace H := let_hid H
        obtain ⟨t_14, ht_14, H⟩ := H
        replace H := app_hid H
        cases t_14 with
        | false =>
          replace H := ite_f H
          replace H := app_hid H
          go_wp2_with fail
          go_roundg m0
          case measure => omega
          case rel => exact ⟨k0 + 1, by omega, by go_num, H, HBwr0⟩
        | true =>
          replace H := ite_t H
          obtain rfl := ret_hid H
          go_wp2_with fail
          go_ret
          exact ⟨rfl, HBwr0.out⟩
      | true =>
        replace H := ite_t H
        replace H := app_hid H
        replace H := ite_t H
        obtain rfl := ret_hid H
        go_wp2_with fail
        go_ret
        exact ⟨rfl, HBwr0.out⟩
end Go.Proofs.Ytbnpdaipgamgkaa.GsL2Word

/- loop.example/g01062/spec.l3One as a plain function, and the contract of the program's: where the plain one has an answer, the program has it. Conditions: slices read as lists. -/
namespace Go.Proofs.Ytbnpdaipgamgkaa.GsL3One
set_option linter.unusedVariables false
set_option linter.unusedSimpArgs false
open Go.RowKit
open Go.Proofs.Ytbnpdaipgamgkaa.Rowed Go.Proofs.Ytbnpdaipgamgkaa.Turn Go.Proofs.Ytbnpdaipgamgkaa.Aid Go.Proofs.Ytbnpdaipgamgkaa.GoP Go.Proofs.Ytbnpdaipgamgkaa.GoM

def P (p : Go.Proofs.Ytbnpdaipgamgkaa.PPaper.Paper) : Option (Bool) :=
  unPaper p fun (p_id : Int) (p_thick : Int) (p_tint : Int) (p_mark : ByteArray) (p_laid : Bool) =>
  Option.bind (Go.Proofs.Ytbnpdaipgamgkaa.GsL1In.P p_id 1 99) fun (t_4 : Bool) =>
  joinK (fun (t_9 : Bool) =>
  joinK (fun (t_14 : Bool) =>
  joinK (fun (t_24 : Bool) =>
  some t_24) fun jt_24 => iteK t_14 (letK (p_mark.toList.isEmpty) fun (t_18 : Bool) =>
  joinK (fun (t_23 : Bool) =>
  appK jt_24 t_23) fun jt_23 => iteK t_18 (appK jt_23 true) (Option.bind (Go.Proofs.Ytbnpdaipgamgkaa.GsL2Word.P p_mark) fun (t_22 : Bool) =>
  appK jt_23 t_22)) (appK jt_24 false)) fun jt_14 => iteK t_9 (Option.bind (Go.Proofs.Ytbnpdaipgamgkaa.GsL1In.P p_tint 0 9) fun (t_13 : Bool) =>
  appK jt_14 t_13) (appK jt_14 false)) fun jt_9 => iteK t_4 (Option.bind (Go.Proofs.Ytbnpdaipgamgkaa.GsL1In.P p_thick 1 300) fun (t_8 : Bool) =>
  appK jt_9 t_8) (appK jt_9 false)

set_option maxRecDepth 100000 in
set_option maxHeartbeats 2000000 in
theorem C (p : Go.Proofs.Ytbnpdaipgamgkaa.PPaper.Paper)   (w : World)   {r : Bool} (H : Hid (P p = some r)) :
    Calls Try.prog 21 #[p.val] w (Gives (.bool r) w) := by
  have HB := Lib.hid (Below.refl w.heap.size w)
  unfold P at H
  obtain ⟨p_id, p_thick, p_tint, p_mark, p_laid⟩ := p
  replace H := unPaper_hid H
  unfold Go.Proofs.Ytbnpdaipgamgkaa.PPaper.Paper.val
  go_enter Try.func21, Try.ntmps21
  obtain ⟨w_p_0, hw_p_0⟩ : ∃ x, w.alloc (.cells #[.int .i64 p_id, .int .i64 p_thick, .int .i64 p_tint, .string p_mark, .bool p_laid] 38) = x := ⟨_, rfl⟩
  have bw_p_0 : Below w.heap.size w w_p_0 := by rw [← hw_p_0]; exact (Below.refl _ _).alloc (Nat.le_refl _) _
  have HBw_p_0 := Lib.hid (Below.step HB.out bw_p_0)
  clear bw_p_0
  have kp_0_0 : w_p_0.cell? ⟨w.heap.size, 0, none⟩ = some (.int .i64 p_id) := by rw [← hw_p_0]; exact box_new _ _ _ 0 _ rfl
  have kp_0_1 : w_p_0.cell? ⟨w.heap.size, 1, none⟩ = some (.int .i64 p_thick) := by rw [← hw_p_0]; exact box_new _ _ _ 1 _ rfl
  have kp_0_2 : w_p_0.cell? ⟨w.heap.size, 2, none⟩ = some (.int .i64 p_tint) := by rw [← hw_p_0]; exact box_new _ _ _ 2 _ rfl
  have kp_0_3 : w_p_0.cell? ⟨w.heap.size, 3, none⟩ = some (.string p_mark) := by rw [← hw_p_0]; exact box_new _ _ _ 3 _ rfl
  have kp_0_4 : w_p_0.cell? ⟨w.heap.size, 4, none⟩ = some (.bool p_laid) := by rw [← hw_p_0]; exact box_new _ _ _ 4 _ rfl
  replace H := bind_hid H
  obtain ⟨t_4, qt_4, H⟩ := H
  go_wp2_with fail
  go_at_call 27
  refine (Go.Proofs.Ytbnpdaipgamgkaa.GsL1In.C (p_id) (1) (99)  _    qt_4).mono ?_
  rintro e_t_4 wt_4 ⟨rfl, bt_4⟩
  have HBwt_4 := Lib.hid (Below.step HBw_p_0.out bt_4)
  replace kp_0_0 := cell_below bt_4 kp_0_0
  replace kp_0_1 := cell_below bt_4 kp_0_1
  replace kp_0_2 := cell_below bt_4 kp_0_2
  replace kp_0_3 := cell_below bt_4 kp_0_3
  replace kp_0_4 := cell_below bt_4 kp_0_4
  clear bt_4
  replace H := join_hid H
  cases t_4 with
  | false =>
    replace H := ite_f H
    replace H := app_hid H
    replace H := join_hid H
    replace H := ite_f H
    replace H := app_hid H
    replace H := join_hid H
    replace H := ite_f H
    replace H := app_hid H
    obtain rfl := ret_hid H
    go_wp2_with fail
    go_ret
    exact ⟨rfl, HBwt_4.out⟩
  | true =>
    replace H := ite_t H
    replace H := bind_hid H
    obtain ⟨t_8, qt_8, H⟩ := H
    go_wp2_with fail
    go_at_call 27
    refine (Go.Proofs.Ytbnpdaipgamgkaa.GsL1In.C (p_thick) (1) (300)  _    qt_8).mono ?_
    rintro e_t_8 wt_8 ⟨rfl, bt_8⟩
    have HBwt_8 := Lib.hid (Below.step HBwt_4.out bt_8)
    replace kp_0_0 := cell_below bt_8 kp_0_0
    replace kp_0_1 := cell_below bt_8 kp_0_1
    replace kp_0_2 := cell_below bt_8 kp_0_2
    replace kp_0_3 := cell_below bt_8 kp_0_3
    replace kp_0_4 := cell_below bt_8 kp_0_4
    clear bt_8
    replace H := app_hid H
    replace H := join_hid H
    cases t_8 with
    | false =>
      replace H := ite_f H
      replace H := app_hid H
      replace H := join_hid H
      replace H := ite_f H
      replace H := app_hid H
      obtain rfl := ret_hid H
      go_wp2_with fail
      go_ret
      exact ⟨rfl, HBwt_8.out⟩
    | true =>
      replace H := ite_t H
      replace H := bind_hid H
      obtain ⟨t_13, qt_13, H⟩ := H
      go_wp2_with fail
      go_at_call 27
      refine (Go.Proofs.Ytbnpdaipgamgkaa.GsL1In.C (p_tint) (0) (9)  _    qt_13).mono ?_
      rintro e_t_13 wt_13 ⟨rfl, bt_13⟩
      have HBwt_13 := Lib.hid (Below.step HBwt_8.out bt_13)
      replace kp_0_0 := cell_below bt_13 kp_0_0
      replace kp_0_1 := cell_below bt_13 kp_0_1
      replace kp_0_2 := cell_below bt_13 kp_0_2
      replace kp_0_3 := cell_below bt_13 kp_0_3
      replace kp_0_4 := cell_below bt_13 kp_0_4
      clear bt_13
      replace H := app_hid H
      replace H := join_hid H
      cases t_13 with
      | false =>
        replace H := ite_f H
        replace H := app_hid H
        obtain rfl := ret_hid H
        go_wp2_with fail
        go_ret
        exact ⟨rfl, HBwt_13.out⟩
      | true =>
        replace H := ite_t H
        replace H := let_hid H
        obtain ⟨t_18, ht_18, H⟩ := H
        replace H := join_hid H
        cases t_18 with
        | false =>
          replace H := ite_f H
          replace H := bind_hid H
          obtain ⟨t_22, qt_22, H⟩ := H
          go_wp2_with fail
          go_at_call 28
          refine (Go.Proofs.Ytbnpdaipgamgkaa.GsL2Word.C (p_mark)  _    qt_22).mono ?_
          rintro e_t_22 wt_22 ⟨rfl, bt_22⟩
          have HBwt_22 := Lib.hid (Below.step HBwt_13.out bt_22)
          replace kp_0_0 := cell_below bt_22 kp_0_0
          replace kp_0_1 := cell_below bt_22 kp_0_1
          replace kp_0_2 := cell_below bt_22 kp_0_2
          replace kp_0_3 := cell_below bt_22 kp_0_3
          replace kp_0_4 := cell_below bt_22 kp_0_4
          clear bt_22
          replace H := app_hid H
          replace H := app_hid H
          obtain rfl := ret_hid H
          go_wp2_with fail
          go_ret
          exact ⟨rfl, HBwt_22.out⟩
        | true =>
          replace H := ite_t H
          replace H := app_hid H
          replace H := app_hid H
          obtain rfl := ret_hid H
          go_wp2_with fail
          go_ret
          exact ⟨rfl, HBwt_13.out⟩
end Go.Proofs.Ytbnpdaipgamgkaa.GsL3One

/- loop.example/g01062/spec.l3Good as a plain function, and the contract of the program's: where the plain one has an answer, the program has it. Conditions: slices read as lists. -/
namespace Go.Proofs.Ytbnpdaipgamgkaa.GsL3Good
set_option linter.unusedVariables false
set_option linter.unusedSimpArgs false
open Go.RowKit
open Go.Proofs.Ytbnpdaipgamgkaa.Rowed Go.Proofs.Ytbnpdaipgamgkaa.Turn Go.Proofs.Ytbnpdaipgamgkaa.Aid Go.Proofs.Ytbnpdaipgamgkaa.GoP Go.Proofs.Ytbnpdaipgamgkaa.GoM

def l0 (list : (List Go.Proofs.Ytbnpdaipgamgkaa.PPaper.Paper)) (k0 : Nat) (s : Unit) (nx0 bk0 : Unit → Option (Bool)) : Option (Bool) :=
  
  Option.bind (idx list (k0 : Int)) fun (yt_8 : Go.Proofs.Ytbnpdaipgamgkaa.PPaper.Paper) =>
  unPaper yt_8 fun (t_8_id : Int) (t_8_thick : Int) (t_8_tint : Int) (t_8_mark : ByteArray) (t_8_laid : Bool) =>
  Option.bind (Go.Proofs.Ytbnpdaipgamgkaa.GsL3One.P (Go.Proofs.Ytbnpdaipgamgkaa.PPaper.Paper.mk t_8_id t_8_thick t_8_tint t_8_mark t_8_laid)) fun (t_10 : Bool) =>
  letK (!t_10) fun (t_11 : Bool) =>
  joinK (fun (t_29 : Bool) =>
  iteK t_29
  (some false)
  (appK nx0 ())) fun jt_29 => iteK t_11 (appK jt_29 true) (letK (decide (0 < (k0 : Int))) fun (t_14 : Bool) =>
  joinK (fun (t_28 : Bool) =>
  appK jt_29 t_28) fun jt_28 => iteK t_14 (letK (IntKind.i64.wrap ((k0 : Int) - 1)) fun (t_18 : Int) =>
  Option.bind (idx list t_18) fun (yt_19 : Go.Proofs.Ytbnpdaipgamgkaa.PPaper.Paper) =>
  unPaper yt_19 fun (t_19_id : Int) (t_19_thick : Int) (t_19_tint : Int) (t_19_mark : ByteArray) (t_19_laid : Bool) =>
  Option.bind (idx list (k0 : Int)) fun (yt_24 : Go.Proofs.Ytbnpdaipgamgkaa.PPaper.Paper) =>
  unPaper yt_24 fun (t_24_id : Int) (t_24_thick : Int) (t_24_tint : Int) (t_24_mark : ByteArray) (t_24_laid : Bool) =>
  letK (decide (t_24_id ≤ t_19_id)) fun (t_27 : Bool) =>
  appK jt_28 t_27) (appK jt_28 false))

def e0 (list : (List Go.Proofs.Ytbnpdaipgamgkaa.PPaper.Paper)) (s : Unit) : Option (Bool) :=
  
  letK (decide ((list.length : Int) ≤ 10)) fun (t_36 : Bool) =>
  some t_36

def P (list : (List Go.Proofs.Ytbnpdaipgamgkaa.PPaper.Paper)) : Option (Bool) :=
  cntK (l0 list) (list.length) 0 () (e0 list)

set_option maxRecDepth 100000 in
set_option maxHeartbeats 2000000 in
theorem C (list : (List Go.Proofs.Ytbnpdaipgamgkaa.PPaper.Paper)) (A0 : Option Addr) (c0 : Nat)  (w : World) (M0 : Hid (Cells w 5 A0 list.length (Go.Proofs.Ytbnpdaipgamgkaa.PPaper.flat list))) (N0 : Hid (list.length ≤ 9223372036854775807))  {r : Bool} (H : Hid (P list = some r)) :
    Calls Try.prog 14 #[.slice A0 list.length c0] w (Gives (.bool r) w) := by
  have HB := Lib.hid (Below.refl w.heap.size w)
  unfold P at H
  have N0o := N0.out
  go_enter Try.func14, Try.ntmps14
  go_wp2_with fail
  go_loopg [3] (list.length) (fun m_ v3_ wr => ∃ (k0 : Nat) , k0 + m_ = list.length ∧ v3_ = .int .i64 (k0 : Int) ∧ Hid (cntK (l0 list) m_ k0 () (e0 list) = some r) ∧ Hid (Below w.heap.size w wr))
  case atStart => exact ⟨0, by omega, rfl, H, HB⟩
  case round =>
    obtain ⟨k0, hkm0, rfl, H, HBwr0⟩ := hrel
    rename World => wr0
    cases gk with
    | zero =>
      obtain rfl : k0 = list.length := by omega
      have hc0 : decide (((list.length : Nat) : Int) < ((list.length : Nat) : Int)) = false := by simp
      replace H := cnt_zero H
      unfold e0 at H
      replace H := let_hid H
      obtain ⟨t_36, ht_36, H⟩ := H
      obtain rfl := ret_hid H
      go_wp2_with fail
      go_ret
      exact ⟨rfl, HBwr0.out⟩
    | succ m0 =>
      have hlt0 : k0 < list.length := by omega
      have hc0 : decide ((k0 : Int) < ((list.length : Nat) : Int)) = true := by simp; omega
      replace H := cnt_succ H
      unfold l0 at H
      go_wp2_with fail
      replace H := idx_hid H
      obtain ⟨nt_8, yt_8, et_8, lt_8, gt_8, H⟩ := H
      obtain rfl : k0 = nt_8 := by omega
      clear et_8
      obtain ⟨t_8_id, t_8_thick, t_8_tint, t_8_mark, t_8_laid⟩ := yt_8
      replace H := unPaper_hid H
      obtain ⟨ab_t_8, ao_t_8, zt_8, At_8, z_t_8, ct_8_0, ct_8_1, ct_8_2, ct_8_3, ct_8_4⟩ := Go.Proofs.Ytbnpdaipgamgkaa.OPaper.at_ M0.out lt_8
      obtain rfl := Option.some.inj (gt_8.out.symm.trans z_t_8)
      subst At_8
      have ltt_8 := cell_lt ct_8_0
      replace ct_8_0 := cell_below HBwr0.out ct_8_0
      replace ct_8_1 := cell_below HBwr0.out ct_8_1
      replace ct_8_2 := cell_below HBwr0.out ct_8_2
      replace ct_8_3 := cell_below HBwr0.out ct_8_3
      replace ct_8_4 := cell_below HBwr0.out ct_8_4
      clear z_t_8
      have b0t_8 : (0 : Int) ≤ (k0 : Int) := by omega
      have b1t_8 : (k0 : Int) < ((list.length : Nat) : Int) := by omega
      have b2t_8 : ((k0 : Int)).toNat = k0 := by omega
      have Hct_8_0 := Lib.hid ct_8_0
      replace ct_8_0 := cell_regrown ct_8_0
      have Hct_8_1 := Lib.hid ct_8_1
      replace ct_8_1 := cell_regrown ct_8_1
      have Hct_8_2 := Lib.hid ct_8_2
      replace ct_8_2 := cell_regrown ct_8_2
      have Hct_8_3 := Lib.hid ct_8_3
      replace ct_8_3 := cell_regrown ct_8_3
      have Hct_8_4 := Lib.hid ct_8_4
      replace ct_8_4 := cell_regrown ct_8_4
      replace H := bind_hid H
      obtain ⟨t_10, qt_10, H⟩ := H
      have nt_10 : ∀ d os, Calls Try.prog 21 #[.agg #[.int .i64 t_8_id, .int .i64 t_8_thick, .int .i64 t_8_tint, .string t_8_mark, .bool t_8_laid]] (Go.Sort.grow (redrawn wr0 d) os) fun e w'' => e = .returned (.bool t_10) ∧ ∃ p : Regrown, w'' = Go.Sort.grow (redrawn wr0 p.d) p.os := fun d os => Calls.regrown_of (Go.Proofs.Ytbnpdaipgamgkaa.GsL3One.C ((Go.Proofs.Ytbnpdaipgamgkaa.PPaper.Paper.mk t_8_id t_8_thick t_8_tint t_8_mark t_8_laid))  _    qt_10)
      cases t_10 with
      | false =>
        replace H := let_hid H
        obtain ⟨t_11, ht_11, H⟩ := H
        obtain rfl : t_11 = true := ht_11.symm
        replace H := join_hid H
        replace H := ite_t H
        replace H := app_hid H
        refine wp_region_quiet_below (by kernel_rfl) (by kernel_rfl) ?_
        repeat (go_big_quiet_step (first | (go_at_call 21; exact nt_10 _ _)))
        refine wpQuiet_nil ?_
        intro Y4 hY4
        replace hY4 := below_class hY4
        clear nt_10
        replace ct_8_0 := Hct_8_0.out
        clear Hct_8_0
        replace ct_8_1 := Hct_8_1.out
        clear Hct_8_1
        replace ct_8_2 := Hct_8_2.out
        clear Hct_8_2
        replace ct_8_3 := Hct_8_3.out
        clear Hct_8_3
        replace ct_8_4 := Hct_8_4.out
        clear Hct_8_4
        have HBY4 := Lib.hid (Below.step HBwr0.out hY4)
        replace ct_8_0 := cell_below hY4 ct_8_0
        replace ct_8_1 := cell_below hY4 ct_8_1
        replace ct_8_2 := cell_below hY4 ct_8_2
        replace ct_8_3 := cell_below hY4 ct_8_3
        replace ct_8_4 := cell_below hY4 ct_8_4
        clear hY4
        replace H := ite_t H
        obtain rfl := ret_hid H
        go_wp2_with fail
        go_ret
        exact ⟨rfl, HBY4.out⟩
      | true =>
        replace H := let_hid H
        obtain ⟨t_11, ht_11, H⟩ := H
        obtain rfl : t_11 = false := ht_11.symm
        replace H := join_hid H
        replace H := ite_f H
        replace H := let_hid H
        obtain ⟨t_14, ht_14, H⟩ := H
        replace H := join_hid H
        cases t_14 with
        | false =>
          have nht_14 : ¬ (0 < k0) := by have := of_decide_eq_false ht_14; omega
          replace H := ite_f H
          replace H := app_hid H
          replace H := app_hid H
          refine wp_region_quiet_below (by kernel_rfl) (by kernel_rfl) ?_
          repeat (go_big_quiet_step (first | (go_at_call 21; exact nt_10 _ _)))
          refine wpQuiet_nil ?_
          intro Y4 hY4
          replace hY4 := below_class hY4
          clear nt_10
          replace ct_8_0 := Hct_8_0.out
          clear Hct_8_0
          replace ct_8_1 := Hct_8_1.out
          clear Hct_8_1
          replace ct_8_2 := Hct_8_2.out
          clear Hct_8_2
          replace ct_8_3 := Hct_8_3.out
          clear Hct_8_3
          replace ct_8_4 := Hct_8_4.out
          clear Hct_8_4
          have HBY4 := Lib.hid (Below.step HBwr0.out hY4)
          replace ct_8_0 := cell_below hY4 ct_8_0
          replace ct_8_1 := cell_below hY4 ct_8_1
          replace ct_8_2 := cell_below hY4 ct_8_2
          replace ct_8_3 := cell_below hY4 ct_8_3
          replace ct_8_4 := cell_below hY4 ct_8_4
          clear hY4
          replace H := ite_f H
          replace H := app_hid H
          go_wp2_with fail
          go_roundg m0
          case measure => omega
          case rel => exact ⟨k0 + 1, by omega, by go_num, H, HBY4⟩
        | true =>
          have nht_14 : 0 < k0 := by have := of_decide_eq_true ht_14; omega
          replace H := ite_t H
          replace H := let_hid H
          obtain ⟨t_18, ht_18, H⟩ := H
          replace H := idx_hid H
          obtain ⟨nt_19, yt_19, et_19, lt_19, gt_19, H⟩ := H
          subst et_19
          obtain ⟨t_19_id, t_19_thick, t_19_tint, t_19_mark, t_19_laid⟩ := yt_19
          replace H := unPaper_hid H
          obtain ⟨ab_t_19, ao_t_19, zt_19, At_19, z_t_19, ct_19_0, ct_19_1, ct_19_2, ct_19_3, ct_19_4⟩ := Go.Proofs.Ytbnpdaipgamgkaa.OPaper.at_ M0.out lt_19
          obtain rfl := Option.some.inj (gt_19.out.symm.trans z_t_19)
          simp only [Option.some.injEq, Addr.mk.injEq] at At_19
          obtain ⟨rfl, rfl, _⟩ := At_19
          have ltt_19 := cell_lt ct_19_0
          replace ct_19_0 := cell_below HBwr0.out ct_19_0
          replace ct_19_1 := cell_below HBwr0.out ct_19_1
          replace ct_19_2 := cell_below HBwr0.out ct_19_2
          replace ct_19_3 := cell_below HBwr0.out ct_19_3
          replace ct_19_4 := cell_below HBwr0.out ct_19_4
          clear z_t_19
          have b0t_19 : (0 : Int) ≤ (nt_19 : Int) := by omega
          have b1t_19 : (nt_19 : Int) < ((list.length : Nat) : Int) := by omega
          have b2t_19 : ((nt_19 : Int)).toNat = nt_19 := by omega
          have Hct_19_0 := Lib.hid ct_19_0
          replace ct_19_0 := cell_regrown ct_19_0
          have Hct_19_1 := Lib.hid ct_19_1
          replace ct_19_1 := cell_regrown ct_19_1
          have Hct_19_2 := Lib.hid ct_19_2
          replace ct_19_2 := cell_regrown ct_19_2
          have Hct_19_3 := Lib.hid ct_19_3
          replace ct_19_3 := cell_regrown ct_19_3
          have Hct_19_4 := Lib.hid ct_19_4
          replace ct_19_4 := cell_regrown ct_19_4
          replace H := idx_hid H
          obtain ⟨nt_24, yt_24, et_24, lt_24, gt_24, H⟩ := H
          obtain rfl : k0 = nt_24 := by omega
          clear et_24
          obtain rfl := Option.some.inj (gt_8.out.symm.trans gt_24.out)
          clear gt_24 lt_24
          replace H := unPaper_hid H
          replace H := let_hid H
          obtain ⟨t_27, ht_27, H⟩ := H
          replace H := app_hid H
          replace H := app_hid H
          refine wp_region_quiet_below (by kernel_rfl) (by kernel_rfl) ?_
          repeat (go_big_quiet_step (first | (go_at_call 21; exact nt_10 _ _)))
          refine wpQuiet_nil ?_
          intro Y4 hY4
          replace hY4 := below_class hY4
          clear nt_10
          replace ct_8_0 := Hct_8_0.out
          clear Hct_8_0
          replace ct_8_1 := Hct_8_1.out
          clear Hct_8_1
          replace ct_8_2 := Hct_8_2.out
          clear Hct_8_2
          replace ct_8_3 := Hct_8_3.out
          clear Hct_8_3
          replace ct_8_4 := Hct_8_4.out
          clear Hct_8_4
          replace ct_19_0 := Hct_19_0.out
          clear Hct_19_0
          replace ct_19_1 := Hct_19_1.out
          clear Hct_19_1
          replace ct_19_2 := Hct_19_2.out
          clear Hct_19_2
          replace ct_19_3 := Hct_19_3.out
          clear Hct_19_3
          replace ct_19_4 := Hct_19_4.out
          clear Hct_19_4
          have HBY4 := Lib.hid (Below.step HBwr0.out hY4)
          replace ct_8_0 := cell_below hY4 ct_8_0
          replace ct_8_1 := cell_below hY4 ct_8_1
          replace ct_8_2 := cell_below hY4 ct_8_2
          replace ct_8_3 := cell_below hY4 ct_8_3
          replace ct_8_4 := cell_below hY4 ct_8_4
          replace ct_19_0 := cell_below hY4 ct_19_0
          replace ct_19_1 := cell_below hY4 ct_19_1
          replace ct_19_2 := cell_below hY4 ct_19_2
          replace ct_19_3 := cell_below hY4 ct_19_3
          replace ct_19_4 := cell_below hY4 ct_19_4
          clear hY4
          cases t_27 with
          | false =>
            replace H := ite_f H
            replace H := app_hid H
            go_wp2_with fail
            go_roundg m0
            case measure => omega
            case rel => exact ⟨k0 + 1, by omega, by go_num, H, HBY4⟩
          | true =>
            replace H := ite_t H
            obtain rfl := ret_hid H
            go_wp2_with fail
            go_ret
            exact ⟨rfl, HBY4.out⟩
end Go.Proofs.Ytbnpdaipgamgkaa.GsL3Good

/- loop.example/g01062/spec.MarkNames as a plain function, and the contract of the program's: where the plain one has an answer, the program has it. Conditions: slices read as lists. -/
namespace Go.Proofs.Ytbnpdaipgamgkaa.GsMarkNames
set_option linter.unusedVariables false
set_option linter.unusedSimpArgs false
open Go.RowKit
open Go.Proofs.Ytbnpdaipgamgkaa.Rowed Go.Proofs.Ytbnpdaipgamgkaa.Turn Go.Proofs.Ytbnpdaipgamgkaa.Aid Go.Proofs.Ytbnpdaipgamgkaa.GoP Go.Proofs.Ytbnpdaipgamgkaa.GoM

def l1 (out_4l0 : (List ByteArray)) (t_17_mark : ByteArray) (k1 : Nat) (s : Bool) (nx1 bk1 : Bool → Option ((List ByteArray) × Bool)) : Option ((List ByteArray) × Bool) :=
  letK s fun known_8l1 =>
  joinK (fun (t_40 : Bool) =>
  appK nx1 (t_40)) fun jt_40 => iteK known_8l1 (appK jt_40 true) (Option.bind (idx out_4l0 (k1 : Int)) fun (yt_36 : ByteArray) =>
  letK (yt_36.toList == t_17_mark.toList) fun (t_39 : Bool) =>
  appK jt_40 t_39)

def l2 (out_4l0 : (List ByteArray)) (t_17_mark : ByteArray) (s : Int) (nx2 bk2 : Int → Option ((List ByteArray) × Bool)) : Option ((List ByteArray) × Bool) :=
  letK s fun k_7l2 =>
  letK (decide (0 < k_7l2)) fun (t_46 : Bool) =>
  joinK (fun (t_55 : Bool) =>
  iteK t_55
  (letK (IntKind.i64.wrap (k_7l2 - 1)) fun (t_57 : Int) =>
  appK nx2 (t_57))
  (appK bk2 (k_7l2))) fun jt_55 => iteK t_46 (letK (IntKind.i64.wrap (k_7l2 - 1)) fun (t_51 : Int) =>
  Option.bind (idx out_4l0 t_51) fun (yt_52 : ByteArray) =>
  letK (Op.bytesLess t_17_mark.toList yt_52.toList) fun (t_54 : Bool) =>
  appK jt_55 t_54) (appK jt_55 false)

def e2 (nx0 : ((List ByteArray)) → Option ((List ByteArray) × Bool)) (out_4l0 : (List ByteArray)) (t_17_mark : ByteArray) (known_8l1 : Bool) (s : Int) : Option ((List ByteArray) × Bool) :=
  letK s fun k_7l2 =>
  letK (!known_8l1) fun (t_60 : Bool) =>
  iteK t_60
  (guardK ((0 : Int) ≤ k_7l2 ∧ (k_7l2 : Int) ≤ (out_4l0.length : Int)) <|
  letK (List.take (Int.toNat k_7l2) out_4l0) fun (t_64 : (List ByteArray)) =>
  guardK (([] : List ByteArray).length + t_64.length ≤ 1099511627776) <|
  letK (([] : List ByteArray) ++ t_64) fun (t_65 : (List ByteArray)) =>
  guardK (t_65.length ≤ 1099511627776) <|
  letK (t_65 ++ [t_17_mark]) fun (t_68 : (List ByteArray)) =>
  guardK ((0 : Int) ≤ k_7l2 ∧ (k_7l2 : Int) ≤ (out_4l0.length : Int)) <|
  letK (List.drop (Int.toNat k_7l2) out_4l0) fun (t_71 : (List ByteArray)) =>
  guardK (t_68.length + t_71.length ≤ 1099511627776) <|
  letK (t_68 ++ t_71) fun (t_72 : (List ByteArray)) =>
  appK nx0 (t_72))
  (appK nx0 (out_4l0))

def e1 (fuel : Nat) (nx0 : ((List ByteArray)) → Option ((List ByteArray) × Bool)) (out_4l0 : (List ByteArray)) (t_17_mark : ByteArray) (s : Bool) : Option ((List ByteArray) × Bool) :=
  letK s fun known_8l1 =>
  loopK (l2 out_4l0 t_17_mark) fuel ((out_4l0.length : Int)) (e2 nx0 out_4l0 t_17_mark known_8l1)

def l0 (list : (List Go.Proofs.Ytbnpdaipgamgkaa.PPaper.Paper)) (fuel : Nat) (k0 : Nat) (s : (List ByteArray)) (nx0 bk0 : (List ByteArray) → Option ((List ByteArray) × Bool)) : Option ((List ByteArray) × Bool) :=
  letK s fun out_4l0 =>
  Option.bind (idx list (k0 : Int)) fun (yt_17 : Go.Proofs.Ytbnpdaipgamgkaa.PPaper.Paper) =>
  unPaper yt_17 fun (t_17_id : Int) (t_17_thick : Int) (t_17_tint : Int) (t_17_mark : ByteArray) (t_17_laid : Bool) =>
  letK (t_17_mark.toList.isEmpty) fun (t_25 : Bool) =>
  cntK (l1 out_4l0 t_17_mark) (out_4l0.length) 0 (t_25) (e1 fuel nx0 out_4l0 t_17_mark)

def e0  (s : (List ByteArray)) : Option ((List ByteArray) × Bool) :=
  letK s fun out_4l0 =>
  some (out_4l0, true)

def P (fuel : Nat) (list : (List Go.Proofs.Ytbnpdaipgamgkaa.PPaper.Paper)) : Option ((List ByteArray) × Bool) :=
  Option.bind (Go.Proofs.Ytbnpdaipgamgkaa.GsL3Good.P list) fun (t_5 : Bool) =>
  letK (!t_5) fun (t_6 : Bool) =>
  iteK t_6
  (some (([] : List ByteArray), false))
  (cntK (l0 list fuel) (list.length) 0 (([] : List ByteArray)) (e0 ))

set_option maxRecDepth 100000 in
set_option maxHeartbeats 2000000 in
theorem C (fuel : Nat) (list : (List Go.Proofs.Ytbnpdaipgamgkaa.PPaper.Paper)) (A0 : Option Addr) (c0 : Nat)  (w : World) (M0 : Hid (Cells w 5 A0 list.length (Go.Proofs.Ytbnpdaipgamgkaa.PPaper.flat list))) (N0 : Hid (list.length ≤ 9223372036854775807))  {r0 : (List ByteArray)} {r1 : Bool} (H : Hid (P fuel list = some (r0, r1))) :
    Calls Try.prog 5 #[.slice A0 list.length c0] w (fun e w' => ∃ A_r0 c_r0, e = .returned (.tuple #[.slice A_r0 r0.length c_r0, .bool r1]) ∧ w'.ownsRow w.heap.size 9 1 (.slice A_r0 r0.length c_r0) r0.length (r0.map Value.string) ∧ Below w.heap.size w w') := by
  have HB := Lib.hid (Below.refl w.heap.size w)
  unfold P at H
  have N0o := N0.out
  obtain ⟨i0_9, hi_9, hz0_9, hz1_9, hz2_9⟩ := Aid.info_parts (P := Try.prog) (T := 9) (z := .string ByteArray.empty) (s := 1) (b := 16) (by kernel_rfl)
  go_enter Try.func5, Try.ntmps5
  obtain ⟨w_t_2, hw_t_2⟩ : ∃ x, w.alloc (.cells #[] 9) = x := ⟨_, rfl⟩
  have bw_t_2 : Below w.heap.size w w_t_2 := by rw [← hw_t_2]; exact (Below.refl _ _).alloc (Nat.le_refl _) _
  have Ot_2 : Hid (w_t_2.ownsRow w.heap.size 9 1 (.slice (some ⟨w.heap.size, 0, none⟩) 0 0) 0 []) := Lib.hid (by rw [← hw_t_2]; exact own_empty HB.out.size)
  have HBw_t_2 := Lib.hid (Below.step HB.out bw_t_2)
  clear bw_t_2
  replace H := bind_hid H
  obtain ⟨t_5, qt_5, H⟩ := H
  go_wp2_with fail
  go_at_call 14
  refine (Go.Proofs.Ytbnpdaipgamgkaa.GsL3Good.C (list) A0 c0 _   (Lib.hid (Cells.below M0.out HBw_t_2.out)) N0 qt_5).mono ?_
  rintro e_t_5 wt_5 ⟨rfl, bt_5⟩
  have HBwt_5 := Lib.hid (Below.step HBw_t_2.out bt_5)
  replace Ot_2 := Lib.hid (own_below Ot_2.out bt_5)
  clear bt_5
  cases t_5 with
  | false =>
    replace H := let_hid H
    obtain ⟨t_6, ht_6, H⟩ := H
    obtain rfl : t_6 = true := ht_6.symm
    replace H := ite_t H
    cases ret_hid H
    go_wp2_with fail
    go_ret2
    exact ⟨(some ⟨w.heap.size, 0, none⟩), 0, rfl, Ot_2.out, HBwt_5.out⟩
  | true =>
    replace H := let_hid H
    obtain ⟨t_6, ht_6, H⟩ := H
    obtain rfl : t_6 = false := ht_6.symm
    replace H := ite_f H
    go_wp2_with fail
    go_loopg [5, 4] (list.length) (fun m_ v5_ v4_ wr => ∃ (k0 : Nat) (out_4l0 : (List ByteArray)) (Aout_4l0 : Option Addr) (cout_4l0 : Nat), k0 + m_ = list.length ∧ v5_ = .int .i64 (k0 : Int) ∧ v4_ = .slice Aout_4l0 out_4l0.length cout_4l0 ∧ Hid (cntK (l0 list fuel) m_ k0 (out_4l0) (e0 ) = some (r0, r1)) ∧ Hid (Below w.heap.size w wr) ∧ Hid (wr.ownsRow w.heap.size 9 1 (.slice Aout_4l0 out_4l0.length cout_4l0) out_4l0.length (out_4l0.map Value.string)))
    case atStart => exact ⟨0, _, _, _, by omega, rfl, rfl, H, HBwt_5, Ot_2⟩
    case round =>
      obtain ⟨k0, out_4l0, Aout_4l0, cout_4l0, hkm0, rfl, rfl, H, HBwr0, Oout_4l0⟩ := hrel
      rename World => wr0
      cases gk with
      | zero =>
        obtain rfl : k0 = list.length := by omega
        have hc0 : decide (((list.length : Nat) : Int) < ((list.length : Nat) : Int)) = false := by simp
        replace H := cnt_zero H
        unfold e0 at H
        replace H := let_hid H
        obtain ⟨_, rfl, H⟩ := H
        cases ret_hid H
        go_wp2_with fail
        go_ret2
        exact ⟨Aout_4l0, cout_4l0, rfl, Oout_4l0.out, HBwr0.out⟩
      | succ m0 =>
        have hlt0 : k0 < list.length := by omega
        have hc0 : decide ((k0 : Int) < ((list.length : Nat) : Int)) = true := by simp; omega
        replace H := cnt_succ H
        unfold l0 at H
        replace H := let_hid H
        obtain ⟨_, rfl, H⟩ := H
        replace H := idx_hid H
        obtain ⟨nt_17, yt_17, et_17, lt_17, gt_17, H⟩ := H
        obtain rfl : k0 = nt_17 := by omega
        clear et_17
        obtain ⟨t_17_id, t_17_thick, t_17_tint, t_17_mark, t_17_laid⟩ := yt_17
        replace H := unPaper_hid H
        obtain ⟨ab_t_17, ao_t_17, zt_17, At_17, z_t_17, ct_17_0, ct_17_1, ct_17_2, ct_17_3, ct_17_4⟩ := Go.Proofs.Ytbnpdaipgamgkaa.OPaper.at_ M0.out lt_17
        obtain rfl := Option.some.inj (gt_17.out.symm.trans z_t_17)
        subst At_17
        have ltt_17 := cell_lt ct_17_0
        replace ct_17_0 := cell_below HBwr0.out ct_17_0
        replace ct_17_1 := cell_below HBwr0.out ct_17_1
        replace ct_17_2 := cell_below HBwr0.out ct_17_2
        replace ct_17_3 := cell_below HBwr0.out ct_17_3
        replace ct_17_4 := cell_below HBwr0.out ct_17_4
        clear z_t_17
        have b0t_17 : (0 : Int) ≤ (k0 : Int) := by omega
        have b1t_17 : (k0 : Int) < ((list.length : Nat) : Int) := by omega
        have b2t_17 : ((k0 : Int)).toNat = k0 := by omega
        replace H := let_hid H
        obtain ⟨t_25, ht_25, H⟩ := H
        have hb_1 : out_4l0.length ≤ 9223372036854775807 := own_max Oout_4l0.out
        go_wp2_with fail
        go_loopg [9, 8] (out_4l0.length) (fun m_ v9_ v8_ wr => ∃ (k1 : Nat) (known_8l1 : Bool), k1 + m_ = out_4l0.length ∧ v9_ = .int .i64 (k1 : Int) ∧ v8_ = .bool known_8l1 ∧ Hid (cntK (l1 out_4l0 t_17_mark) m_ k1 (known_8l1) (e1 fuel (fun s' => cntK (l0 list fuel) m0 (k0 + 1) s' (e0 )) out_4l0 t_17_mark) = some (r0, r1)) ∧ Hid (Below w.heap.size w wr) ∧ Hid (wr.ownsRow w.heap.size 9 1 (.slice Aout_4l0 out_4l0.length cout_4l0) out_4l0.length (out_4l0.map Value.string)))
        case atStart => exact ⟨0, _, by omega, rfl, rfl, H, HBwr0, Oout_4l0⟩
        case round =>
          obtain ⟨k1, known_8l1, hkm1, rfl, rfl, H, HBwr1, Oout_4l0⟩ := hrel
          rename World => wr1
          cases gk with
          | zero =>
            obtain rfl : k1 = out_4l0.length := by omega
            have hc1 : decide (((out_4l0.length : Nat) : Int) < ((out_4l0.length : Nat) : Int)) = false := by simp
            replace H := cnt_zero H
            unfold e1 at H
            replace H := let_hid H
            obtain ⟨_, rfl, H⟩ := H
            go_wp2_with fail
            go_loopg [7] (fuel) (fun m_ v7_ wr => ∃ (k_7l2 : Int), v7_ = .int .i64 k_7l2 ∧ Hid (loopK (l2 out_4l0 t_17_mark) m_ (k_7l2) (e2 (fun s' => cntK (l0 list fuel) m0 (k0 + 1) s' (e0 )) out_4l0 t_17_mark known_8l1) = some (r0, r1)) ∧ Hid (Below w.heap.size w wr) ∧ Hid (wr.ownsRow w.heap.size 9 1 (.slice Aout_4l0 out_4l0.length cout_4l0) out_4l0.length (out_4l0.map Value.string)))
            case atStart => exact ⟨_, rfl, H, HBwr1, Oout_4l0⟩
            case round =>
              obtain ⟨k_7l2, rfl, H, HBwr2, Oout_4l0⟩ := hrel
              rename World => wr2
              cases gk with
              | zero => exact (loop_zero H).elim
              | succ m2 =>
                replace H := loop_succ H
                unfold l2 at H
                replace H := let_hid H
                obtain ⟨_, rfl, H⟩ := H
                replace H := let_hid H
                obtain ⟨t_46, ht_46, H⟩ := H
                replace H := join_hid H
                cases t_46 with
                | false =>
                  replace H := ite_f H
                  replace H := app_hid H
                  replace H := ite_f H
                  replace H := app_hid H
                  unfold e2 at H
                  replace H := let_hid H
                  obtain ⟨_, rfl, H⟩ := H
                  cases known_8l1 with
                  | false =>
                    replace H := let_hid H
                    obtain ⟨t_60, ht_60, H⟩ := H
                    obtain rfl : t_60 = true := ht_60.symm
                    replace H := ite_t H
                    go_wp2_with fail
                    have bd17 : Below wr2.heap.size wr2 wr2.drew := (Below.refl _ _).drew
                    have HBwr2.drew := Lib.hid (Below.step HBwr2.out bd17)
                    replace Oout_4l0 := Lib.hid (own_below Oout_4l0.out bd17)
                    clear bd17
                    replace H := guard_hid H
                    obtain ⟨hl_t_64, H⟩ := H
                    replace H := let_hid H
                    obtain ⟨t_64, ht_64, H⟩ := H
                    have hht_64 := Lib.hid ht_64
                    have hgt_64 := Lib.hid hl_t_64
                    clear ht_64
                    clear hl_t_64
                    replace H := guard_hid H
                    obtain ⟨hlt_65, H⟩ := H
                    replace H := let_hid H
                    obtain ⟨t_65, ht_65, H⟩ := H
                    have hht_65 := Lib.hid ht_65
                    clear ht_65
                    replace H := guard_hid H
                    obtain ⟨hlt_68, H⟩ := H
                    replace H := let_hid H
                    obtain ⟨t_68, ht_68, H⟩ := H
                    have hht_68 := Lib.hid ht_68
                    clear ht_68
                    replace H := guard_hid H
                    obtain ⟨hl_t_71, H⟩ := H
                    replace H := let_hid H
                    obtain ⟨t_71, ht_71, H⟩ := H
                    have hht_71 := Lib.hid ht_71
                    have hgt_71 := Lib.hid hl_t_71
                    clear ht_71
                    clear hl_t_71
                    replace H := guard_hid H
                    obtain ⟨hlt_72, H⟩ := H
                    replace H := let_hid H
                    obtain ⟨t_72, ht_72, H⟩ := H
                    have hht_72 := Lib.hid ht_72
                    clear ht_72
                    obtain ⟨At_64_p111, ct_64_p111, rt_64_p111, mt_64_p111, qt_64_p111⟩ := Go.Proofs.Ytbnpdaipgamgkaa.GoD.slice_viewH (P := Try.prog) (t := 24) (e := 9) (k := .i64) (ys := (t_64.map Value.string)) (m := t_64.length) (by kernel_rfl) (by kernel_rfl) hi_9 hz1_9 Oout_4l0.out (by have h_ := hgt_64.out; omega) (by have h_ := hgt_64.out; rw [← hht_64.out, List.length_take] <;> omega) (by rw [← hht_64.out]; simp [List.map_take])
                    have Mt_64_p111 := Lib.hid mt_64_p111
                    have Qt_64_p111 := Lib.hid qt_64_p111
                    have Nt_64_p111 : Hid (t_64.length ≤ 9223372036854775807) := Lib.hid (by have h_ := own_max Oout_4l0.out; rw [← hht_64.out, List.length_take] <;> omega)
                    obtain ⟨At_71_p112, ct_71_p112, rt_71_p112, mt_71_p112, qt_71_p112⟩ := Go.Proofs.Ytbnpdaipgamgkaa.GoD.slice_view (P := Try.prog) (t := 24) (e := 9) (k := .i64) (ys := (t_71.map Value.string)) (m := t_71.length) (by kernel_rfl) (by kernel_rfl) hi_9 hz1_9 Oout_4l0.out (by have h_ := hgt_71.out; omega) (by rw [← hht_71.out, List.length_drop] <;> omega) (by rw [← hht_71.out]; simp [List.map_drop])
                    have Mt_71_p112 := Lib.hid mt_71_p112
                    have Qt_71_p112 := Lib.hid qt_71_p112
                    have Nt_71_p112 : Hid (t_71.length ≤ 9223372036854775807) := Lib.hid (by have h_ := own_max Oout_4l0.out; rw [← hht_71.out, List.length_drop] <;> omega)
                    obtain ⟨w_t_61_p113, hw_t_61_p113⟩ : ∃ x, wr2.drew.alloc (.cells #[] 9) = x := ⟨_, rfl⟩
                    have bw_t_61_p113 : Below wr2.drew.heap.size wr2.drew w_t_61_p113 := by rw [← hw_t_61_p113]; exact (Below.refl _ _).alloc (Nat.le_refl _) _
                    have Ot_61_p113 : Hid (w_t_61_p113.ownsRow w.heap.size 9 1 (.slice (some ⟨wr2.heap.size, 0, none⟩) 0 0) 0 []) := Lib.hid (by rw [← hw_t_61_p113]; exact own_empty HBwr2.drew.out.size)
                    have Dt_61_out_4l0_p113 := Lib.hid (apart_fresh Oout_4l0.out)
                    have HBw_t_61_p113 := Lib.hid (Below.step HBwr2.drew.out bw_t_61_p113)
                    have Oout_4l0_p113 := Lib.hid (own_below Oout_4l0.out bw_t_61_p113)
                    obtain ⟨w_t_67_p118, hw_t_67_p118⟩ : ∃ x, w_t_61_p113.alloc (.cells #[.string t_17_mark] 9) = x := ⟨_, rfl⟩
                    have bw_t_67_p118 : Below w_t_61_p113.heap.size w_t_61_p113 w_t_67_p118 := by rw [← hw_t_67_p118]; exact (Below.refl _ _).alloc (Nat.le_refl _) _
                    have Ot_67_p118 : Hid (w_t_67_p118.ownsRow w.heap.size 9 1 (.slice (some ⟨w_t_61_p113.heap.size, 0, none⟩) 1 1) 1 [.string t_17_mark]) := Lib.hid (by rw [← hw_t_67_p118]; exact own_laid (n := 1) HBw_t_61_p113.out.size (rfl : ([.string t_17_mark] : List Value) = [.string t_17_mark]) rfl (by unfold maxLen; omega))
                    have Dt_67_out_4l0_p118 := Lib.hid (apart_fresh Oout_4l0_p113.out)
                    have Dt_67_t_61_p118 := Lib.hid (apart_fresh Ot_61_p113.out)
                    have HBw_t_67_p118 := Lib.hid (Below.step HBw_t_61_p113.out bw_t_67_p118)
                    have Oout_4l0_p113_p118 := Lib.hid (own_below Oout_4l0_p113.out bw_t_67_p118)
                    have Ot_61_p113_p118 := Lib.hid (own_below Ot_61_p113.out bw_t_67_p118)
                    obtain ⟨w_t_67_p122, hw_t_67_p122⟩ : ∃ x, wr2.drew.alloc (.cells #[.string t_17_mark] 9) = x := ⟨_, rfl⟩
                    have bw_t_67_p122 : Below wr2.drew.heap.size wr2.drew w_t_67_p122 := by rw [← hw_t_67_p122]; exact (Below.refl _ _).alloc (Nat.le_refl _) _
                    have Ot_67_p122 : Hid (w_t_67_p122.ownsRow w.heap.size 9 1 (.slice (some ⟨wr2.heap.size, 0, none⟩) 1 1) 1 [.string t_17_mark]) := Lib.hid (by rw [← hw_t_67_p122]; exact own_laid (n := 1) HBwr2.drew.out.size (rfl : ([.string t_17_mark] : List Value) = [.string t_17_mark]) rfl (by unfold maxLen; omega))
                    have Dt_67_out_4l0_p122 := Lib.hid (apart_fresh Oout_4l0.out)
                    have HBw_t_67_p122 := Lib.hid (Below.step HBwr2.drew.out bw_t_67_p122)
                    have Oout_4l0_p122 := Lib.hid (own_below Oout_4l0.out bw_t_67_p122)
                    obtain ⟨w_t_61_p123, hw_t_61_p123⟩ : ∃ x, w_t_67_p122.alloc (.cells #[] 9) = x := ⟨_, rfl⟩
                    have bw_t_61_p123 : Below w_t_67_p122.heap.size w_t_67_p122 w_t_61_p123 := by rw [← hw_t_61_p123]; exact (Below.refl _ _).alloc (Nat.le_refl _) _
                    have Ot_61_p123 : Hid (w_t_61_p123.ownsRow w.heap.size 9 1 (.slice (some ⟨w_t_67_p122.heap.size, 0, none⟩) 0 0) 0 []) := Lib.hid (by rw [← hw_t_61_p123]; exact own_empty HBw_t_67_p122.out.size)
                    have Dt_61_out_4l0_p123 := Lib.hid (apart_fresh Oout_4l0_p122.out)
                    have Dt_61_t_67_p123 := Lib.hid (apart_fresh Ot_67_p122.out)
                    have HBw_t_61_p123 := Lib.hid (Below.step HBw_t_67_p122.out bw_t_61_p123)
                    have Oout_4l0_p122_p123 := Lib.hid (own_below Oout_4l0_p122.out bw_t_61_p123)
                    have Ot_67_p122_p123 := Lib.hid (own_below Ot_67_p122.out bw_t_61_p123)
                    go_region_held3 (fun w' => Hid (0 ≤ w'.heap.size)) (first | exact Lib.hid (Nat.zero_le _))
                        (first
                          | (have hst_65_p114 := HBw_t_61_p113.out.size
                             have Ct_65_p114 := Lib.hid ((Mt_64_p111.out _ Oout_4l0_p113.out))
                             have h1t_65_p114 : 0 + t_64.length ≤ maxLen := by have h_ := hlt_65; simp only [List.length_nil] at h_; unfold maxLen; omega
                             have h2t_65_p114 : (0 + t_64.length) * 16 ≤ 140737488355328 := by have h_ := hlt_65; simp only [List.length_nil] at h_; omega
                             refine Go.Proofs.Ytbnpdaipgamgkaa.GoH.step_spread_own (w := w_t_61_p113) rfl (.tmp 60) (.tmp 63) 24 rfl w.heap.size 9 i0_9 (.string ByteArray.empty) 1 16 Try.underlying24 hi_9 hz0_9 hz1_9 hz2_9 rfl (by decide) (some ⟨wr2.heap.size, 0, none⟩) 0 0 _ rfl Ot_61_p113.out At_64_p111 t_64.length ct_64_p111 (t_64.map Value.string) rfl Qt_64_p111.out Ct_65_p114.out (fun u hu => by obtain ⟨y_, _, rfl⟩ := List.mem_map.1 hu; rfl) h1t_65_p114 h2t_65_p114 hst_65_p114 ?_
                             intro vt_65_p114 wt_65_p114 ot_65_p114 gt_65_p114 yt_65_p114
                             obtain ⟨At_65_p114, ct_65_p114, rfl, pt_65_p114⟩ := own_pushS (f := (fun z => z.map Value.string)) hht_65.out (by simp) rfl ot_65_p114
                             have Pt_65_p114 := Lib.hid pt_65_p114
                             have Yt_65_p114 := Lib.hid yt_65_p114
                             have Gt_65_p114 := Lib.hid gt_65_p114
                             have HBwt_65_p114 := Lib.hid (HBw_t_61_p113.out.grown Gt_65_p114.out hst_65_p114 (fun q hq => (Ot_61_p113.out.lt q hq).1))
                             have Dt_65_out_4l0_p114 : Hid (Apart At_65_p114 _) := Lib.hid (apart_app Dt_61_out_4l0_p113.out (fun a_ ha_ => (own_lt Oout_4l0_p113.out a_ ha_).2) Yt_65_p114.out)
                             have Oout_4l0_p113_p114 := Lib.hid (own_other Oout_4l0_p113.out Gt_65_p114.out Dt_61_out_4l0_p113.out)
                             obtain ⟨w_t_67_p115, hw_t_67_p115⟩ : ∃ x, wt_65_p114.alloc (.cells #[.string t_17_mark] 9) = x := ⟨_, rfl⟩
                             have bw_t_67_p115 : Below wt_65_p114.heap.size wt_65_p114 w_t_67_p115 := by rw [← hw_t_67_p115]; exact (Below.refl _ _).alloc (Nat.le_refl _) _
                             have Ot_67_p115 : Hid (w_t_67_p115.ownsRow w.heap.size 9 1 (.slice (some ⟨wt_65_p114.heap.size, 0, none⟩) 1 1) 1 [.string t_17_mark]) := Lib.hid (by rw [← hw_t_67_p115]; exact own_laid (n := 1) HBwt_65_p114.out.size (rfl : ([.string t_17_mark] : List Value) = [.string t_17_mark]) rfl (by unfold maxLen; omega))
                             have Dt_67_out_4l0_p115 := Lib.hid (apart_fresh Oout_4l0_p113_p114.out)
                             have Dt_67_t_65_p115 := Lib.hid (apart_fresh Pt_65_p114.out)
                             have HBw_t_67_p115 := Lib.hid (Below.step HBwt_65_p114.out bw_t_67_p115)
                             have Oout_4l0_p113_p114_p115 := Lib.hid (own_below Oout_4l0_p113_p114.out bw_t_67_p115)
                             have Pt_65_p114_p115 := Lib.hid (own_below Pt_65_p114.out bw_t_67_p115))
                          | (have hst_68_p116 := HBw_t_67_p115.out.size
                             have h1t_68_p116 : t_65.length + 1 ≤ maxLen := by unfold maxLen; omega
                             have h2t_68_p116 : (t_65.length + 1) * 16 ≤ 140737488355328 := by omega
                             have h3t_68_p116 := Ot_67_p115.out.cells rfl
                             refine Go.Proofs.Ytbnpdaipgamgkaa.GoH.step_append_own (w := w_t_67_p115) rfl (.tmp 64) (.tmp 66) 24 rfl w.heap.size 9 i0_9 (.string ByteArray.empty) 1 16 Try.underlying24 hi_9 hz0_9 hz1_9 hz2_9 rfl (by decide) At_65_p114 ct_65_p114 t_65.length _ rfl Pt_65_p114_p115.out ⟨wt_65_p114.heap.size, 0, none⟩ 1 [.string t_17_mark] rfl rfl h3t_68_p116 (one_cells rfl) h1t_68_p116 h2t_68_p116 hst_68_p116 ?_
                             intro vt_68_p116 wt_68_p116 ot_68_p116 gt_68_p116 yt_68_p116
                             obtain ⟨qt_68_p116, ct_68_p116, rfl, pt_68_p116⟩ := own_push hht_68.out (by simp) rfl ot_68_p116
                             have Pt_68_p116 := Lib.hid pt_68_p116
                             have Yt_68_p116 := Lib.hid yt_68_p116
                             have Gt_68_p116 := Lib.hid gt_68_p116
                             have HBwt_68_p116 := Lib.hid (HBw_t_67_p115.out.grown Gt_68_p116.out hst_68_p116 (fun q hq => (Pt_65_p114_p115.out.lt q hq).1))
                             have Dt_68_out_4l0_p116 : Hid (Apart (some ⟨qt_68_p116, 0, none⟩) _) := Lib.hid (apart_app Dt_65_out_4l0_p114.out (fun a_ ha_ => (own_lt Oout_4l0_p113_p114_p115.out a_ ha_).2) Yt_68_p116.out)
                             have Dt_68_t_67_p116 : Hid (Apart (some ⟨qt_68_p116, 0, none⟩) _) := Lib.hid (apart_app (Apart.symm Dt_67_t_65_p115.out) (fun a_ ha_ => (own_lt Ot_67_p115.out a_ ha_).2) Yt_68_p116.out)
                             have Oout_4l0_p113_p114_p115_p116 := Lib.hid (own_other Oout_4l0_p113_p114_p115.out Gt_68_p116.out Dt_65_out_4l0_p114.out)
                             have Ot_67_p115_p116 := Lib.hid (own_other Ot_67_p115.out Gt_68_p116.out (Apart.symm Dt_67_t_65_p115.out)))
                          | (have hst_72_p117 := HBwt_68_p116.out.size
                             have Ct_72_p117 := Lib.hid ((Mt_71_p112.out _ Oout_4l0_p113_p114_p115_p116.out))
                             have h1t_72_p117 : t_68.length + t_71.length ≤ maxLen := by have h_ := hlt_72; unfold maxLen; omega
                             have h2t_72_p117 : (t_68.length + t_71.length) * 16 ≤ 140737488355328 := by have h_ := hlt_72; omega
                             refine Go.Proofs.Ytbnpdaipgamgkaa.GoH.step_spread_own (w := wt_68_p116) rfl (.tmp 67) (.tmp 70) 24 rfl w.heap.size 9 i0_9 (.string ByteArray.empty) 1 16 Try.underlying24 hi_9 hz0_9 hz1_9 hz2_9 rfl (by decide) (some ⟨qt_68_p116, 0, none⟩) ct_68_p116 t_68.length _ rfl Pt_68_p116.out At_71_p112 t_71.length ct_71_p112 (t_71.map Value.string) rfl Qt_71_p112.out Ct_72_p117.out (fun u hu => by obtain ⟨y_, _, rfl⟩ := List.mem_map.1 hu; rfl) h1t_72_p117 h2t_72_p117 hst_72_p117 ?_
                             intro vt_72_p117 wt_72_p117 ot_72_p117 gt_72_p117 yt_72_p117
                             obtain ⟨At_72_p117, ct_72_p117, rfl, pt_72_p117⟩ := own_pushS (f := (fun z => z.map Value.string)) hht_72.out (by simp) rfl ot_72_p117
                             have Pt_72_p117 := Lib.hid pt_72_p117
                             have Yt_72_p117 := Lib.hid yt_72_p117
                             have Gt_72_p117 := Lib.hid gt_72_p117
                             have HBwt_72_p117 := Lib.hid (HBwt_68_p116.out.grown Gt_72_p117.out hst_72_p117 (fun q hq => (Pt_68_p116.out.lt q hq).1))
                             have Dt_72_out_4l0_p117 : Hid (Apart At_72_p117 _) := Lib.hid (apart_app Dt_68_out_4l0_p116.out (fun a_ ha_ => (own_lt Oout_4l0_p113_p114_p115_p116.out a_ ha_).2) Yt_72_p117.out)
                             have Oout_4l0_p113_p114_p115_p116_p117 := Lib.hid (own_other Oout_4l0_p113_p114_p115_p116.out Gt_72_p117.out Dt_68_out_4l0_p116.out))
                          | (have hst_65_p119 := HBw_t_67_p118.out.size
                             have Ct_65_p119 := Lib.hid ((Mt_64_p111.out _ Oout_4l0_p113_p118.out))
                             have h1t_65_p119 : 0 + t_64.length ≤ maxLen := by have h_ := hlt_65; simp only [List.length_nil] at h_; unfold maxLen; omega
                             have h2t_65_p119 : (0 + t_64.length) * 16 ≤ 140737488355328 := by have h_ := hlt_65; simp only [List.length_nil] at h_; omega
                             refine Go.Proofs.Ytbnpdaipgamgkaa.GoH.step_spread_own (w := w_t_67_p118) rfl (.tmp 60) (.tmp 63) 24 rfl w.heap.size 9 i0_9 (.string ByteArray.empty) 1 16 Try.underlying24 hi_9 hz0_9 hz1_9 hz2_9 rfl (by decide) (some ⟨wr2.heap.size, 0, none⟩) 0 0 _ rfl Ot_61_p113_p118.out At_64_p111 t_64.length ct_64_p111 (t_64.map Value.string) rfl Qt_64_p111.out Ct_65_p119.out (fun u hu => by obtain ⟨y_, _, rfl⟩ := List.mem_map.1 hu; rfl) h1t_65_p119 h2t_65_p119 hst_65_p119 ?_
                             intro vt_65_p119 wt_65_p119 ot_65_p119 gt_65_p119 yt_65_p119
                             obtain ⟨At_65_p119, ct_65_p119, rfl, pt_65_p119⟩ := own_pushS (f := (fun z => z.map Value.string)) hht_65.out (by simp) rfl ot_65_p119
                             have Pt_65_p119 := Lib.hid pt_65_p119
                             have Yt_65_p119 := Lib.hid yt_65_p119
                             have Gt_65_p119 := Lib.hid gt_65_p119
                             have HBwt_65_p119 := Lib.hid (HBw_t_67_p118.out.grown Gt_65_p119.out hst_65_p119 (fun q hq => (Ot_61_p113_p118.out.lt q hq).1))
                             have Dt_65_out_4l0_p119 : Hid (Apart At_65_p119 _) := Lib.hid (apart_app Dt_61_out_4l0_p113.out (fun a_ ha_ => (own_lt Oout_4l0_p113_p118.out a_ ha_).2) Yt_65_p119.out)
                             have Dt_65_t_67_p119 : Hid (Apart At_65_p119 _) := Lib.hid (apart_app (Apart.symm Dt_67_t_61_p118.out) (fun a_ ha_ => (own_lt Ot_67_p118.out a_ ha_).2) Yt_65_p119.out)
                             have Oout_4l0_p113_p118_p119 := Lib.hid (own_other Oout_4l0_p113_p118.out Gt_65_p119.out Dt_61_out_4l0_p113.out)
                             have Ot_67_p118_p119 := Lib.hid (own_other Ot_67_p118.out Gt_65_p119.out (Apart.symm Dt_67_t_61_p118.out)))
                          | (have hst_68_p120 := HBwt_65_p119.out.size
                             have h1t_68_p120 : t_65.length + 1 ≤ maxLen := by unfold maxLen; omega
                             have h2t_68_p120 : (t_65.length + 1) * 16 ≤ 140737488355328 := by omega
                             have h3t_68_p120 := Ot_67_p118_p119.out.cells rfl
                             refine Go.Proofs.Ytbnpdaipgamgkaa.GoH.step_append_own (w := wt_65_p119) rfl (.tmp 64) (.tmp 66) 24 rfl w.heap.size 9 i0_9 (.string ByteArray.empty) 1 16 Try.underlying24 hi_9 hz0_9 hz1_9 hz2_9 rfl (by decide) At_65_p119 ct_65_p119 t_65.length _ rfl Pt_65_p119.out ⟨w_t_61_p113.heap.size, 0, none⟩ 1 [.string t_17_mark] rfl rfl h3t_68_p120 (one_cells rfl) h1t_68_p120 h2t_68_p120 hst_68_p120 ?_
                             intro vt_68_p120 wt_68_p120 ot_68_p120 gt_68_p120 yt_68_p120
                             obtain ⟨qt_68_p120, ct_68_p120, rfl, pt_68_p120⟩ := own_push hht_68.out (by simp) rfl ot_68_p120
                             have Pt_68_p120 := Lib.hid pt_68_p120
                             have Yt_68_p120 := Lib.hid yt_68_p120
                             have Gt_68_p120 := Lib.hid gt_68_p120
                             have HBwt_68_p120 := Lib.hid (HBwt_65_p119.out.grown Gt_68_p120.out hst_68_p120 (fun q hq => (Pt_65_p119.out.lt q hq).1))
                             have Dt_68_out_4l0_p120 : Hid (Apart (some ⟨qt_68_p120, 0, none⟩) _) := Lib.hid (apart_app Dt_65_out_4l0_p119.out (fun a_ ha_ => (own_lt Oout_4l0_p113_p118_p119.out a_ ha_).2) Yt_68_p120.out)
                             have Dt_68_t_67_p120 : Hid (Apart (some ⟨qt_68_p120, 0, none⟩) _) := Lib.hid (apart_app Dt_65_t_67_p119.out (fun a_ ha_ => (own_lt Ot_67_p118_p119.out a_ ha_).2) Yt_68_p120.out)
                             have Oout_4l0_p113_p118_p119_p120 := Lib.hid (own_other Oout_4l0_p113_p118_p119.out Gt_68_p120.out Dt_65_out_4l0_p119.out)
                             have Ot_67_p118_p119_p120 := Lib.hid (own_other Ot_67_p118_p119.out Gt_68_p120.out Dt_65_t_67_p119.out))
                          | (have hst_72_p121 := HBwt_68_p120.out.size
                             have Ct_72_p121 := Lib.hid ((Mt_71_p112.out _ Oout_4l0_p113_p118_p119_p120.out))
                             have h1t_72_p121 : t_68.length + t_71.length ≤ maxLen := by have h_ := hlt_72; unfold maxLen; omega
                             have h2t_72_p121 : (t_68.length + t_71.length) * 16 ≤ 140737488355328 := by have h_ := hlt_72; omega
                             refine Go.Proofs.Ytbnpdaipgamgkaa.GoH.step_spread_own (w := wt_68_p120) rfl (.tmp 67) (.tmp 70) 24 rfl w.heap.size 9 i0_9 (.string ByteArray.empty) 1 16 Try.underlying24 hi_9 hz0_9 hz1_9 hz2_9 rfl (by decide) (some ⟨qt_68_p120, 0, none⟩) ct_68_p120 t_68.length _ rfl Pt_68_p120.out At_71_p112 t_71.length ct_71_p112 (t_71.map Value.string) rfl Qt_71_p112.out Ct_72_p121.out (fun u hu => by obtain ⟨y_, _, rfl⟩ := List.mem_map.1 hu; rfl) h1t_72_p121 h2t_72_p121 hst_72_p121 ?_
                             intro vt_72_p121 wt_72_p121 ot_72_p121 gt_72_p121 yt_72_p121
                             obtain ⟨At_72_p121, ct_72_p121, rfl, pt_72_p121⟩ := own_pushS (f := (fun z => z.map Value.string)) hht_72.out (by simp) rfl ot_72_p121
                             have Pt_72_p121 := Lib.hid pt_72_p121
                             have Yt_72_p121 := Lib.hid yt_72_p121
                             have Gt_72_p121 := Lib.hid gt_72_p121
                             have HBwt_72_p121 := Lib.hid (HBwt_68_p120.out.grown Gt_72_p121.out hst_72_p121 (fun q hq => (Pt_68_p120.out.lt q hq).1))
                             have Dt_72_out_4l0_p121 : Hid (Apart At_72_p121 _) := Lib.hid (apart_app Dt_68_out_4l0_p120.out (fun a_ ha_ => (own_lt Oout_4l0_p113_p118_p119_p120.out a_ ha_).2) Yt_72_p121.out)
                             have Oout_4l0_p113_p118_p119_p120_p121 := Lib.hid (own_other Oout_4l0_p113_p118_p119_p120.out Gt_72_p121.out Dt_68_out_4l0_p120.out))
                          | (have hst_65_p124 := HBw_t_61_p123.out.size
                             have Ct_65_p124 := Lib.hid ((Mt_64_p111.out _ Oout_4l0_p122_p123.out))
                             have h1t_65_p124 : 0 + t_64.length ≤ maxLen := by have h_ := hlt_65; simp only [List.length_nil] at h_; unfold maxLen; omega
                             have h2t_65_p124 : (0 + t_64.length) * 16 ≤ 140737488355328 := by have h_ := hlt_65; simp only [List.length_nil] at h_; omega
                             refine Go.Proofs.Ytbnpdaipgamgkaa.GoH.step_spread_own (w := w_t_61_p123) rfl (.tmp 60) (.tmp 63) 24 rfl w.heap.size 9 i0_9 (.string ByteArray.empty) 1 16 Try.underlying24 hi_9 hz0_9 hz1_9 hz2_9 rfl (by decide) (some ⟨w_t_67_p122.heap.size, 0, none⟩) 0 0 _ rfl Ot_61_p123.out At_64_p111 t_64.length ct_64_p111 (t_64.map Value.string) rfl Qt_64_p111.out Ct_65_p124.out (fun u hu => by obtain ⟨y_, _, rfl⟩ := List.mem_map.1 hu; rfl) h1t_65_p124 h2t_65_p124 hst_65_p124 ?_
                             intro vt_65_p124 wt_65_p124 ot_65_p124 gt_65_p124 yt_65_p124
                             obtain ⟨At_65_p124, ct_65_p124, rfl, pt_65_p124⟩ := own_pushS (f := (fun z => z.map Value.string)) hht_65.out (by simp) rfl ot_65_p124
                             have Pt_65_p124 := Lib.hid pt_65_p124
                             have Yt_65_p124 := Lib.hid yt_65_p124
                             have Gt_65_p124 := Lib.hid gt_65_p124
                             have HBwt_65_p124 := Lib.hid (HBw_t_61_p123.out.grown Gt_65_p124.out hst_65_p124 (fun q hq => (Ot_61_p123.out.lt q hq).1))
                             have Dt_65_out_4l0_p124 : Hid (Apart At_65_p124 _) := Lib.hid (apart_app Dt_61_out_4l0_p123.out (fun a_ ha_ => (own_lt Oout_4l0_p122_p123.out a_ ha_).2) Yt_65_p124.out)
                             have Dt_65_t_67_p124 : Hid (Apart At_65_p124 _) := Lib.hid (apart_app Dt_61_t_67_p123.out (fun a_ ha_ => (own_lt Ot_67_p122_p123.out a_ ha_).2) Yt_65_p124.out)
                             have Oout_4l0_p122_p123_p124 := Lib.hid (own_other Oout_4l0_p122_p123.out Gt_65_p124.out Dt_61_out_4l0_p123.out)
                             have Ot_67_p122_p123_p124 := Lib.hid (own_other Ot_67_p122_p123.out Gt_65_p124.out Dt_61_t_67_p123.out))
                          | (have hst_68_p125 := HBwt_65_p124.out.size
                             have h1t_68_p125 : t_65.length + 1 ≤ maxLen := by unfold maxLen; omega
                             have h2t_68_p125 : (t_65.length + 1) * 16 ≤ 140737488355328 := by omega
                             have h3t_68_p125 := Ot_67_p122_p123_p124.out.cells rfl
                             refine Go.Proofs.Ytbnpdaipgamgkaa.GoH.step_append_own (w := wt_65_p124) rfl (.tmp 64) (.tmp 66) 24 rfl w.heap.size 9 i0_9 (.string ByteArray.empty) 1 16 Try.underlying24 hi_9 hz0_9 hz1_9 hz2_9 rfl (by decide) At_65_p124 ct_65_p124 t_65.length _ rfl Pt_65_p124.out ⟨wr2.heap.size, 0, none⟩ 1 [.string t_17_mark] rfl rfl h3t_68_p125 (one_cells rfl) h1t_68_p125 h2t_68_p125 hst_68_p125 ?_
                             intro vt_68_p125 wt_68_p125 ot_68_p125 gt_68_p125 yt_68_p125
                             obtain ⟨qt_68_p125, ct_68_p125, rfl, pt_68_p125⟩ := own_push hht_68.out (by simp) rfl ot_68_p125
                             have Pt_68_p125 := Lib.hid pt_68_p125
                             have Yt_68_p125 := Lib.hid yt_68_p125
                             have Gt_68_p125 := Lib.hid gt_68_p125
                             have HBwt_68_p125 := Lib.hid (HBwt_65_p124.out.grown Gt_68_p125.out hst_68_p125 (fun q hq => (Pt_65_p124.out.lt q hq).1))
                             have Dt_68_out_4l0_p125 : Hid (Apart (some ⟨qt_68_p125, 0, none⟩) _) := Lib.hid (apart_app Dt_65_out_4l0_p124.out (fun a_ ha_ => (own_lt Oout_4l0_p122_p123_p124.out a_ ha_).2) Yt_68_p125.out)
                             have Dt_68_t_67_p125 : Hid (Apart (some ⟨qt_68_p125, 0, none⟩) _) := Lib.hid (apart_app Dt_65_t_67_p124.out (fun a_ ha_ => (own_lt Ot_67_p122_p123_p124.out a_ ha_).2) Yt_68_p125.out)
                             have Oout_4l0_p122_p123_p124_p125 := Lib.hid (own_other Oout_4l0_p122_p123_p124.out Gt_68_p125.out Dt_65_out_4l0_p124.out)
                             have Ot_67_p122_p123_p124_p125 := Lib.hid (own_other Ot_67_p122_p123_p124.out Gt_68_p125.out Dt_65_t_67_p124.out))
                          | (have hst_72_p126 := HBwt_68_p125.out.size
                             have Ct_72_p126 := Lib.hid ((Mt_71_p112.out _ Oout_4l0_p122_p123_p124_p125.out))
                             have h1t_72_p126 : t_68.length + t_71.length ≤ maxLen := by have h_ := hlt_72; unfold maxLen; omega
                             have h2t_72_p126 : (t_68.length + t_71.length) * 16 ≤ 140737488355328 := by have h_ := hlt_72; omega
                             refine Go.Proofs.Ytbnpdaipgamgkaa.GoH.step_spread_own (w := wt_68_p125) rfl (.tmp 67) (.tmp 70) 24 rfl w.heap.size 9 i0_9 (.string ByteArray.empty) 1 16 Try.underlying24 hi_9 hz0_9 hz1_9 hz2_9 rfl (by decide) (some ⟨qt_68_p125, 0, none⟩) ct_68_p125 t_68.length _ rfl Pt_68_p125.out At_71_p112 t_71.length ct_71_p112 (t_71.map Value.string) rfl Qt_71_p112.out Ct_72_p126.out (fun u hu => by obtain ⟨y_, _, rfl⟩ := List.mem_map.1 hu; rfl) h1t_72_p126 h2t_72_p126 hst_72_p126 ?_
                             intro vt_72_p126 wt_72_p126 ot_72_p126 gt_72_p126 yt_72_p126
                             obtain ⟨At_72_p126, ct_72_p126, rfl, pt_72_p126⟩ := own_pushS (f := (fun z => z.map Value.string)) hht_72.out (by simp) rfl ot_72_p126
                             have Pt_72_p126 := Lib.hid pt_72_p126
                             have Yt_72_p126 := Lib.hid yt_72_p126
                             have Gt_72_p126 := Lib.hid gt_72_p126
                             have HBwt_72_p126 := Lib.hid (HBwt_68_p125.out.grown Gt_72_p126.out hst_72_p126 (fun q hq => (Pt_68_p125.out.lt q hq).1))
                             have Dt_72_out_4l0_p126 : Hid (Apart At_72_p126 _) := Lib.hid (apart_app Dt_68_out_4l0_p125.out (fun a_ ha_ => (own_lt Oout_4l0_p122_p123_p124_p125.out a_ ha_).2) Yt_72_p126.out)
                             have Oout_4l0_p122_p123_p124_p125_p126 := Lib.hid (own_other Oout_4l0_p122_p123_p124_p125.out Gt_72_p126.out Dt_68_out_4l0_p125.out)))
                    · skip
                      replace H := app_hid H
                      go_wp2_with fail
                      go_roundg m0
                      case measure => omega
                      case rel => exact ⟨k0 + 1, _, _, _, by omega, by go_num, rfl, H, HBwt_72_p117, Pt_72_p117⟩
                    · skip
                      replace H := app_hid H
                      go_wp2_with fail
                      go_roundg m0
                      case measure => omega
                      case rel => exact ⟨k0 + 1, _, _, _, by omega, by go_num, rfl, H, HBwt_72_p121, Pt_72_p121⟩
                    · skip
                      replace H := app_hid H
                      go_wp2_with fail
                      go_roundg m0
                      case measure => omega
                      case rel => exact ⟨k0 + 1, _, _, _, by omega, by go_num, rfl, H, HBwt_72_p126, Pt_72_p126⟩
                  | true =>
                    replace H := let_hid H
                    obtain ⟨t_60, ht_60, H⟩ := H
                    obtain rfl : t_60 = false := ht_60.symm
                    replace H := ite_f H
                    replace H := app_hid H
                    go_wp2_with fail
                    go_roundg m0
                    case measure => omega
                    case rel => exact ⟨k0 + 1, _, _, _, by omega, by go_num, rfl, H, HBwr2, Oout_4l0⟩
                | true =>
                  replace H := ite_t H
                  replace H := let_hid H
                  obtain ⟨t_51, ht_51, H⟩ := H
                  replace H := idx_hid H
                  obtain ⟨nt_52, yt_52, et_52, lt_52, gt_52, H⟩ := H
                  subst et_52
                  obtain ⟨qt_52, Qt_52⟩ := own_some Oout_4l0.out (by omega)
                  subst Qt_52
                  obtain ⟨ab_t_52, ao_t_52, zt_52, At_52, z_t_52, ct_52_0⟩ := strs_at (own_cells Oout_4l0.out) (k := nt_52) (by omega)
                  obtain rfl := Option.some.inj (gt_52.out.symm.trans z_t_52)
                  simp only [Option.some.injEq, Addr.mk.injEq] at At_52
                  obtain ⟨rfl, rfl, _⟩ := At_52
                  clear z_t_52
                  simp only [Nat.zero_add] at ct_52_0
                  have b0t_52 : (0 : Int) ≤ (nt_52 : Int) := by omega
                  have b1t_52 : (nt_52 : Int) < ((out_4l0.length : Nat) : Int) := by omega
                  have b2t_52 : ((nt_52 : Int)).toNat = nt_52 := by omega
                  replace H := let_hid H
                  obtain ⟨t_54, ht_54, H⟩ := H
                  replace H := app_hid H
                  cases t_54 with
                  | false =>
                    replace H := ite_f H
                    replace H := app_hid H
                    unfold e2 at H
                    replace H := let_hid H
                    obtain ⟨_, rfl, H⟩ := H
                    cases known_8l1 with
                    | false =>
                      replace H := let_hid H
                      obtain ⟨t_60, ht_60, H⟩ := H
                      obtain rfl : t_60 = true := ht_60.symm
                      replace H := ite_t H
                      go_wp2_with fail
                      have bd17 : Below wr2.heap.size wr2 wr2.drew := (Below.refl _ _).drew
                      have HBwr2.drew := Lib.hid (Below.step HBwr2.out bd17)
                      replace ct_52_0 := cell_below bd17 ct_52_0
                      replace Oout_4l0 := Lib.hid (own_below Oout_4l0.out bd17)
                      clear bd17
                      replace H := guard_hid H
                      obtain ⟨hl_t_64, H⟩ := H
                      replace H := let_hid H
                      obtain ⟨t_64, ht_64, H⟩ := H
                      have hht_64 := Lib.hid ht_64
                      have hgt_64 := Lib.hid hl_t_64
                      clear ht_64
                      clear hl_t_64
                      replace H := guard_hid H
                      obtain ⟨hlt_65, H⟩ := H
                      replace H := let_hid H
                      obtain ⟨t_65, ht_65, H⟩ := H
                      have hht_65 := Lib.hid ht_65
                      clear ht_65
                      replace H := guard_hid H
                      obtain ⟨hlt_68, H⟩ := H
                      replace H := let_hid H
                      obtain ⟨t_68, ht_68, H⟩ := H
                      have hht_68 := Lib.hid ht_68
                      clear ht_68
                      replace H := guard_hid H
                      obtain ⟨hl_t_71, H⟩ := H
                      replace H := let_hid H
                      obtain ⟨t_71, ht_71, H⟩ := H
                      have hht_71 := Lib.hid ht_71
                      have hgt_71 := Lib.hid hl_t_71
                      clear ht_71
                      clear hl_t_71
                      replace H := guard_hid H
                      obtain ⟨hlt_72, H⟩ := H
                      replace H := let_hid H
                      obtain ⟨t_72, ht_72, H⟩ := H
                      have hht_72 := Lib.hid ht_72
                      clear ht_72
                      obtain ⟨At_64_p129, ct_64_p129, rt_64_p129, mt_64_p129, qt_64_p129⟩ := Go.Proofs.Ytbnpdaipgamgkaa.GoD.slice_viewH (P := Try.prog) (t := 24) (e := 9) (k := .i64) (ys := (t_64.map Value.string)) (m := t_64.length) (by kernel_rfl) (by kernel_rfl) hi_9 hz1_9 Oout_4l0.out (by have h_ := hgt_64.out; omega) (by have h_ := hgt_64.out; rw [← hht_64.out, List.length_take] <;> omega) (by rw [← hht_64.out]; simp [List.map_take])
                      have Mt_64_p129 := Lib.hid mt_64_p129
                      have Qt_64_p129 := Lib.hid qt_64_p129
                      have Nt_64_p129 : Hid (t_64.length ≤ 9223372036854775807) := Lib.hid (by have h_ := own_max Oout_4l0.out; rw [← hht_64.out, List.length_take] <;> omega)
                      obtain ⟨At_71_p130, ct_71_p130, rt_71_p130, mt_71_p130, qt_71_p130⟩ := Go.Proofs.Ytbnpdaipgamgkaa.GoD.slice_view (P := Try.prog) (t := 24) (e := 9) (k := .i64) (ys := (t_71.map Value.string)) (m := t_71.length) (by kernel_rfl) (by kernel_rfl) hi_9 hz1_9 Oout_4l0.out (by have h_ := hgt_71.out; omega) (by rw [← hht_71.out, List.length_drop] <;> omega) (by rw [← hht_71.out]; simp [List.map_drop])
                      have Mt_71_p130 := Lib.hid mt_71_p130
                      have Qt_71_p130 := Lib.hid qt_71_p130
                      have Nt_71_p130 : Hid (t_71.length ≤ 9223372036854775807) := Lib.hid (by have h_ := own_max Oout_4l0.out; rw [← hht_71.out, List.length_drop] <;> omega)
                      obtain ⟨w_t_61_p132, hw_t_61_p132⟩ : ∃ x, wr2.drew.alloc (.cells #[] 9) = x := ⟨_, rfl⟩
                      have bw_t_61_p132 : Below wr2.drew.heap.size wr2.drew w_t_61_p132 := by rw [← hw_t_61_p132]; exact (Below.refl _ _).alloc (Nat.le_refl _) _
                      have Ot_61_p132 : Hid (w_t_61_p132.ownsRow w.heap.size 9 1 (.slice (some ⟨wr2.heap.size, 0, none⟩) 0 0) 0 []) := Lib.hid (by rw [← hw_t_61_p132]; exact own_empty HBwr2.drew.out.size)
                      have Dt_61_out_4l0_p132 := Lib.hid (apart_fresh Oout_4l0.out)
                      have HBw_t_61_p132 := Lib.hid (Below.step HBwr2.drew.out bw_t_61_p132)
                      have ct_52_0__131_p132 := cell_below bw_t_61_p132 ct_52_0
                      have Oout_4l0_p132 := Lib.hid (own_below Oout_4l0.out bw_t_61_p132)
                      obtain ⟨w_t_67_p139, hw_t_67_p139⟩ : ∃ x, w_t_61_p132.alloc (.cells #[.string t_17_mark] 9) = x := ⟨_, rfl⟩
                      have bw_t_67_p139 : Below w_t_61_p132.heap.size w_t_61_p132 w_t_67_p139 := by rw [← hw_t_67_p139]; exact (Below.refl _ _).alloc (Nat.le_refl _) _
                      have Ot_67_p139 : Hid (w_t_67_p139.ownsRow w.heap.size 9 1 (.slice (some ⟨w_t_61_p132.heap.size, 0, none⟩) 1 1) 1 [.string t_17_mark]) := Lib.hid (by rw [← hw_t_67_p139]; exact own_laid (n := 1) HBw_t_61_p132.out.size (rfl : ([.string t_17_mark] : List Value) = [.string t_17_mark]) rfl (by unfold maxLen; omega))
                      have Dt_67_out_4l0_p139 := Lib.hid (apart_fresh Oout_4l0_p132.out)
                      have Dt_67_t_61_p139 := Lib.hid (apart_fresh Ot_61_p132.out)
                      have HBw_t_67_p139 := Lib.hid (Below.step HBw_t_61_p132.out bw_t_67_p139)
                      have ct_52_0__138_p139 := cell_below bw_t_67_p139 ct_52_0__131_p132
                      have Oout_4l0_p132_p139 := Lib.hid (own_below Oout_4l0_p132.out bw_t_67_p139)
                      have Ot_61_p132_p139 := Lib.hid (own_below Ot_61_p132.out bw_t_67_p139)
                      obtain ⟨w_t_67_p144, hw_t_67_p144⟩ : ∃ x, wr2.drew.alloc (.cells #[.string t_17_mark] 9) = x := ⟨_, rfl⟩
                      have bw_t_67_p144 : Below wr2.drew.heap.size wr2.drew w_t_67_p144 := by rw [← hw_t_67_p144]; exact (Below.refl _ _).alloc (Nat.le_refl _) _
                      have Ot_67_p144 : Hid (w_t_67_p144.ownsRow w.heap.size 9 1 (.slice (some ⟨wr2.heap.size, 0, none⟩) 1 1) 1 [.string t_17_mark]) := Lib.hid (by rw [← hw_t_67_p144]; exact own_laid (n := 1) HBwr2.drew.out.size (rfl : ([.string t_17_mark] : List Value) = [.string t_17_mark]) rfl (by unfold maxLen; omega))
                      have Dt_67_out_4l0_p144 := Lib.hid (apart_fresh Oout_4l0.out)
                      have HBw_t_67_p144 := Lib.hid (Below.step HBwr2.drew.out bw_t_67_p144)
                      have ct_52_0__143_p144 := cell_below bw_t_67_p144 ct_52_0
                      have Oout_4l0_p144 := Lib.hid (own_below Oout_4l0.out bw_t_67_p144)
                      obtain ⟨w_t_61_p146, hw_t_61_p146⟩ : ∃ x, w_t_67_p144.alloc (.cells #[] 9) = x := ⟨_, rfl⟩
                      have bw_t_61_p146 : Below w_t_67_p144.heap.size w_t_67_p144 w_t_61_p146 := by rw [← hw_t_61_p146]; exact (Below.refl _ _).alloc (Nat.le_refl _) _
                      have Ot_61_p146 : Hid (w_t_61_p146.ownsRow w.heap.size 9 1 (.slice (some ⟨w_t_67_p144.heap.size, 0, none⟩) 0 0) 0 []) := Lib.hid (by rw [← hw_t_61_p146]; exact own_empty HBw_t_67_p144.out.size)
                      have Dt_61_out_4l0_p146 := Lib.hid (apart_fresh Oout_4l0_p144.out)
                      have Dt_61_t_67_p146 := Lib.hid (apart_fresh Ot_67_p144.out)
                      have HBw_t_61_p146 := Lib.hid (Below.step HBw_t_67_p144.out bw_t_61_p146)
                      have ct_52_0__145_p146 := cell_below bw_t_61_p146 ct_52_0__143_p144
                      have Oout_4l0_p144_p146 := Lib.hid (own_below Oout_4l0_p144.out bw_t_61_p146)
                      have Ot_67_p144_p146 := Lib.hid (own_below Ot_67_p144.out bw_t_61_p146)
                      go_region_held3 (fun w' => w'.cell? ⟨qt_52, nt_52, none⟩ = some (.string yt_52)) (first | exact ct_52_0 | exact ct_52_0__131_p132 | exact ct_52_0__131_p132_p133 | exact ct_52_0__134_p135 | exact ct_52_0__134_p135_p136 | exact ct_52_0__134_p135_p136_p137 | exact ct_52_0__138_p139 | exact ct_52_0__138_p139_p140 | exact ct_52_0__138_p139_p140_p141 | exact ct_52_0__138_p139_p140_p141_p142 | exact ct_52_0__143_p144 | exact ct_52_0__145_p146 | exact ct_52_0__145_p146_p147 | exact ct_52_0__145_p146_p147_p148 | exact ct_52_0__145_p146_p147_p148_p149)
                          (first
                            | (have hst_65_p133 := HBw_t_61_p132.out.size
                               have Ct_65_p133 := Lib.hid ((Mt_64_p129.out _ Oout_4l0_p132.out))
                               have h1t_65_p133 : 0 + t_64.length ≤ maxLen := by have h_ := hlt_65; simp only [List.length_nil] at h_; unfold maxLen; omega
                               have h2t_65_p133 : (0 + t_64.length) * 16 ≤ 140737488355328 := by have h_ := hlt_65; simp only [List.length_nil] at h_; omega
                               refine Go.Proofs.Ytbnpdaipgamgkaa.GoH.step_spread_own (w := w_t_61_p132) rfl (.tmp 60) (.tmp 63) 24 rfl w.heap.size 9 i0_9 (.string ByteArray.empty) 1 16 Try.underlying24 hi_9 hz0_9 hz1_9 hz2_9 rfl (by decide) (some ⟨wr2.heap.size, 0, none⟩) 0 0 _ rfl Ot_61_p132.out At_64_p129 t_64.length ct_64_p129 (t_64.map Value.string) rfl Qt_64_p129.out Ct_65_p133.out (fun u hu => by obtain ⟨y_, _, rfl⟩ := List.mem_map.1 hu; rfl) h1t_65_p133 h2t_65_p133 hst_65_p133 ?_
                               intro vt_65_p133 wt_65_p133 ot_65_p133 gt_65_p133 yt_65_p133
                               obtain ⟨At_65_p133, ct_65_p133, rfl, pt_65_p133⟩ := own_pushS (f := (fun z => z.map Value.string)) hht_65.out (by simp) rfl ot_65_p133
                               have Pt_65_p133 := Lib.hid pt_65_p133
                               have Yt_65_p133 := Lib.hid yt_65_p133
                               have Gt_65_p133 := Lib.hid gt_65_p133
                               have HBwt_65_p133 := Lib.hid (HBw_t_61_p132.out.grown Gt_65_p133.out hst_65_p133 (fun q hq => (Ot_61_p132.out.lt q hq).1))
                               have Dt_65_out_4l0_p133 : Hid (Apart At_65_p133 _) := Lib.hid (apart_app Dt_61_out_4l0_p132.out (fun a_ ha_ => (own_lt Oout_4l0_p132.out a_ ha_).2) Yt_65_p133.out)
                               have ct_52_0__131_p132_p133 := cell_other ct_52_0__131_p132 Gt_65_p133.out Dt_61_out_4l0_p132.out
                               have Oout_4l0_p132_p133 := Lib.hid (own_other Oout_4l0_p132.out Gt_65_p133.out Dt_61_out_4l0_p132.out)
                               obtain ⟨w_t_67_p135, hw_t_67_p135⟩ : ∃ x, wt_65_p133.alloc (.cells #[.string t_17_mark] 9) = x := ⟨_, rfl⟩
                               have bw_t_67_p135 : Below wt_65_p133.heap.size wt_65_p133 w_t_67_p135 := by rw [← hw_t_67_p135]; exact (Below.refl _ _).alloc (Nat.le_refl _) _
                               have Ot_67_p135 : Hid (w_t_67_p135.ownsRow w.heap.size 9 1 (.slice (some ⟨wt_65_p133.heap.size, 0, none⟩) 1 1) 1 [.string t_17_mark]) := Lib.hid (by rw [← hw_t_67_p135]; exact own_laid (n := 1) HBwt_65_p133.out.size (rfl : ([.string t_17_mark] : List Value) = [.string t_17_mark]) rfl (by unfold maxLen; omega))
                               have Dt_67_out_4l0_p135 := Lib.hid (apart_fresh Oout_4l0_p132_p133.out)
                               have Dt_67_t_65_p135 := Lib.hid (apart_fresh Pt_65_p133.out)
                               have HBw_t_67_p135 := Lib.hid (Below.step HBwt_65_p133.out bw_t_67_p135)
                               have ct_52_0__134_p135 := cell_below bw_t_67_p135 ct_52_0__131_p132_p133
                               have Oout_4l0_p132_p133_p135 := Lib.hid (own_below Oout_4l0_p132_p133.out bw_t_67_p135)
                               have Pt_65_p133_p135 := Lib.hid (own_below Pt_65_p133.out bw_t_67_p135))
                            | (have hst_68_p136 := HBw_t_67_p135.out.size
                               have h1t_68_p136 : t_65.length + 1 ≤ maxLen := by unfold maxLen; omega
                               have h2t_68_p136 : (t_65.length + 1) * 16 ≤ 140737488355328 := by omega
                               have h3t_68_p136 := Ot_67_p135.out.cells rfl
                               refine Go.Proofs.Ytbnpdaipgamgkaa.GoH.step_append_own (w := w_t_67_p135) rfl (.tmp 64) (.tmp 66) 24 rfl w.heap.size 9 i0_9 (.string ByteArray.empty) 1 16 Try.underlying24 hi_9 hz0_9 hz1_9 hz2_9 rfl (by decide) At_65_p133 ct_65_p133 t_65.length _ rfl Pt_65_p133_p135.out ⟨wt_65_p133.heap.size, 0, none⟩ 1 [.string t_17_mark] rfl rfl h3t_68_p136 (one_cells rfl) h1t_68_p136 h2t_68_p136 hst_68_p136 ?_
                               intro vt_68_p136 wt_68_p136 ot_68_p136 gt_68_p136 yt_68_p136
                               obtain ⟨qt_68_p136, ct_68_p136, rfl, pt_68_p136⟩ := own_push hht_68.out (by simp) rfl ot_68_p136
                               have Pt_68_p136 := Lib.hid pt_68_p136
                               have Yt_68_p136 := Lib.hid yt_68_p136
                               have Gt_68_p136 := Lib.hid gt_68_p136
                               have HBwt_68_p136 := Lib.hid (HBw_t_67_p135.out.grown Gt_68_p136.out hst_68_p136 (fun q hq => (Pt_65_p133_p135.out.lt q hq).1))
                               have Dt_68_out_4l0_p136 : Hid (Apart (some ⟨qt_68_p136, 0, none⟩) _) := Lib.hid (apart_app Dt_65_out_4l0_p133.out (fun a_ ha_ => (own_lt Oout_4l0_p132_p133_p135.out a_ ha_).2) Yt_68_p136.out)
                               have Dt_68_t_67_p136 : Hid (Apart (some ⟨qt_68_p136, 0, none⟩) _) := Lib.hid (apart_app (Apart.symm Dt_67_t_65_p135.out) (fun a_ ha_ => (own_lt Ot_67_p135.out a_ ha_).2) Yt_68_p136.out)
                               have ct_52_0__134_p135_p136 := cell_other ct_52_0__134_p135 Gt_68_p136.out Dt_65_out_4l0_p133.out
                               have Oout_4l0_p132_p133_p135_p136 := Lib.hid (own_other Oout_4l0_p132_p133_p135.out Gt_68_p136.out Dt_65_out_4l0_p133.out)
                               have Ot_67_p135_p136 := Lib.hid (own_other Ot_67_p135.out Gt_68_p136.out (Apart.symm Dt_67_t_65_p135.out)))
                            | (have hst_72_p137 := HBwt_68_p136.out.size
                               have Ct_72_p137 := Lib.hid ((Mt_71_p130.out _ Oout_4l0_p132_p133_p135_p136.out))
                               have h1t_72_p137 : t_68.length + t_71.length ≤ maxLen := by have h_ := hlt_72; unfold maxLen; omega
                               have h2t_72_p137 : (t_68.length + t_71.length) * 16 ≤ 140737488355328 := by have h_ := hlt_72; omega
                               refine Go.Proofs.Ytbnpdaipgamgkaa.GoH.step_spread_own (w := wt_68_p136) rfl (.tmp 67) (.tmp 70) 24 rfl w.heap.size 9 i0_9 (.string ByteArray.empty) 1 16 Try.underlying24 hi_9 hz0_9 hz1_9 hz2_9 rfl (by decide) (some ⟨qt_68_p136, 0, none⟩) ct_68_p136 t_68.length _ rfl Pt_68_p136.out At_71_p130 t_71.length ct_71_p130 (t_71.map Value.string) rfl Qt_71_p130.out Ct_72_p137.out (fun u hu => by obtain ⟨y_, _, rfl⟩ := List.mem_map.1 hu; rfl) h1t_72_p137 h2t_72_p137 hst_72_p137 ?_
                               intro vt_72_p137 wt_72_p137 ot_72_p137 gt_72_p137 yt_72_p137
                               obtain ⟨At_72_p137, ct_72_p137, rfl, pt_72_p137⟩ := own_pushS (f := (fun z => z.map Value.string)) hht_72.out (by simp) rfl ot_72_p137
                               have Pt_72_p137 := Lib.hid pt_72_p137
                               have Yt_72_p137 := Lib.hid yt_72_p137
                               have Gt_72_p137 := Lib.hid gt_72_p137
                               have HBwt_72_p137 := Lib.hid (HBwt_68_p136.out.grown Gt_72_p137.out hst_72_p137 (fun q hq => (Pt_68_p136.out.lt q hq).1))
                               have Dt_72_out_4l0_p137 : Hid (Apart At_72_p137 _) := Lib.hid (apart_app Dt_68_out_4l0_p136.out (fun a_ ha_ => (own_lt Oout_4l0_p132_p133_p135_p136.out a_ ha_).2) Yt_72_p137.out)
                               have ct_52_0__134_p135_p136_p137 := cell_other ct_52_0__134_p135_p136 Gt_72_p137.out Dt_68_out_4l0_p136.out
                               have Oout_4l0_p132_p133_p135_p136_p137 := Lib.hid (own_other Oout_4l0_p132_p133_p135_p136.out Gt_72_p137.out Dt_68_out_4l0_p136.out))
                            | (have hst_65_p140 := HBw_t_67_p139.out.size
                               have Ct_65_p140 := Lib.hid ((Mt_64_p129.out _ Oout_4l0_p132_p139.out))
                               have h1t_65_p140 : 0 + t_64.length ≤ maxLen := by have h_ := hlt_65; simp only [List.length_nil] at h_; unfold maxLen; omega
                               have h2t_65_p140 : (0 + t_64.length) * 16 ≤ 140737488355328 := by have h_ := hlt_65; simp only [List.length_nil] at h_; omega
                               refine Go.Proofs.Ytbnpdaipgamgkaa.GoH.step_spread_own (w := w_t_67_p139) rfl (.tmp 60) (.tmp 63) 24 rfl w.heap.size 9 i0_9 (.string ByteArray.empty) 1 16 Try.underlying24 hi_9 hz0_9 hz1_9 hz2_9 rfl (by decide) (some ⟨wr2.heap.size, 0, none⟩) 0 0 _ rfl Ot_61_p132_p139.out At_64_p129 t_64.length ct_64_p129 (t_64.map Value.string) rfl Qt_64_p129.out Ct_65_p140.out (fun u hu => by obtain ⟨y_, _, rfl⟩ := List.mem_map.1 hu; rfl) h1t_65_p140 h2t_65_p140 hst_65_p140 ?_
                               intro vt_65_p140 wt_65_p140 ot_65_p140 gt_65_p140 yt_65_p140
                               obtain ⟨At_65_p140, ct_65_p140, rfl, pt_65_p140⟩ := own_pushS (f := (fun z => z.map Value.string)) hht_65.out (by simp) rfl ot_65_p140
                               have Pt_65_p140 := Lib.hid pt_65_p140
                               have Yt_65_p140 := Lib.hid yt_65_p140
                               have Gt_65_p140 := Lib.hid gt_65_p140
                               have HBwt_65_p140 := Lib.hid (HBw_t_67_p139.out.grown Gt_65_p140.out hst_65_p140 (fun q hq => (Ot_61_p132_p139.out.lt q hq).1))
                               have Dt_65_out_4l0_p140 : Hid (Apart At_65_p140 _) := Lib.hid (apart_app Dt_61_out_4l0_p132.out (fun a_ ha_ => (own_lt Oout_4l0_p132_p139.out a_ ha_).2) Yt_65_p140.out)
                               have Dt_65_t_67_p140 : Hid (Apart At_65_p140 _) := Lib.hid (apart_app (Apart.symm Dt_67_t_61_p139.out) (fun a_ ha_ => (own_lt Ot_67_p139.out a_ ha_).2) Yt_65_p140.out)
                               have ct_52_0__138_p139_p140 := cell_other ct_52_0__138_p139 Gt_65_p140.out Dt_61_out_4l0_p132.out
                               have Oout_4l0_p132_p139_p140 := Lib.hid (own_other Oout_4l0_p132_p139.out Gt_65_p140.out Dt_61_out_4l0_p132.out)
                               have Ot_67_p139_p140 := Lib.hid (own_other Ot_67_p139.out Gt_65_p140.out (Apart.symm Dt_67_t_61_p139.out)))
                            | (have hst_68_p141 := HBwt_65_p140.out.size
                               have h1t_68_p141 : t_65.length + 1 ≤ maxLen := by unfold maxLen; omega
                               have h2t_68_p141 : (t_65.length + 1) * 16 ≤ 140737488355328 := by omega
                               have h3t_68_p141 := Ot_67_p139_p140.out.cells rfl
                               refine Go.Proofs.Ytbnpdaipgamgkaa.GoH.step_append_own (w := wt_65_p140) rfl (.tmp 64) (.tmp 66) 24 rfl w.heap.size 9 i0_9 (.string ByteArray.empty) 1 16 Try.underlying24 hi_9 hz0_9 hz1_9 hz2_9 rfl (by decide) At_65_p140 ct_65_p140 t_65.length _ rfl Pt_65_p140.out ⟨w_t_61_p132.heap.size, 0, none⟩ 1 [.string t_17_mark] rfl rfl h3t_68_p141 (one_cells rfl) h1t_68_p141 h2t_68_p141 hst_68_p141 ?_
                               intro vt_68_p141 wt_68_p141 ot_68_p141 gt_68_p141 yt_68_p141
                               obtain ⟨qt_68_p141, ct_68_p141, rfl, pt_68_p141⟩ := own_push hht_68.out (by simp) rfl ot_68_p141
                               have Pt_68_p141 := Lib.hid pt_68_p141
                               have Yt_68_p141 := Lib.hid yt_68_p141
                               have Gt_68_p141 := Lib.hid gt_68_p141
                               have HBwt_68_p141 := Lib.hid (HBwt_65_p140.out.grown Gt_68_p141.out hst_68_p141 (fun q hq => (Pt_65_p140.out.lt q hq).1))
                               have Dt_68_out_4l0_p141 : Hid (Apart (some ⟨qt_68_p141, 0, none⟩) _) := Lib.hid (apart_app Dt_65_out_4l0_p140.out (fun a_ ha_ => (own_lt Oout_4l0_p132_p139_p140.out a_ ha_).2) Yt_68_p141.out)
                               have Dt_68_t_67_p141 : Hid (Apart (some ⟨qt_68_p141, 0, none⟩) _) := Lib.hid (apart_app Dt_65_t_67_p140.out (fun a_ ha_ => (own_lt Ot_67_p139_p140.out a_ ha_).2) Yt_68_p141.out)
                               have ct_52_0__138_p139_p140_p141 := cell_other ct_52_0__138_p139_p140 Gt_68_p141.out Dt_65_out_4l0_p140.out
                               have Oout_4l0_p132_p139_p140_p141 := Lib.hid (own_other Oout_4l0_p132_p139_p140.out Gt_68_p141.out Dt_65_out_4l0_p140.out)
                               have Ot_67_p139_p140_p141 := Lib.hid (own_other Ot_67_p139_p140.out Gt_68_p141.out Dt_65_t_67_p140.out))
                            | (have hst_72_p142 := HBwt_68_p141.out.size
                               have Ct_72_p142 := Lib.hid ((Mt_71_p130.out _ Oout_4l0_p132_p139_p140_p141.out))
                               have h1t_72_p142 : t_68.length + t_71.length ≤ maxLen := by have h_ := hlt_72; unfold maxLen; omega
                               have h2t_72_p142 : (t_68.length + t_71.length) * 16 ≤ 140737488355328 := by have h_ := hlt_72; omega
                               refine Go.Proofs.Ytbnpdaipgamgkaa.GoH.step_spread_own (w := wt_68_p141) rfl (.tmp 67) (.tmp 70) 24 rfl w.heap.size 9 i0_9 (.string ByteArray.empty) 1 16 Try.underlying24 hi_9 hz0_9 hz1_9 hz2_9 rfl (by decide) (some ⟨qt_68_p141, 0, none⟩) ct_68_p141 t_68.length _ rfl Pt_68_p141.out At_71_p130 t_71.length ct_71_p130 (t_71.map Value.string) rfl Qt_71_p130.out Ct_72_p142.out (fun u hu => by obtain ⟨y_, _, rfl⟩ := List.mem_map.1 hu; rfl) h1t_72_p142 h2t_72_p142 hst_72_p142 ?_
                               intro vt_72_p142 wt_72_p142 ot_72_p142 gt_72_p142 yt_72_p142
                               obtain ⟨At_72_p142, ct_72_p142, rfl, pt_72_p142⟩ := own_pushS (f := (fun z => z.map Value.string)) hht_72.out (by simp) rfl ot_72_p142
                               have Pt_72_p142 := Lib.hid pt_72_p142
                               have Yt_72_p142 := Lib.hid yt_72_p142
                               have Gt_72_p142 := Lib.hid gt_72_p142
                               have HBwt_72_p142 := Lib.hid (HBwt_68_p141.out.grown Gt_72_p142.out hst_72_p142 (fun q hq => (Pt_68_p141.out.lt q hq).1))
                               have Dt_72_out_4l0_p142 : Hid (Apart At_72_p142 _) := Lib.hid (apart_app Dt_68_out_4l0_p141.out (fun a_ ha_ => (own_lt Oout_4l0_p132_p139_p140_p141.out a_ ha_).2) Yt_72_p142.out)
                               have ct_52_0__138_p139_p140_p141_p142 := cell_other ct_52_0__138_p139_p140_p141 Gt_72_p142.out Dt_68_out_4l0_p141.out
                               have Oout_4l0_p132_p139_p140_p141_p142 := Lib.hid (own_other Oout_4l0_p132_p139_p140_p141.out Gt_72_p142.out Dt_68_out_4l0_p141.out))
                            | (have hst_65_p147 := HBw_t_61_p146.out.size
                               have Ct_65_p147 := Lib.hid ((Mt_64_p129.out _ Oout_4l0_p144_p146.out))
                               have h1t_65_p147 : 0 + t_64.length ≤ maxLen := by have h_ := hlt_65; simp only [List.length_nil] at h_; unfold maxLen; omega
                               have h2t_65_p147 : (0 + t_64.length) * 16 ≤ 140737488355328 := by have h_ := hlt_65; simp only [List.length_nil] at h_; omega
                               refine Go.Proofs.Ytbnpdaipgamgkaa.GoH.step_spread_own (w := w_t_61_p146) rfl (.tmp 60) (.tmp 63) 24 rfl w.heap.size 9 i0_9 (.string ByteArray.empty) 1 16 Try.underlying24 hi_9 hz0_9 hz1_9 hz2_9 rfl (by decide) (some ⟨w_t_67_p144.heap.size, 0, none⟩) 0 0 _ rfl Ot_61_p146.out At_64_p129 t_64.length ct_64_p129 (t_64.map Value.string) rfl Qt_64_p129.out Ct_65_p147.out (fun u hu => by obtain ⟨y_, _, rfl⟩ := List.mem_map.1 hu; rfl) h1t_65_p147 h2t_65_p147 hst_65_p147 ?_
                               intro vt_65_p147 wt_65_p147 ot_65_p147 gt_65_p147 yt_65_p147
                               obtain ⟨At_65_p147, ct_65_p147, rfl, pt_65_p147⟩ := own_pushS (f := (fun z => z.map Value.string)) hht_65.out (by simp) rfl ot_65_p147
                               have Pt_65_p147 := Lib.hid pt_65_p147
                               have Yt_65_p147 := Lib.hid yt_65_p147
                               have Gt_65_p147 := Lib.hid gt_65_p147
                               have HBwt_65_p147 := Lib.hid (HBw_t_61_p146.out.grown Gt_65_p147.out hst_65_p147 (fun q hq => (Ot_61_p146.out.lt q hq).1))
                               have Dt_65_out_4l0_p147 : Hid (Apart At_65_p147 _) := Lib.hid (apart_app Dt_61_out_4l0_p146.out (fun a_ ha_ => (own_lt Oout_4l0_p144_p146.out a_ ha_).2) Yt_65_p147.out)
                               have Dt_65_t_67_p147 : Hid (Apart At_65_p147 _) := Lib.hid (apart_app Dt_61_t_67_p146.out (fun a_ ha_ => (own_lt Ot_67_p144_p146.out a_ ha_).2) Yt_65_p147.out)
                               have ct_52_0__145_p146_p147 := cell_other ct_52_0__145_p146 Gt_65_p147.out Dt_61_out_4l0_p146.out
                               have Oout_4l0_p144_p146_p147 := Lib.hid (own_other Oout_4l0_p144_p146.out Gt_65_p147.out Dt_61_out_4l0_p146.out)
                               have Ot_67_p144_p146_p147 := Lib.hid (own_other Ot_67_p144_p146.out Gt_65_p147.out Dt_61_t_67_p146.out))
                            | (have hst_68_p148 := HBwt_65_p147.out.size
                               have h1t_68_p148 : t_65.length + 1 ≤ maxLen := by unfold maxLen; omega
                               have h2t_68_p148 : (t_65.length + 1) * 16 ≤ 140737488355328 := by omega
                               have h3t_68_p148 := Ot_67_p144_p146_p147.out.cells rfl
                               refine Go.Proofs.Ytbnpdaipgamgkaa.GoH.step_append_own (w := wt_65_p147) rfl (.tmp 64) (.tmp 66) 24 rfl w.heap.size 9 i0_9 (.string ByteArray.empty) 1 16 Try.underlying24 hi_9 hz0_9 hz1_9 hz2_9 rfl (by decide) At_65_p147 ct_65_p147 t_65.length _ rfl Pt_65_p147.out ⟨wr2.heap.size, 0, none⟩ 1 [.string t_17_mark] rfl rfl h3t_68_p148 (one_cells rfl) h1t_68_p148 h2t_68_p148 hst_68_p148 ?_
                               intro vt_68_p148 wt_68_p148 ot_68_p148 gt_68_p148 yt_68_p148
                               obtain ⟨qt_68_p148, ct_68_p148, rfl, pt_68_p148⟩ := own_push hht_68.out (by simp) rfl ot_68_p148
                               have Pt_68_p148 := Lib.hid pt_68_p148
                               have Yt_68_p148 := Lib.hid yt_68_p148
                               have Gt_68_p148 := Lib.hid gt_68_p148
                               have HBwt_68_p148 := Lib.hid (HBwt_65_p147.out.grown Gt_68_p148.out hst_68_p148 (fun q hq => (Pt_65_p147.out.lt q hq).1))
                               have Dt_68_out_4l0_p148 : Hid (Apart (some ⟨qt_68_p148, 0, none⟩) _) := Lib.hid (apart_app Dt_65_out_4l0_p147.out (fun a_ ha_ => (own_lt Oout_4l0_p144_p146_p147.out a_ ha_).2) Yt_68_p148.out)
                               have Dt_68_t_67_p148 : Hid (Apart (some ⟨qt_68_p148, 0, none⟩) _) := Lib.hid (apart_app Dt_65_t_67_p147.out (fun a_ ha_ => (own_lt Ot_67_p144_p146_p147.out a_ ha_).2) Yt_68_p148.out)
                               have ct_52_0__145_p146_p147_p148 := cell_other ct_52_0__145_p146_p147 Gt_68_p148.out Dt_65_out_4l0_p147.out
                               have Oout_4l0_p144_p146_p147_p148 := Lib.hid (own_other Oout_4l0_p144_p146_p147.out Gt_68_p148.out Dt_65_out_4l0_p147.out)
                               have Ot_67_p144_p146_p147_p148 := Lib.hid (own_other Ot_67_p144_p146_p147.out Gt_68_p148.out Dt_65_t_67_p147.out))
                            | (have hst_72_p149 := HBwt_68_p148.out.size
                               have Ct_72_p149 := Lib.hid ((Mt_71_p130.out _ Oout_4l0_p144_p146_p147_p148.out))
                               have h1t_72_p149 : t_68.length + t_71.length ≤ maxLen := by have h_ := hlt_72; unfold maxLen; omega
                               have h2t_72_p149 : (t_68.length + t_71.length) * 16 ≤ 140737488355328 := by have h_ := hlt_72; omega
                               refine Go.Proofs.Ytbnpdaipgamgkaa.GoH.step_spread_own (w := wt_68_p148) rfl (.tmp 67) (.tmp 70) 24 rfl w.heap.size 9 i0_9 (.string ByteArray.empty) 1 16 Try.underlying24 hi_9 hz0_9 hz1_9 hz2_9 rfl (by decide) (some ⟨qt_68_p148, 0, none⟩) ct_68_p148 t_68.length _ rfl Pt_68_p148.out At_71_p130 t_71.length ct_71_p130 (t_71.map Value.string) rfl Qt_71_p130.out Ct_72_p149.out (fun u hu => by obtain ⟨y_, _, rfl⟩ := List.mem_map.1 hu; rfl) h1t_72_p149 h2t_72_p149 hst_72_p149 ?_
                               intro vt_72_p149 wt_72_p149 ot_72_p149 gt_72_p149 yt_72_p149
                               obtain ⟨At_72_p149, ct_72_p149, rfl, pt_72_p149⟩ := own_pushS (f := (fun z => z.map Value.string)) hht_72.out (by simp) rfl ot_72_p149
                               have Pt_72_p149 := Lib.hid pt_72_p149
                               have Yt_72_p149 := Lib.hid yt_72_p149
                               have Gt_72_p149 := Lib.hid gt_72_p149
                               have HBwt_72_p149 := Lib.hid (HBwt_68_p148.out.grown Gt_72_p149.out hst_72_p149 (fun q hq => (Pt_68_p148.out.lt q hq).1))
                               have Dt_72_out_4l0_p149 : Hid (Apart At_72_p149 _) := Lib.hid (apart_app Dt_68_out_4l0_p148.out (fun a_ ha_ => (own_lt Oout_4l0_p144_p146_p147_p148.out a_ ha_).2) Yt_72_p149.out)
                               have ct_52_0__145_p146_p147_p148_p149 := cell_other ct_52_0__145_p146_p147_p148 Gt_72_p149.out Dt_68_out_4l0_p148.out
                               have Oout_4l0_p144_p146_p147_p148_p149 := Lib.hid (own_other Oout_4l0_p144_p146_p147_p148.out Gt_72_p149.out Dt_68_out_4l0_p148.out)))
                      · skip
                        replace H := app_hid H
                        go_wp2_with fail
                        go_roundg m0
                        case measure => omega
                        case rel => exact ⟨k0 + 1, _, _, _, by omega, by go_num, rfl, H, HBwt_72_p137, Pt_72_p137⟩
                      · skip
                        replace H := app_hid H
                        go_wp2_with fail
                        go_roundg m0
                        case measure => omega
                        case rel => exact ⟨k0 + 1, _, _, _, by omega, by go_num, rfl, H, HBwt_72_p142, Pt_72_p142⟩
                      · skip
                        replace H := app_hid H
                        go_wp2_with fail
                        go_roundg m0
                        case measure => omega
                        case rel => exact ⟨k0 + 1, _, _, _, by omega, by go_num, rfl, H, HBwt_72_p149, Pt_72_p149⟩
                    | true =>
                      replace H := let_hid H
                      obtain ⟨t_60, ht_60, H⟩ := H
                      obtain rfl : t_60 = false := ht_60.symm
                      replace H := ite_f H
                      replace H := app_hid H
                      go_wp2_with fail
                      go_roundg m0
                      case measure => omega
                      case rel => exact ⟨k0 + 1, _, _, _, by omega, by go_num, rfl, H, HBwr2, Oout_4l0⟩
                  | true =>
                    replace H := ite_t H
                    replace H := let_hid H
                    obtain ⟨t_57, ht_57, H⟩ := H
                    obtain rfl := ht_51.symm.trans ht_57
                    replace H := app_hid H
                    go_wp2_with fail
                    go_roundg m2
                    case measure => omega
                    case rel => exact ⟨_, rfl, H, HBwr2, Oout_4l0⟩
          | succ m1 =>
            have hlt1 : k1 < out_4l0.length := by omega
            have hc1 : decide ((k1 : Int) < ((out_4l0.length : Nat) : Int)) = true := by simp; omega
            replace H := cnt_succ H
            unfold l1 at H
            replace H := let_hid H
            obtain ⟨_, rfl, H⟩ := H
            replace H := join_hid H
            cases known_8l1 with
            | false =>
              replace H := ite_f H
              replace H := idx_hid H
              obtain ⟨nt_36, yt_36, et_36, lt_36, gt_36, H⟩ := H
              obtain rfl : k1 = nt_36 := by omega
              clear et_36
              obtain ⟨qt_36, Qt_36⟩ := own_some Oout_4l0.out (by omega)
              subst Qt_36
              obtain ⟨ab_t_36, ao_t_36, zt_36, At_36, z_t_36, ct_36_0⟩ := strs_at (own_cells Oout_4l0.out) (k := k1) (by omega)
              obtain rfl := Option.some.inj (gt_36.out.symm.trans z_t_36)
              simp only [Option.some.injEq, Addr.mk.injEq] at At_36
              obtain ⟨rfl, rfl, _⟩ := At_36
              clear z_t_36
              simp only [Nat.zero_add] at ct_36_0
              have b0t_36 : (0 : Int) ≤ (k1 : Int) := by omega
              have b1t_36 : (k1 : Int) < ((out_4l0.length : Nat) : Int) := by omega
              have b2t_36 : ((k1 : Int)).toNat = k1 := by omega
              replace H := let_hid H
              obtain ⟨t_39, ht_39, H⟩ := H
              replace H := app_hid H
              replace H := app_hid H
              go_wp2_with fail
              go_roundg m1
              case measure => omega
              case rel => exact ⟨k1 + 1, _, by omega, by go_num, rfl, H, HBwr1, Oout_4l0⟩
            | true =>
              replace H := ite_t H
              replace H := app_hid H
              replace H := app_hid H
              go_wp2_with fail
              go_roundg m1
              case measure => omega
              case rel => exact ⟨k1 + 1, _, by omega, by go_num, rfl, H, HBwr1, Oout_4l0⟩
end Go.Proofs.Ytbnpdaipgamgkaa.GsMarkNames

/- loop.example/g01062/impl.within as a plain function, and the contract of the program's: where the plain one has an answer, the program has it. Conditions: slices read as lists. -/
namespace Go.Proofs.Ytbnpdaipgamgkaa.GiWithin
set_option linter.unusedVariables false
set_option linter.unusedSimpArgs false
open Go.RowKit
open Go.Proofs.Ytbnpdaipgamgkaa.Rowed Go.Proofs.Ytbnpdaipgamgkaa.Turn Go.Proofs.Ytbnpdaipgamgkaa.Aid Go.Proofs.Ytbnpdaipgamgkaa.GoP Go.Proofs.Ytbnpdaipgamgkaa.GoM

def P (n_0 : Int) (low : Int) (high : Int) : Option (Bool) :=
  letK (decide (low ≤ n_0)) fun (t_3 : Bool) =>
  joinK (fun (t_8 : Bool) =>
  some t_8) fun jt_8 => iteK t_3 (letK (decide (n_0 ≤ high)) fun (t_7 : Bool) =>
  appK jt_8 t_7) (appK jt_8 false)

set_option maxRecDepth 100000 in
set_option maxHeartbeats 2000000 in
theorem C (n_0 : Int) (low : Int) (high : Int)   (w : World)   {r : Bool} (H : Hid (P n_0 low high = some r)) :
    Calls Try.prog 29 #[.int .i64 n_0, .int .i64 low, .int .i64 high] w (Gives (.bool r) w) := by
  have HB := Lib.hid (Below.refl w.heap.size w)
  unfold P at H
  go_enter Try.func29, Try.ntmps29
  replace H := let_hid H
  obtain ⟨t_3, ht_3, H⟩ := H
  replace H := join_hid H
  cases t_3 with
  | false =>
    replace H := ite_f H
    replace H := app_hid H
    obtain rfl := ret_hid H
    go_wp2_with fail
    go_ret
    exact ⟨rfl, HB.out⟩
  | true =>
    replace H := ite_t H
    replace H := let_hid H
    obtain ⟨t_7, ht_7, H⟩ := H
    replace H := app_hid H
    obtain rfl := ret_hid H
    go_wp2_with fail
    go_ret
    exact ⟨rfl, HB.out⟩

set_option maxRecDepth 100000 in
set_option maxHeartbeats 2000000 in
theorem C0 (n_0 : Int) (low : Int) (high : Int)   (w : World)   {r : Bool} (H : Hid (P n_0 low high = some r)) :
    Calls Try.prog 29 #[.int .i64 n_0, .int .i64 low, .int .i64 high] w (fun e w'' => e = .returned (.bool r) ∧ w'' = w) := by
  have HB := Lib.hid (Below.refl w.heap.size w)
  unfold P at H
  go_enter Try.func29, Try.ntmps29
  replace H := let_hid H
  obtain ⟨t_3, ht_3, H⟩ := H
  replace H := join_hid H
  cases t_3 with
  | false =>
    replace H := ite_f H
    replace H := app_hid H
    obtain rfl := ret_hid H
    go_wp2_with fail
    go_ret
    exact ⟨rfl, rfl⟩
  | true =>
    replace H := ite_t H
    replace H := let_hid H
    obtain ⟨t_7, ht_7, H⟩ := H
    replace H := app_hid H
    obtain rfl := ret_hid H
    go_wp2_with fail
    go_ret
    exact ⟨rfl, rfl⟩
end Go.Proofs.Ytbnpdaipgamgkaa.GiWithin

/- loop.example/g01062/impl.isLetter as a plain function, and the contract of the program's: where the plain one has an answer, the program has it. Conditions: slices read as lists. -/
namespace Go.Proofs.Ytbnpdaipgamgkaa.GiIsLetter
set_option linter.unusedVariables false
set_option linter.unusedSimpArgs false
open Go.RowKit
open Go.Proofs.Ytbnpdaipgamgkaa.Rowed Go.Proofs.Ytbnpdaipgamgkaa.Turn Go.Proofs.Ytbnpdaipgamgkaa.Aid Go.Proofs.Ytbnpdaipgamgkaa.GoP Go.Proofs.Ytbnpdaipgamgkaa.GoM

def P (c : Int) : Option (Bool) :=
  letK (decide (97 ≤ c)) fun (t_2 : Bool) =>
  joinK (fun (t_6 : Bool) =>
  some t_6) fun jt_6 => iteK t_2 (letK (decide (c ≤ 122)) fun (t_5 : Bool) =>
  appK jt_6 t_5) (appK jt_6 false)

set_option maxRecDepth 100000 in
set_option maxHeartbeats 2000000 in
theorem C (c : Int)   (w : World)   {r : Bool} (H : Hid (P c = some r)) :
    Calls Try.prog 49 #[.int .u8 c] w (Gives (.bool r) w) := by
  have HB := Lib.hid (Below.refl w.heap.size w)
  unfold P at H
  go_enter Try.func49, Try.ntmps49
  replace H := let_hid H
  obtain ⟨t_2, ht_2, H⟩ := H
  replace H := join_hid H
  cases t_2 with
  | false =>
    replace H := ite_f H
    replace H := app_hid H
    obtain rfl := ret_hid H
    go_wp2_with fail
    go_ret
    exact ⟨rfl, HB.out⟩
  | true =>
    replace H := ite_t H
    replace H := let_hid H
    obtain ⟨t_5, ht_5, H⟩ := H
    replace H := app_hid H
    obtain rfl := ret_hid H
    go_wp2_with fail
    go_ret
    exact ⟨rfl, HB.out⟩

set_option maxRecDepth 100000 in
set_option maxHeartbeats 2000000 in
theorem C0 (c : Int)   (w : World)   {r : Bool} (H : Hid (P c = some r)) :
    Calls Try.prog 49 #[.int .u8 c] w (fun e w'' => e = .returned (.bool r) ∧ w'' = w) := by
  have HB := Lib.hid (Below.refl w.heap.size w)
  unfold P at H
  go_enter Try.func49, Try.ntmps49
  replace H := let_hid H
  obtain ⟨t_2, ht_2, H⟩ := H
  replace H := join_hid H
  cases t_2 with
  | false =>
    replace H := ite_f H
    replace H := app_hid H
    obtain rfl := ret_hid H
    go_wp2_with fail
    go_ret
    exact ⟨rfl, rfl⟩
  | true =>
    replace H := ite_t H
    replace H := let_hid H
    obtain ⟨t_5, ht_5, H⟩ := H
    replace H := app_hid H
    obtain rfl := ret_hid H
    go_wp2_with fail
    go_ret
    exact ⟨rfl, rfl⟩
end Go.Proofs.Ytbnpdaipgamgkaa.GiIsLetter

