/- Texts on which the proofs of several laws stand, one behind the other (1 of 9). No condition of their own. -/
import Derived.Lib.Hide
import Derived.Below
import Derived.Laws.OwnMore
import Derived.Laws.World
import Derived.Deep.Draws
import Derived.Lib.QuietBelow
import Derived.Lib.Strings
import Derived.OwnWalk
import Derived.Laws.Strings3
import Derived.Laws.AppendOwnNone
import Derived.Laws.DeepStrings4
import Derived.Laws.Slices
import Derived.Deep.Slices
import Derived.Laws.MakeOwn
import Derived.Maps.AppendAt
import Derived.Lib.LaidU8
import Derived.WalkKit
import Derived.WalkSpells
import Derived.Test.YtaepibmmpdfjcaaChecked
import Derived.BigQuiet
import Derived.Deep.QuietTactic
import Derived.Laws.AppendOwn
import Derived.IntWalk
import Derived.Laws.Bits64
import Derived.Outline
import Derived.Deep.RegionHeld3
import Derived.Laws.EntriesVeiled
import Derived.Lib.SmallJoins
import Derived.Deep.Fields
import Derived.ChangeSame
import Derived.WalkLawsBesides
import Derived.Deep.LoopGhost
/- Words in which a Go function is written as a plain function that either has an answer or has none (a panic, or a loop that does not end in time); and how such a sentence is taken apart. No condition. -/
namespace Go.Proofs.Ytaepibmmpdfjcaa.GoP
set_option linter.unusedVariables false
open Go.RowKit

def idx {α : Type} (l : List α) (i : Int) : Option α := if 0 ≤ i then l[i.toNat]? else none
def letK {α ρ : Type} (x : α) (f : α → Option ρ) : Option ρ := f x
def iteK {ρ : Type} (c : Bool) (a b : Option ρ) : Option ρ := match c with | true => a | false => b
def joinK {γ : Type} {ρ : Type} (rest : γ) (f : γ → Option ρ) : Option ρ := f rest
def appK {α ρ : Type} (j : α → Option ρ) (x : α) : Option ρ := j x
def guardK {ρ : Type} (p : Prop) [Decidable p] (a : Option ρ) : Option ρ := if p then a else none
def bind2 {α β ρ : Type} (x : Option (α × β)) (f : α → β → Option ρ) : Option ρ := match x with | none => none | some (a, b) => f a b
def bind3 {α β γ ρ : Type} (x : Option (α × β × γ)) (f : α → β → γ → Option ρ) : Option ρ := match x with | none => none | some (a, b, c) => f a b c
def bind4 {α β γ δ ρ : Type} (x : Option (α × β × γ × δ)) (f : α → β → γ → δ → Option ρ) : Option ρ := match x with | none => none | some (a, b, c, d) => f a b c d
def unp2 {α β ρ : Type} (s : α × β) (f : α → β → Option ρ) : Option ρ := f s.1 s.2
def unp3 {α β γ ρ : Type} (s : α × β × γ) (f : α → β → γ → Option ρ) : Option ρ := f s.1 s.2.1 s.2.2
def unp4 {α β γ δ ρ : Type} (s : α × β × γ × δ) (f : α → β → γ → δ → Option ρ) : Option ρ := f s.1 s.2.1 s.2.2.1 s.2.2.2
/-- m rounds, counted from k on -/
def cntK {σ ρ : Type} (f : Nat → σ → (σ → Option ρ) → (σ → Option ρ) → Option ρ) : Nat → Nat → σ → (σ → Option ρ) → Option ρ
  | 0, _, s, fin => fin s
  | m + 1, k, s, fin => f k s (fun s' => cntK f m (k + 1) s' fin) fin
/-- rounds until one ends the loop, n at most -/
def loopK {σ ρ : Type} (f : σ → (σ → Option ρ) → (σ → Option ρ) → Option ρ) : Nat → σ → (σ → Option ρ) → Option ρ
  | 0, _, _ => none
  | n + 1, s, fin => f s (fun s' => loopK f n s' fin) fin

theorem let_hid {α ρ : Type} {x : α} {f : α → Option ρ} {r : ρ} (H : Hid (letK x f = some r)) : ∃ y, x = y ∧ Hid (f y = some r) := ⟨x, rfl, H⟩
theorem bind_hid {α ρ : Type} {x : Option α} {f : α → Option ρ} {r : ρ} (H : Hid (x.bind f = some r)) : ∃ y, Hid (x = some y) ∧ Hid (f y = some r) := by
  have h : x.bind f = some r := H
  cases x with
  | none => simp at h
  | some y => exact ⟨y, rfl, h⟩
theorem bind2_hid {α β ρ : Type} {x : Option (α × β)} {f : α → β → Option ρ} {r : ρ} (H : Hid (bind2 x f = some r)) : ∃ a b, Hid (x = some (a, b)) ∧ Hid (f a b = some r) := by
  have h : bind2 x f = some r := H
  cases x with
  | none => simp [bind2] at h
  | some y => exact ⟨y.1, y.2, rfl, h⟩
theorem bind4_hid {α β γ δ ρ : Type} {x : Option (α × β × γ × δ)} {f : α → β → γ → δ → Option ρ} {r : ρ} (H : Hid (bind4 x f = some r)) : ∃ a b c d, Hid (x = some (a, b, c, d)) ∧ Hid (f a b c d = some r) := by
  have h : bind4 x f = some r := H
  cases x with
  | none => simp [bind4] at h
  | some y => exact ⟨y.1, y.2.1, y.2.2.1, y.2.2.2, rfl, h⟩
theorem ite_t {ρ : Type} {a b : Option ρ} {r : ρ} (H : Hid (iteK true a b = some r)) : Hid (a = some r) := H
theorem ite_f {ρ : Type} {a b : Option ρ} {r : ρ} (H : Hid (iteK false a b = some r)) : Hid (b = some r) := H
theorem join_hid {γ ρ : Type} {j : γ} {f : γ → Option ρ} {r : ρ} (H : Hid (joinK j f = some r)) : Hid (f j = some r) := H
theorem app_hid {α ρ : Type} {j : α → Option ρ} {x : α} {r : ρ} (H : Hid (appK j x = some r)) : Hid (j x = some r) := H
theorem guard_hid {ρ : Type} {p : Prop} [Decidable p] {a : Option ρ} {r : ρ} (H : Hid (guardK p a = some r)) : p ∧ Hid (a = some r) := by
  have h : guardK p a = some r := H
  unfold guardK at h
  by_cases hp : p
  · rw [if_pos hp] at h; exact ⟨hp, h⟩
  · rw [if_neg hp] at h; simp at h
theorem unp2_hid {α β ρ : Type} {a : α} {b : β} {f : α → β → Option ρ} {r : ρ} (H : Hid (unp2 (a, b) f = some r)) : Hid (f a b = some r) := H
theorem unp3_hid {α β γ ρ : Type} {a : α} {b : β} {c : γ} {f : α → β → γ → Option ρ} {r : ρ} (H : Hid (unp3 (a, b, c) f = some r)) : Hid (f a b c = some r) := H
theorem cnt_zero {σ ρ : Type} {f : Nat → σ → (σ → Option ρ) → (σ → Option ρ) → Option ρ} {k : Nat} {s : σ} {fin : σ → Option ρ} {r : ρ} (H : Hid (cntK f 0 k s fin = some r)) : Hid (fin s = some r) := H
theorem cnt_succ {σ ρ : Type} {f : Nat → σ → (σ → Option ρ) → (σ → Option ρ) → Option ρ} {m k : Nat} {s : σ} {fin : σ → Option ρ} {r : ρ} (H : Hid (cntK f (m + 1) k s fin = some r)) :
    Hid (f k s (fun s' => cntK f m (k + 1) s' fin) fin = some r) := H
theorem loop_zero {σ ρ : Type} {f : σ → (σ → Option ρ) → (σ → Option ρ) → Option ρ} {s : σ} {fin : σ → Option ρ} {r : ρ} (H : Hid (loopK f 0 s fin = some r)) : False := by
  have h : loopK f 0 s fin = some r := H
  simp [loopK] at h
theorem loop_succ {σ ρ : Type} {f : σ → (σ → Option ρ) → (σ → Option ρ) → Option ρ} {n : Nat} {s : σ} {fin : σ → Option ρ} {r : ρ} (H : Hid (loopK f (n + 1) s fin = some r)) :
    Hid (f s (fun s' => loopK f n s' fin) fin = some r) := H
theorem ret_hid {ρ : Type} {v r : ρ} (H : Hid (some v = some r)) : v = r := Option.some.inj H
theorem idx_hid {α ρ : Type} {l : List α} {i : Int} {f : α → Option ρ} {r : ρ} (H : Hid ((idx l i).bind f = some r)) :
    ∃ (k : Nat) (x : α), i = (k : Int) ∧ k < l.length ∧ Hid (l[k]? = some x) ∧ Hid (f x = some r) := by
  have h : (idx l i).bind f = some r := H
  unfold idx at h
  by_cases hi : 0 ≤ i
  · rw [if_pos hi] at h
    cases hx : l[i.toNat]? with
    | none => rw [hx] at h; simp at h
    | some x =>
      rw [hx] at h
      exact ⟨i.toNat, x, (Int.toNat_of_nonneg hi).symm, (List.getElem?_eq_some_iff.1 hx).1, hx, h⟩
  · rw [if_neg hi] at h; simp at h
theorem idx_nat {α : Type} (l : List α) (k : Nat) : idx l (k : Int) = l[k]? := by unfold idx; rw [if_pos (by omega)]; simp
end Go.Proofs.Ytaepibmmpdfjcaa.GoP

/- Words for a slice that reads as a list of values, nil and empty let in; for slices of strings; and what becomes of them in later worlds. No condition. -/
namespace Go.Proofs.Ytaepibmmpdfjcaa.Rowed
set_option linter.unusedVariables false
open Go.RowKit

theorem add_block (a : Addr) (n : Nat) : (a.add n).block = a.block := by unfold Addr.add; split <;> rfl
theorem cell_lt {w : World} {a : Addr} {v : Value} (h : w.cell? a = some v) : a.block < w.heap.size := World.block_lt_of_cell? w a h
theorem cell_below {w w' : World} (hb : Below w.heap.size w w') {a : Addr} {v : Value} (hc : w.cell? a = some v) : w'.cell? a = some v := (hb.cell (cell_lt hc)).trans hc
theorem below_drewN (w : World) (m : Nat) : Below w.heap.size w (w.drewN m) := ⟨rfl, rfl, rfl, Nat.le_refl _, fun _ _ => rfl⟩
theorem Below.step {a b c : World} (h : Below a.heap.size a b) (k : Below b.heap.size b c) : Below a.heap.size a c := h.trans (k.mono h.size)

/-- the world has drawn, and nothing else has turned -/
def DrawnTo (w w' : World) : Prop := ∃ m, w' = w.drewN m
theorem DrawnTo.refl (w : World) : DrawnTo w w := ⟨0, rfl⟩
theorem DrawnTo.more {w w' : World} (h : DrawnTo w w') (n : Nat) : DrawnTo w (w'.drewN n) := let ⟨m, e⟩ := h; ⟨m + n, by rw [e, World.drewN_drewN]⟩
theorem DrawnTo.trans {a b c : World} (h : DrawnTo a b) (k : DrawnTo b c) : DrawnTo a c := by
  obtain ⟨m, rfl⟩ := h
  obtain ⟨n, rfl⟩ := k
  exact ⟨m + n, World.drewN_drewN ..⟩
theorem DrawnTo.cell {w w' : World} (h : DrawnTo w w') {a : Addr} {v : Value} (hc : w.cell? a = some v) : w'.cell? a = some v := by
  obtain ⟨m, rfl⟩ := h; exact hc
theorem DrawnTo.below {w w' : World} (h : DrawnTo w w') : Below w.heap.size w w' := by
  obtain ⟨m, rfl⟩ := h; exact below_drewN w m

/-- the slice 'A, n' reads as the cells xs (size cells each element) -/
def Cells (w : World) (size : Nat) (A : Option Addr) (n : Nat) (xs : List Value) : Prop :=
  xs.length = n * size ∧ (0 < xs.length → ∃ ad : Addr, A = some ad ∧ ∀ j u, xs[j]? = some u → w.cell? (ad.add j) = some u)

theorem Cells.below {w w' : World} {size n : Nat} {A : Option Addr} {xs : List Value} (h : Cells w size A n xs) (hb : Below w.heap.size w w') : Cells w' size A n xs :=
  ⟨h.1, fun hn => let ⟨ad, e, hc⟩ := h.2 hn; ⟨ad, e, fun j u hu => cell_below hb (hc j u hu)⟩⟩
theorem Cells.drewN {w : World} {size n : Nat} {A : Option Addr} {xs : List Value} (h : Cells w size A n xs) (m : Nat) : Cells (w.drewN m) size A n xs := h
theorem Cells.nil_ (w : World) (size : Nat) (A : Option Addr) : Cells w size A 0 [] := ⟨by simp, fun h => by simp at h⟩
theorem Cells.at_ {w : World} {n k : Nat} {A : Option Addr} {xs : List Value} (h : Cells w 1 A n xs) (hk : k < n) : ∃ ad u, A = some ad ∧ xs[k]? = some u ∧ w.cell? (ad.add k) = some u := by
  have hl : k < xs.length := by have := h.1; omega
  obtain ⟨ad, e, hc⟩ := h.2 (by omega)
  exact ⟨ad, xs[k], e, List.getElem?_eq_getElem hl, hc k _ (List.getElem?_eq_getElem hl)⟩
theorem Cells.of_own {w : World} {base size n c g : Nat} {e : TypeId} {xs : List Value} (h : w.ownsRow base e size (.slice (some ⟨g, 0, none⟩) n c) n xs) : Cells w size (some ⟨g, 0, none⟩) n xs :=
  ⟨h.1, fun _ => ⟨_, rfl, fun j u hu => h.cells (g := g) rfl j u hu⟩⟩

/-- a row that is filled from the left -/
def fill (a ys : List Value) (k : Nat) : List Value := a.take k ++ ys.drop k
/-- the slice 'A, n' reads as the strings l -/
def Strs (w : World) (A : Option Addr) (n : Nat) (l : List ByteArray) : Prop := Cells w 1 A n (l.map Value.string)
theorem Strs.len {w : World} {A : Option Addr} {n : Nat} {l : List ByteArray} (h : Strs w A n l) : l.length = n := by have := h.1; simpa using this
theorem Strs.below {w w' : World} {A : Option Addr} {n : Nat} {l : List ByteArray} (h : Strs w A n l) (hb : Below w.heap.size w w') : Strs w' A n l := Cells.below h hb
theorem Strs.at_ {w : World} {A : Option Addr} {n k : Nat} {l : List ByteArray} (h : Strs w A n l) (hk : k < n) : ∃ ad x, A = some ad ∧ l[k]? = some x ∧ w.cell? (ad.add k) = some (.string x) := by
  obtain ⟨ad, u, e, hx, hc⟩ := Cells.at_ h hk
  rw [List.getElem?_map] at hx
  cases hl : l[k]? with
  | none => rw [hl] at hx; simp at hx
  | some x => rw [hl] at hx; obtain rfl : Value.string x = u := by simpa using hx
              exact ⟨ad, x, e, rfl, hc⟩

end Go.Proofs.Ytaepibmmpdfjcaa.Rowed

/- Words on what may turn between two worlds: only the blocks of one span; and on rows that lie in a span of blocks, read or owned. No condition. -/
namespace Go.Proofs.Ytaepibmmpdfjcaa.Turn
set_option linter.unusedVariables false
open Go.RowKit
open Go.Proofs.Ytaepibmmpdfjcaa.Rowed

/-- of what was there, only blocks from lo on and below hi may have turned -/
structure Turned (lo hi : Nat) (w w' : World) : Prop where
  os : w'.os = w.os
  tape : w'.tape = w.tape
  output : w'.output = w.output
  size : w.heap.size ≤ w'.heap.size
  block : ∀ k, k < w.heap.size → ¬ (lo ≤ k ∧ k < hi) → w'.heap[k]? = w.heap[k]?
/-- the slice 'A, n' reads as the cells xs, and they lie in blocks from lo on and below hi -/
structure Rd (w : World) (size lo hi : Nat) (A : Option Addr) (n : Nat) (xs : List Value) : Prop where
  cells : Cells w size A n xs
  span : ∀ ad, A = some ad → 0 < xs.length → lo ≤ ad.block ∧ ad.block < hi
  top : hi ≤ w.heap.size
theorem Rd.below {w w' : World} {size lo hi n : Nat} {A : Option Addr} {xs : List Value} (h : Rd w size lo hi A n xs) (hb : Below w.heap.size w w') : Rd w' size lo hi A n xs :=
  ⟨h.cells.below hb, h.span, Nat.le_trans h.top hb.size⟩
theorem Rd.turned {w w' : World} {size lo hi a b n : Nat} {A : Option Addr} {xs : List Value} (h : Rd w size lo hi A n xs) (t : Turned a b w w') (hd : hi ≤ a ∨ b ≤ lo) : Rd w' size lo hi A n xs :=
  ⟨⟨h.cells.1, fun hn => by
    obtain ⟨ad, e, hc⟩ := h.cells.2 hn
    have hs := h.span ad e hn
    have ht := h.top
    exact ⟨ad, e, fun j u hu => (World.cell?_of_block (by rw [add_block]; exact t.block _ (by omega) (by omega))).trans (hc j u hu)⟩⟩, h.span, Nat.le_trans h.top t.size⟩
/-- cells that came in -/
theorem Rd.came {w : World} {size n : Nat} {A : Option Addr} {xs : List Value} (h : Cells w size A n xs) : Rd w size 0 w.heap.size A n xs :=
  ⟨h, fun ad e hn => by
    obtain ⟨ad', e', hc⟩ := h.2 hn
    obtain rfl : ad = ad' := by rw [e] at e'; exact Option.some.inj e'
    have h0 := cell_lt (hc 0 _ (List.getElem?_eq_getElem hn))
    rw [add_block] at h0
    exact ⟨Nat.zero_le _, h0⟩, Nat.le_refl _⟩

/-- the slice 'A, n, c' is a row of the call's own with the cells xs, in a block from lo on and below hi -/
structure Ow (w : World) (T : TypeId) (size lo hi : Nat) (A : Option Addr) (n c : Nat) (xs : List Value) : Prop where
  own : w.ownsRow lo T size (.slice A n c) n xs
  span : ∀ q, (Value.slice A n c).ownBlock = some q → q < hi
  top : hi ≤ w.heap.size
theorem Ow.of {w : World} {T : TypeId} {size lo n c : Nat} {A : Option Addr} {xs : List Value} (h : w.ownsRow lo T size (.slice A n c) n xs) : Ow w T size lo w.heap.size A n c xs :=
  ⟨h, fun q hq => (h.lt q hq).2, Nat.le_refl _⟩
theorem Ow.kept {w w' : World} {T : TypeId} {size lo hi a b n c : Nat} {A : Option Addr} {xs : List Value} (h : Ow w T size lo hi A n c xs) (t : Turned a b w w') (hd : hi ≤ a ∨ b ≤ lo) : w'.ownsRow lo T size (.slice A n c) n xs := by
  refine ⟨h.own.1, ?_⟩
  rcases h.own.2 with h0 | ⟨g, cap, cur, hv, hb, hh, rest⟩
  · exact .inl h0
  · have hg : g < hi := h.span g (by rw [hv]; rfl)
    have ht := h.top
    exact .inr ⟨g, cap, cur, hv, hb, (t.block g (by omega) (by omega)).trans hh, rest⟩
theorem Ow.turned {w w' : World} {T : TypeId} {size lo hi a b n c : Nat} {A : Option Addr} {xs : List Value} (h : Ow w T size lo hi A n c xs) (t : Turned a b w w') (hd : hi ≤ a ∨ b ≤ lo) : Ow w' T size lo hi A n c xs :=
  ⟨h.kept t hd, h.span, Nat.le_trans h.top t.size⟩
theorem Turned.of_below {w w' : World} (h : Below w.heap.size w w') : Turned 0 0 w w' := ⟨h.os, h.tape, h.output, h.size, fun k hk _ => h.block k hk⟩
theorem Ow.below {w w' : World} {T : TypeId} {size lo hi n c : Nat} {A : Option Addr} {xs : List Value} (h : Ow w T size lo hi A n c xs) (hb : Below w.heap.size w w') : Ow w' T size lo hi A n c xs :=
  h.turned (Turned.of_below hb) (.inr (Nat.zero_le _))
theorem own_cells {w : World} {base n c size : Nat} {A : Option Addr} {e : TypeId} {xs : List Value} (h : w.ownsRow base e size (.slice A n c) n xs) : Cells w size A n xs := by
  rcases h.2 with ⟨hv, h0⟩ | ⟨g, cap, cur, hv, _⟩
  · subst h0
    have := h.1
    exact ⟨this, fun hn => by rw [Nat.zero_mul] at this; omega⟩
  · injection hv with e1 e2 e3
    subst e1
    exact Cells.of_own h
theorem Ow.cells {w : World} {T : TypeId} {size lo hi n c : Nat} {A : Option Addr} {xs : List Value} (h : Ow w T size lo hi A n c xs) : Cells w size A n xs := own_cells h.own
theorem Ow.written {w w' : World} {T : TypeId} {size lo hi n c : Nat} {A : Option Addr} {xs ys : List Value} (h : Ow w T size lo hi A n c xs) (hs : w.heap.size ≤ w'.heap.size) (ho : w'.ownsRow lo T size (.slice A n c) n ys) : Ow w' T size lo hi A n c ys :=
  ⟨ho, h.span, Nat.le_trans h.top hs⟩

/-- the answer has no memory, and nothing has turned -/
def Gives (v : Value) (w : World) (e : Ending) (w' : World) : Prop := e = .returned v ∧ Below w.heap.size w w'
end Go.Proofs.Ytaepibmmpdfjcaa.Turn

/- Small words on types' facts, on classes of worlds, and on rows that are written. No condition. -/
namespace Go.Proofs.Ytaepibmmpdfjcaa.Aid
set_option linter.unusedVariables false
open Go.RowKit
open Go.Proofs.Ytaepibmmpdfjcaa.Rowed Go.Proofs.Ytaepibmmpdfjcaa.Turn

theorem info_parts {P : Program} {T : TypeId} {z : Value} {s b : Nat} (h : (P.info? T).map (fun i => (i.zero, i.size, i.bytes)) = some (some z, s, b)) : ∃ i, P.info? T = some i ∧ i.zero = some z ∧ i.size = s ∧ i.bytes = b := by
  cases hi : P.info? T with
  | none => rw [hi] at h; simp at h
  | some i => rw [hi] at h; simp at h; exact ⟨i, rfl, h.1, h.2.1, h.2.2⟩
theorem below_class {X Y : World} (h : ∃ p : Regrown, Y = Go.Sort.grow (redrawn X p.d) p.os) : Below X.heap.size X Y := by
  obtain ⟨⟨d, os⟩, rfl⟩ := h; exact below_regrown _ _ _
theorem grown_of {W W' : World} (h : Below W.heap.size W W') : W.grownBy W' none := ⟨h.os, h.tape, h.output, h.size, fun k hk _ => h.block k hk⟩
theorem grown_tr {a b c : World} {r : Option Nat} (h : a.grownBy b r) (k : b.grownBy c r) : a.grownBy c r :=
  ⟨k.os.trans h.os, k.tape.trans h.tape, k.output.trans h.output, Nat.le_trans h.size k.size, fun i hi hr => (k.block i (Nat.lt_of_lt_of_le hi h.size) hr).trans (h.block i hi hr)⟩
theorem grown_refl (w : World) (r : Option Nat) : w.grownBy w r := ⟨rfl, rfl, rfl, Nat.le_refl _, fun _ _ _ => rfl⟩
end Go.Proofs.Ytaepibmmpdfjcaa.Aid

/- Words on memory for the contracts of plain functions. No condition. -/
namespace Go.Proofs.Ytaepibmmpdfjcaa.GoM
set_option linter.unusedVariables false
open Go.RowKit
open Go.Proofs.Ytaepibmmpdfjcaa.Rowed Go.Proofs.Ytaepibmmpdfjcaa.Turn

theorem box_new (w : World) (cs : List Value) (T : TypeId) (j : Nat) (u : Value) (h : cs[j]? = some u) : (w.alloc (.cells ⟨cs⟩ T)).cell? ⟨w.heap.size, j, none⟩ = some u := by
  have hb : (w.alloc (.cells ⟨cs⟩ T)).heap[w.heap.size]? = some (.cells ⟨cs⟩ T) := heap_alloc_new w _
  unfold World.cell?
  rw [hb]
  simpa using h
theorem size_list (s : ByteArray) : s.toList.length = s.size := by rw [Lib.toList_data]; rfl
theorem byte_rule {s : ByteArray} {n : Nat} {y : UInt8} (l : n < s.toList.length) (g : s.toList[n]? = some y) : ∀ h : n < s.size, s[n]'h = y := by
  intro h
  have e := List.getElem?_eq_getElem l
  rw [g] at e
  have := Option.some.inj e
  rw [this]
  simp [Lib.toList_data]
  rfl
theorem own_empty {w wc : World} {T K : Nat} (h : w.heap.size ≤ wc.heap.size) : (wc.alloc (.cells #[] T)).ownsRow w.heap.size T K (.slice (some ⟨wc.heap.size, 0, none⟩) 0 0) 0 [] :=
  ⟨by simp, .inr ⟨wc.heap.size, 0, #[], rfl, h, heap_alloc_new wc _, Nat.le_refl _, by unfold maxLen; omega, by simp, by simp⟩⟩
theorem own_laid {w wc : World} {T K n : Nat} {cs : List Value} {xs : List Value} (h : w.heap.size ≤ wc.heap.size) (hx : cs = xs) (hl : cs.length = n * K) (hn : n ≤ maxLen) : (wc.alloc (.cells ⟨cs⟩ T)).ownsRow w.heap.size T K (.slice (some ⟨wc.heap.size, 0, none⟩) n n) n xs := by
  subst hx
  exact ⟨hl, .inr ⟨wc.heap.size, n, ⟨cs⟩, rfl, h, heap_alloc_new wc _, Nat.le_refl _, hn, by simpa using hl, by rw [← hl]; simp⟩⟩
theorem add_flat (b o n : Nat) : (⟨b, o, none⟩ : Addr).add n = ⟨b, o + n, none⟩ := by
  unfold Addr.add; split
  · rename_i h; subst h; rfl
  · rfl
theorem strs_at {w : World} {A : Option Addr} {n k : Nat} {l : List ByteArray} (h : Cells w 1 A n (l.map Value.string)) (hk : k < n) : ∃ (b o : Nat) (x : ByteArray), A = some ⟨b, o, none⟩ ∧ l[k]? = some x ∧ w.cell? ⟨b, o + k, none⟩ = some (.string x) := by
  have hl : k < l.length := by have := h.1; rw [List.length_map] at this; omega
  obtain ⟨⟨b, o, sp⟩, e, hc⟩ := h.2 (by rw [List.length_map]; omega)
  have h0 := hc 0 (.string l[0]) (by rw [List.getElem?_map, List.getElem?_eq_getElem (show 0 < l.length by omega)]; rfl)
  obtain rfl : sp = none := cell_spot (b := b) (o := o) h0
  have hs := List.getElem?_eq_getElem hl
  have := hc k (.string l[k]) (by rw [List.getElem?_map, hs]; rfl)
  rw [add_flat] at this
  exact ⟨b, o, l[k], e, hs, this⟩
theorem own_nil {w : World} {b T K : Nat} : w.ownsRow b T K (.slice none 0 0) 0 [] := ⟨by simp, .inl ⟨rfl, rfl⟩⟩
theorem own_lower {w : World} {b base n size : Nat} {v : Value} {e : TypeId} {xs : List Value} (h : w.ownsRow base e size v n xs) (hb : b ≤ base) : w.ownsRow b e size v n xs :=
  ⟨h.1, by
    rcases h.2 with h0 | ⟨g, cap, cur, hv, hb', rest⟩
    · exact .inl h0
    · exact .inr ⟨g, cap, cur, hv, Nat.le_trans hb hb', rest⟩⟩
theorem own_below {w w' : World} {base n size : Nat} {v : Value} {e : TypeId} {xs : List Value} (h : w.ownsRow base e size v n xs) (hb : Below w.heap.size w w') : w'.ownsRow base e size v n xs :=
  h.kept (Aid.grown_of hb) (by cases v.ownBlock <;> simp)
theorem own_push {α : Type} {f : List α → List Value} {cx : List Value} {l t : List α} {x : α} {w' : World} {b T K : Nat} {v' : Value} {n : Nat} (ht : l ++ [x] = t) (hf : f (l ++ [x]) = f l ++ cx) (hn : l.length = n) (h : w'.ownsRow b T K v' (n + 1) (f l ++ cx)) :
    ∃ g cap, v' = .slice (some ⟨g, 0, none⟩) t.length cap ∧ w'.ownsRow b T K (.slice (some ⟨g, 0, none⟩) t.length cap) t.length (f t) := by
  subst ht
  subst hn
  have el : (l ++ [x]).length = l.length + 1 := by simp
  obtain ⟨g, cap, rfl⟩ : ∃ g cap, v' = .slice (some ⟨g, 0, none⟩) (l.length + 1) cap := by
    rcases h.2 with ⟨_, h⟩ | ⟨g3, cap3, _, h, _⟩
    · omega
    · exact ⟨g3, cap3, h⟩
  exact ⟨g, cap, by rw [el], by rw [el, hf]; exact h⟩
theorem news_new {w w2 : World} {cs : List Value} {T : TypeId} (h : w.alloc (.cells ⟨cs⟩ T) = w2) : ∀ j u, cs[j]? = some u → w2.cell? ((⟨w.heap.size, 0, none⟩ : Addr).add j) = some u := by
  intro j u hu
  subst h
  have : (⟨w.heap.size, 0, none⟩ : Addr).add j = ⟨w.heap.size, j, none⟩ := by
    unfold Addr.add; split
    · rename_i hj; subst hj; rfl
    · simp
  rw [this]
  exact box_new w cs T j u hu
theorem one_cells {l : List Value} (h : l.all (fun u => u.oneCell') = true) : ∀ u ∈ l, u.oneCell' = true := fun u hu => List.all_eq_true.1 h u hu
theorem cat_rule {P : Program} {a b c : ByteArray} (h : a ++ b = c) (hl : a.size + b.size ≤ maxLen) : ∀ W, (Op.stringOp .add a b).run P W = .ok (.string c) W := by
  intro W
  rw [run_string_add_sum]
  · subst h; rfl
  · unfold maxLen at hl; omega
theorem slice_both {P : Program} {t : TypeId} {s c : ByteArray} {k k' : IntKind} {i j : Int} (hu : P.underlying t = some .string) (h : s.extract i.toNat j.toNat = c) (hl : 0 ≤ i ∧ i ≤ j ∧ j ≤ (s.size : Int)) :
    ∀ W, (Instr.slice t (.string s) (some (.int k i)) (some (.int k' j)) none).run P W = .ok (.string c) W := by
  intro W
  rw [run_slice_string_if _ _ _ _ _ _ _ hu, if_pos ⟨by omega, hl.2.2⟩, if_pos ⟨hl.1, hl.2.1⟩, h]
/-- the walk stands here -/
def Stop (p : Prop) : Prop := p
theorem stop_in {p : Prop} (h : Stop p) : p := h
theorem stop_out {p : Prop} (h : p) : Stop p := h
/-- two rows lie in different blocks -/
def Apart (A B : Option Addr) : Prop := ∀ a b, A = some a → B = some b → a.block ≠ b.block
theorem Apart.symm {A B : Option Addr} (h : Apart A B) : Apart B A := fun a b ha hb e => h b a hb ha e.symm
theorem own_lt {w : World} {b T K n m c : Nat} {A : Option Addr} {xs : List Value} (h : w.ownsRow b T K (.slice A m c) n xs) (a : Addr) (ha : A = some a) : b ≤ a.block ∧ a.block < w.heap.size := by
  subst ha
  exact h.lt a.block rfl
theorem apart_fresh {w : World} {b T K n m c : Nat} {A : Option Addr} {xs : List Value} (h : w.ownsRow b T K (.slice A m c) n xs) : Apart (some ⟨w.heap.size, 0, none⟩) A := by
  intro a a' ha ha' e
  have := (own_lt h a' ha').2
  injection ha with ha
  subst ha
  simp at e
  omega
theorem apart_call {w w1 : World} {b T K n m c T' K' n' m' c' : Nat} {A B : Option Addr} {xs ys : List Value} (h1 : w1.ownsRow w.heap.size T K (.slice A m c) n xs) (h : w.ownsRow b T' K' (.slice B m' c') n' ys) : Apart A B := by
  intro a a' ha ha' e
  have := (own_lt h a' ha').2
  have := (own_lt h1 a ha).1
  omega
theorem apart_box {w : World} {g j : Nat} {v : Value} (h : w.cell? ⟨g, j, none⟩ = some v) : Apart (some ⟨w.heap.size, 0, none⟩) (some ⟨g, 0, none⟩) := by
  intro a a' ha ha' e
  have hl : g < w.heap.size := cell_lt h
  injection ha with ha
  injection ha' with ha'
  subst ha
  subst ha'
  simp at e
  omega
theorem apart_callbox {w w1 : World} {T K n m c g j : Nat} {A : Option Addr} {xs : List Value} {v : Value} (h1 : w1.ownsRow w.heap.size T K (.slice A m c) n xs) (h : w.cell? ⟨g, j, none⟩ = some v) : Apart A (some ⟨g, 0, none⟩) := by
  intro a a' ha ha' e
  have hl : g < w.heap.size := cell_lt h
  have := (own_lt h1 a ha).1
  injection ha' with ha'
  subst ha'
  simp at e
  omega
theorem apart_app {w : World} {n c n' c' : Nat} {A A' B : Option Addr} (hD : Apart A B) (hB : ∀ a, B = some a → a.block < w.heap.size) (h : (Value.slice A' n' c').ownBlock = (Value.slice A n c).ownBlock ∨ (Value.slice A' n' c').ownBlock = some w.heap.size) : Apart A' B := by
  intro a a' ha ha' e
  have hl := hB a' ha'
  subst ha
  rcases h with h | h
  · cases A with
    | none => simp [Value.ownBlock] at h
    | some x => simp only [Value.ownBlock, Option.some.injEq] at h; exact hD x a' rfl ha' (h ▸ e)
  · simp only [Value.ownBlock, Option.some.injEq] at h; omega
theorem own_other {w w' : World} {b T K n m c n' c' : Nat} {A B : Option Addr} {ys : List Value} (h : w.ownsRow b T K (.slice B m c) n ys) (hg : w.grownBy w' (Value.slice A n' c').ownBlock) (hD : Apart A B) : w'.ownsRow b T K (.slice B m c) n ys := by
  refine h.kept hg ?_
  cases B with
  | none => exact .inl rfl
  | some y =>
    refine .inr ?_
    cases A with
    | none => simp [Value.ownBlock]
    | some x => simp only [Value.ownBlock, ne_eq, Option.some.injEq]; exact fun e => hD x y rfl rfl e.symm
theorem cell_other {w w' : World} {n' c' : Nat} {A : Option Addr} {a : Addr} {v : Value} (h : w.cell? a = some v) (hg : w.grownBy w' (Value.slice A n' c').ownBlock) (hD : Apart A (some ⟨a.block, 0, none⟩)) : w'.cell? a = some v := by
  rw [World.cell?_of_block (hg.block a.block (cell_lt h) ?_)]
  · exact h
  · cases A with
    | none => simp [Value.ownBlock]
    | some x => simp only [Value.ownBlock, ne_eq, Option.some.injEq]; exact fun e => hD x _ rfl rfl e.symm
theorem apart_old {wr : World} {b T K n m c g : Nat} {A : Option Addr} {xs : List Value} (h : wr.ownsRow b T K (.slice A m c) n xs) (hg : g < b) : Apart A (some ⟨g, 0, none⟩) := by
  intro a a' ha ha' e
  have := (own_lt h a ha).1
  injection ha' with ha'
  subst ha'
  simp at e
  omega
theorem own_len {w : World} {b T K n m c : Nat} {A : Option Addr} {xs : List Value} (h : m = n) (hO : w.ownsRow b T K (.slice A n c) n xs) : w.ownsRow b T K (.slice A m c) m xs := by subst h; exact hO
theorem own_max {w : World} {b T K n c : Nat} {A : Option Addr} {xs : List Value} (h : w.ownsRow b T K (.slice A n c) n xs) : n ≤ 9223372036854775807 := by
  rcases h.2 with ⟨_, h0⟩ | ⟨g, cap, cur, hv, _, _, h1, h2, _⟩
  · omega
  · unfold maxLen at h2; omega
theorem grown_below {w wr w2 : World} {q : Option Nat} (h : w.grownBy wr q) (hb : Below wr.heap.size wr w2) : w.grownBy w2 q :=
  Aid.grown_tr h ⟨hb.os, hb.tape, hb.output, hb.size, fun k hk _ => hb.block k hk⟩
theorem own_some {w : World} {b T K n c : Nat} {A : Option Addr} {xs : List Value} (h : w.ownsRow b T K (.slice A n c) n xs) (hn : 0 < n) : ∃ g, A = some ⟨g, 0, none⟩ := by
  rcases h.2 with ⟨_, h0⟩ | ⟨g, cap, cur, hv, _⟩
  · omega
  · injection hv with e1; exact ⟨g, e1⟩
theorem own_stores {b T K n c g : Nat} (ps : List (Nat × Value)) : ∀ {w : World} {xs : List Value}, w.ownsRow b T K (.slice (some ⟨g, 0, none⟩) n c) n xs →
    (ps.foldl (fun w p => w.setCell ⟨g, p.1, none⟩ p.2) w).ownsRow b T K (.slice (some ⟨g, 0, none⟩) n c) n (ps.foldl (fun xs p => xs.set p.1 p.2) xs) ∧ w.grownBy (ps.foldl (fun w p => w.setCell ⟨g, p.1, none⟩ p.2) w) (some g) := by
  induction ps with
  | nil => intro w xs h; exact ⟨h, Aid.grown_refl _ _⟩
  | cons p ps ih =>
    intro w xs h
    have h1 := h.stored p.1 p.2
    have h2 := ih h1.1
    exact ⟨h2.1, Aid.grown_tr h1.2 h2.2⟩
theorem map_flat {α : Type} (g : α → Value) (l : List α) : l.map g = l.flatMap (fun x => [g x]) := by
  induction l with
  | nil => rfl
  | cons x l ih => simp [List.flatMap_cons, ih]
theorem made_flat {α : Type} (f : α → List Value) (x0 : α) (z : Value) (K n : Nat) (hz : z.cells.toList = f x0) (hK : z.cells.size = K) (hp : 0 < K) : (madeCells z.cells (n * K)).toList = (List.replicate n x0).flatMap f := by
  have hl : (f x0).length = K := by rw [← hz, ← hK]; simp
  have hr : ∀ n, (List.range (n * K)).map (fun i => z.cells[i % z.cells.size]!) = (List.replicate n x0).flatMap f := by
    intro n
    induction n with
    | zero => simp
    | succ n ih =>
      rw [List.replicate_succ', List.flatMap_append, ← ih, Nat.add_mul, Nat.one_mul, List.range_add, List.map_append]
      congr 1
      simp only [List.map_map, List.flatMap_cons, List.flatMap_nil, List.append_nil]
      apply List.ext_getElem
      · simp [hl]
      · intro i h1 h2
        have hi : i < K := by simpa using h1
        simp only [List.getElem_map, List.getElem_range, Function.comp]
        rw [hK, Nat.add_comm, Nat.add_mul_mod_self_right, Nat.mod_eq_of_lt hi]
        have h3 : i < z.cells.size := by omega
        rw [getElem!_pos z.cells i h3]
        have : z.cells.toList[i]'(by simpa using h3) = z.cells[i] := by simp
        rw [← this]
        congr 1
  unfold madeCells
  rw [← hr n]
  simp
/-- a row is no longer than its room; nil has none -/
def Room (A : Option Addr) (n c : Nat) : Prop := n ≤ c ∧ (A = none → c = 0)
theorem own_room {w : World} {b T K n c : Nat} {A : Option Addr} {xs : List Value} (h : w.ownsRow b T K (.slice A n c) n xs) : Room A n c := by
  rcases h.2 with ⟨h1, h2⟩ | ⟨g, cap, cur, h1, _, _, hr, _⟩
  · simp only [Value.slice.injEq] at h1
    exact ⟨by omega, fun _ => by omega⟩
  · simp only [Value.slice.injEq] at h1
    exact ⟨by omega, fun e => by rw [h1.1] at e; simp at e⟩
/-- append(a, b...) onto a row of its own -/
theorem append_spread {P : Program} {w : World} {ops : Array Oper} {rest : List Oper} {o : Oper} {a : Act} {Q : Exit → Act → World → Prop} (hgd : o.guard = none) (s x : Operand) (t : TypeId)
    (ho : o.op = .call { callee := .builtin .append, args := #[s, x], argTypes := #[t, t] })
    (base : Nat) (e : TypeId) (i : TypeInfo) (z : Value) (size bytes : Nat) (ht : P.underlying t = some (.slice e)) (hi : P.info? e = some i) (hz : i.zero = some z)
    (hsize : i.size = size) (hby : i.bytes = bytes) (hzs : z.cells.size = size) (hsz : 0 < size)
    (A1 : Option Addr) (c1 n : Nat) (xs : List Value) (hs : a.eval s = .slice A1 n c1) (hown : w.ownsRow base e size (.slice A1 n c1) n xs)
    (A : Option Addr) (m c : Nat) (news : List Value) (hx : a.eval x = .slice A m c) (hN : Room A m c) (hc : Cells w size A m news) (h1 : ∀ u ∈ news, u.oneCell' = true)
    (h63 : n + m ≤ maxLen) (hbytes : (n + m) * bytes ≤ 140737488355328) (hbase : base ≤ w.heap.size)
    (h : ∀ v' w', w'.ownsRow base e size v' (n + m) (xs ++ news) → w.grownBy w' (Value.slice A1 n c1).ownBlock → (v'.ownBlock = (Value.slice A1 n c1).ownBlock ∨ v'.ownBlock = some w.heap.size) → wpList P ops Q rest (a.put o.dst v') w') :
    wpList P ops Q (o :: rest) a w := by
  cases A with
  | some ad =>
    refine wpList_append_own_at w hgd s x t ho base e i z size bytes ht hi hz hsize hby hzs hsz _ n xs hs hown ad m c news hx hc.1 (fun j u hu => ?_) h1 h63 hbytes hbase (fun v' w' o1 g1 _ y1 => h v' w' o1 g1 y1)
    obtain ⟨ad', e', hcell⟩ := hc.2 (by have := (List.getElem?_eq_some_iff.1 hu).1; omega)
    obtain rfl : ad = ad' := Option.some.inj e'
    exact hcell j u hu
  | none =>
    have hm : m = 0 := by
      cases news with
      | nil =>
        have h0 : ([] : List Value).length = m * size := hc.1
        rw [List.length_nil] at h0
        rcases Nat.mul_eq_zero.1 h0.symm with h1 | h1 <;> omega
      | cons y l => obtain ⟨ad, e', _⟩ := hc.2 (by simp); simp at e'
    obtain rfl : c = 0 := hN.2 rfl
    subst hm
    have hn : news = [] := List.eq_nil_of_length_eq_zero (by have := hc.1; simpa using this)
    subst hn
    refine Go.wpList_append_own_none hgd s x t ho base e i size ht hi _ n xs hs hown hx ?_
    exact h _ w (by simpa using hown) (World.grownBy.refl w _) (.inl rfl)
theorem own_pushS {α : Type} {f : List α → List Value} {l b t : List α} {w' : World} {bs T K : Nat} {v' : Value} {n : Nat} (ht : l ++ b = t) (hf : f (l ++ b) = f l ++ f b) (hn : l.length = n) (h : w'.ownsRow bs T K v' (n + b.length) (f l ++ f b)) :
    ∃ A cap, v' = .slice A t.length cap ∧ w'.ownsRow bs T K (.slice A t.length cap) t.length (f t) := by
  subst ht
  subst hn
  rw [← List.length_append, ← hf] at h
  rcases h.2 with ⟨h1, h2⟩ | ⟨g3, cap3, _, h2, _⟩
  · have hv : v' = .slice none (l ++ b).length 0 := by rw [h1, h2]
    exact ⟨none, 0, hv, hv ▸ h⟩
  · exact ⟨_, _, h2, h2 ▸ h⟩
/-- w' is w but for two rows and for new blocks -/
structure Grown2 (w w' : World) (A1 A2 : Option Addr) : Prop where
  os : w'.os = w.os
  tape : w'.tape = w.tape
  output : w'.output = w.output
  size : w.heap.size ≤ w'.heap.size
  block : ∀ k, k < w.heap.size → (∀ a, A1 = some a → a.block ≠ k) → (∀ a, A2 = some a → a.block ≠ k) → w'.heap[k]? = w.heap[k]?
end Go.Proofs.Ytaepibmmpdfjcaa.GoM

/- A record Block, whose fields are lists too. No condition. -/
namespace Go.Proofs.Ytaepibmmpdfjcaa.PBlock
structure Block where
  rows : (List ByteArray)
end Go.Proofs.Ytaepibmmpdfjcaa.PBlock

/- A record Block opened into its fields. No condition. -/
namespace Go.Proofs.Ytaepibmmpdfjcaa.GoP
set_option linter.unusedVariables false
open Go.RowKit
def unBlock {ρ : Type} (s : Go.Proofs.Ytaepibmmpdfjcaa.PBlock.Block) (f : (List ByteArray) → Option ρ) : Option ρ := f s.rows
theorem unBlock_hid {ρ : Type} {x0 : (List ByteArray)} {f : (List ByteArray) → Option ρ} {r : ρ} (H : Hid (unBlock ⟨x0⟩ f = some r)) : Hid (f x0 = some r) := H
end Go.Proofs.Ytaepibmmpdfjcaa.GoP

/- Plain words on the arrays of 2 numbers: the cells, a list of them as cells one after the other. No condition. -/
namespace Go.Proofs.Ytaepibmmpdfjcaa.PIntA2
set_option linter.unusedVariables false
set_option maxRecDepth 100000

structure IntA2 where
  x0 : Int
  x1 : Int
def IntA2.cells (s : IntA2) : List Value := [.int .i64 s.x0, .int .i64 s.x1]
def IntA2.val (s : IntA2) : Value := .agg #[.int .i64 s.x0, .int .i64 s.x1]
def IntA2.list (s : IntA2) : List Int := [s.x0, s.x1]
/-- the array with v at j -/
def IntA2.put (s : IntA2) (j v : Int) : IntA2 := if j = 0 then ⟨v, s.x1⟩ else ⟨s.x0, v⟩
/-- the cells of a list of arrays, one after the other -/
def flat (l : List IntA2) : List Value := l.flatMap IntA2.cells
theorem flat_nil : flat [] = [] := rfl
theorem flat_cons (s : IntA2) (l : List IntA2) : flat (s :: l) = s.cells ++ flat l := by simp [flat]
theorem flat_snoc (l : List IntA2) (s : IntA2) : flat (l ++ [s]) = flat l ++ s.cells := by simp [flat]
theorem flat_len (l : List IntA2) : (flat l).length = l.length * 2 := by
  induction l with
  | nil => rfl
  | cons s l ih => rw [flat_cons, List.length_append, ih]; simp [IntA2.cells]; omega
theorem flat_at : ∀ (l : List IntA2) (k : Nat) (s : IntA2), l[k]? = some s → ∀ j, j < 2 → (flat l)[k * 2 + j]? = s.cells[j]?
  | [], k, s, h, _, _ => by simp at h
  | r :: l, 0, s, h, j, hj => by
    obtain rfl : r = s := by simpa using h
    rw [flat_cons, List.getElem?_append_left (by simp [IntA2.cells]; omega)]; simp
  | r :: l, k + 1, s, h, j, hj => by
    rw [flat_cons, List.getElem?_append_right (by simp [IntA2.cells]; omega), show (k + 1) * 2 + j - r.cells.length = k * 2 + j by simp [IntA2.cells]; omega]
    exact flat_at l k s (by simpa using h) j hj
end Go.Proofs.Ytaepibmmpdfjcaa.PIntA2

/- A record IntA2 opened into its fields. No condition. -/
namespace Go.Proofs.Ytaepibmmpdfjcaa.GoP
set_option linter.unusedVariables false
open Go.RowKit
def unIntA2 {ρ : Type} (s : Go.Proofs.Ytaepibmmpdfjcaa.PIntA2.IntA2) (f : Int → Int → Option ρ) : Option ρ := f s.x0 s.x1
theorem unIntA2_hid {ρ : Type} {x0 : Int} {x1 : Int} {f : Int → Int → Option ρ} {r : ρ} (H : Hid (unIntA2 ⟨x0, x1⟩ f = some r)) : Hid (f x0 x1 = some r) := H
end Go.Proofs.Ytaepibmmpdfjcaa.GoP

/- The drawing cursor as a tape of numbers from 0 to 255: what it is in memory, and the contract of its method next. Conditions: its bytes read as bytes, and it has been asked fewer than 2^62 times. -/
namespace Go.Proofs.Ytaepibmmpdfjcaa.GoC
set_option linter.unusedVariables false
open Go.RowKit
open Go.Proofs.Ytaepibmmpdfjcaa.Rowed Go.Proofs.Ytaepibmmpdfjcaa.Turn Go.Proofs.Ytaepibmmpdfjcaa.GoM

/-- what a cursor will give, and how often it may be asked -/
structure Tape where
  vals : Nat → Int
  left : Nat
def Tape.tail (t : Tape) : Tape := ⟨fun i => t.vals (i + 1), t.left - 1⟩
def u8s (l : List Int) : List Value := l.map (fun z => Value.int .u8 z)
theorem u8s_len (l : List Int) : (u8s l).length = l.length := by simp [u8s]
theorem u8s_at (l : List Int) (k : Nat) : (u8s l)[k]? = (l[k]?).map (Value.int .u8) := by simp [u8s]
/-- the cell block of a cursor over the bytes 'A, c' -/
def At (w : World) (b g : Nat) (A : Option Addr) (c : Nat) (code : List Int) (k : Nat) (seed : Int) : Prop :=
  b ≤ g ∧ w.heap[g]? = some (.cells #[.slice A code.length c, .int .i64 k, .int .u64 seed] 80 (0, 0)) ∧ Cells w 1 A code.length (u8s code) ∧ (∀ a, A = some a → 0 < code.length → a.block < b)
/-- asked there, the cursor gives x, and its seed is then s -/
def Step (code : List Int) (k : Nat) (seed x s : Int) : Prop :=
  (0 ≤ x ∧ x ≤ 255) ∧ ∀ w b g A c, At w b g A c code k seed → Calls Try.prog 92 #[.pointer (some ⟨g, 0, none⟩)] w (fun e w' => e = .returned (.int .i64 x) ∧ At w' b g A c code (k + 1) s ∧ w.grownBy w' (some g))
def Emits (code : List Int) (k : Nat) (seed : Int) (t : Tape) : Prop :=
  k + t.left ≤ 4611686018427387904 ∧ ∃ seeds : Nat → Int, seeds 0 = seed ∧ ∀ i, i < t.left → Step code (k + i) (seeds i) (t.vals i) (seeds (i + 1))
/-- block g is a cursor that will give t -/
def CurIs (w : World) (b g : Nat) (A : Option Addr) (c : Nat) (t : Tape) : Prop := ∃ code k seed, At w b g A c code k seed ∧ Emits code k seed t

theorem cells3 {w : World} {g : Nat} {t : TypeId} {x y z : Value} (h : w.heap[g]? = some (.cells #[x, y, z] t (0, 0))) :
    w.cell? ⟨g, 0, none⟩ = some x ∧ w.cell? ⟨g, 1, none⟩ = some y ∧ w.cell? ⟨g, 2, none⟩ = some z ∧ (∀ i, w.frozen? ⟨g, i, none⟩ = false) :=
  ⟨by simp [World.cell?, h], by simp [World.cell?, h], by simp [World.cell?, h], fun i => by simp [World.frozen?, h]⟩
theorem stored {w W2 : World} {g n1 : Nat} {t : TypeId} {x y z u v : Value} (hb : w.heap[g]? = some (.cells #[x, y, z] t (0, 0)))
    (hW : ((w.drewN n1).setCell ⟨g, 1, none⟩ u).setCell ⟨g, 2, none⟩ v = W2) : W2.heap[g]? = some (.cells #[x, u, v] t (0, 0)) ∧ w.grownBy W2 (some g) := by
  subst hW
  refine ⟨by simp [World.setCell, Array.getElem?_modify, hb], ⟨rfl, rfl, rfl, by simp [World.setCell], fun k _ hk => ?_⟩⟩
  have hne : k ≠ g := fun e => hk (by rw [e])
  rw [Below.heap_setCell _ _ _ _ hne, Below.heap_setCell _ _ _ _ hne]
  rfl
theorem grown_drewN {w w' : World} {r : Option Nat} (h : w.grownBy w' r) (n : Nat) : w.grownBy (w'.drewN n) r := ⟨h.os, h.tape, h.output, h.size, h.block⟩
theorem add_block (a : Addr) (n : Nat) : (a.add n).block = a.block := by unfold Addr.add; split <;> rfl
theorem cells_kept {w w' : World} {K g n : Nat} {A : Option Addr} {xs : List Value} (h : Cells w K A n xs) (hg : w.grownBy w' (some g)) (hA : ∀ a, A = some a → 0 < xs.length → a.block ≠ g) : Cells w' K A n xs := by
  refine ⟨h.1, fun h0 => ?_⟩
  obtain ⟨ad, e, hc⟩ := h.2 h0
  refine ⟨ad, e, fun j u hu => ?_⟩
  have h1 := hc j u hu
  have hlt := cell_lt h1
  rw [World.cell?_of_block (w := w) (w' := w') (hg.block _ hlt (by rw [add_block]; intro e2; injection e2 with e3; exact hA ad e h0 e3))]
  exact h1
theorem and255 (y : Int) : 0 ≤ wrap64 (bits .and .u64 y 255) ∧ wrap64 (bits .and .u64 y 255) ≤ 255 := by
  have h : 0 ≤ bits .and .u64 y 255 ∧ bits .and .u64 y 255 ≤ 255 := by
    have h1 : (BitVec.ofInt 64 y &&& BitVec.ofInt 64 255).toNat ≤ 255 := by
      rw [BitVec.toNat_and]
      exact Nat.le_trans Nat.and_le_right (by decide)
    show 0 ≤ IntKind.u64.wrap ((BitVec.ofInt 64 y &&& BitVec.ofInt 64 255).toNat : Int) ∧ IntKind.u64.wrap ((BitVec.ofInt 64 y &&& BitVec.ofInt 64 255).toNat : Int) ≤ 255
    rw [IntKind.wrap_u64]
    omega
  rw [IntWalk.wrap64_in _ ⟨by omega, by omega⟩]
  exact h

set_option maxHeartbeats 1000000 in
theorem step_any (code : List Int) (hb : ∀ z ∈ code, 0 ≤ z ∧ z ≤ 255) (hn : code.length ≤ 9223372036854775807) (k : Nat) (seed : Int) (hm : k < 4611686018427387904) : ∃ x s, Step code k seed x s := by
  by_cases hlt : k < code.length
  · obtain ⟨z, hzz⟩ : ∃ z, code[k]? = some z := ⟨code[k], List.getElem?_eq_getElem hlt⟩
    have hz := hb z (List.mem_of_getElem? hzz)
    refine ⟨z, IntKind.u64.wrap (IntKind.u64.wrap (IntKind.u64.wrap (seed * 6364136223846793005) + z) + 381907), ⟨?h0, ?h1⟩, fun w b g A c h => ?walk⟩
    case walk =>
      obtain ⟨hbg, hb, hcs, hA⟩ := h
      obtain ⟨ad, rfl, hc⟩ := hcs.2 (by unfold u8s; rw [List.length_map]; omega)
      have hcell := hc k _ (by unfold u8s; rw [List.getElem?_map, hzz]; rfl)
      obtain ⟨c0, c1, c2, hf⟩ := cells3 hb
      have f1 := hf 1
      have f2 := hf 2
      have HB := Lib.hid hb
      have HK := Lib.hid hcs
      have b1 : 0 ≤ (k : Int) := by omega
      have b2 : (k : Int) < code.length := by omega
      clear hb hf hc hcs
      have HA := Lib.hid hA
      clear hA
      go_enter Try.func92, Try.ntmps92
      go_wp2_with fail
      go_quiet (fail)
      go_wp2_with fail
      go_quiet (fail)
      go_wp2_with fail
      generalize hW2 : (World.setCell (World.setCell (World.drewN w _) ⟨g, 1, none⟩ _) ⟨g, 2, none⟩ _) = W2
      obtain ⟨hb2, hg2⟩ := stored HB.out hW2
      obtain ⟨d0, d1, d2, df⟩ := cells3 hb2
      have HB2 := Lib.hid hb2
      have HG2 := Lib.hid hg2
      clear hb2 hg2 df hW2 HB c0 c1 c2 f1 f2
      go_quiet (fail)
      go_wp2_with fail
      go_ret
      exact ⟨rfl, ⟨hbg, by rw [show ((k + 1 : Nat) : Int) = (k : Int) + 1 by omega]; exact HB2.out, cells_kept HK.out (grown_drewN HG2.out _) (fun a e h0 e2 => by have := HA.out a e (by unfold u8s at h0; rwa [List.length_map] at h0); omega), HA.out⟩, grown_drewN HG2.out _⟩
    case h0 => exact hz.1
    case h1 => exact hz.2
  · refine ⟨wrap64 (bits .and .u64 (IntKind.u64.wrap (IntKind.u64.wrap (IntKind.u64.wrap (seed * 6364136223846793005)) + 381907) / 1099511627776) 255), IntKind.u64.wrap (IntKind.u64.wrap (IntKind.u64.wrap (seed * 6364136223846793005)) + 381907), ⟨?h0, ?h1⟩, fun w b g A c h => ?walk⟩
    case walk =>
      obtain ⟨hbg, hb, hcs, hA⟩ := h
      obtain ⟨c0, c1, c2, hf⟩ := cells3 hb
      have f1 := hf 1
      have f2 := hf 2
      have HB := Lib.hid hb
      have HK := Lib.hid hcs
      have HA := Lib.hid hA
      have b2 : (code.length : Int) ≤ k := by omega
      have b3 : ¬ ((k : Int) + 1 ≤ code.length) := by omega
      clear hb hf hcs hA
      go_enter Try.func92, Try.ntmps92
      go_wp2_with fail
      go_quiet (fail)
      go_wp2_with fail
      generalize hW2 : (World.setCell (World.setCell (World.drewN w _) ⟨g, 1, none⟩ _) ⟨g, 2, none⟩ _) = W2
      obtain ⟨hb2, hg2⟩ := stored HB.out hW2
      obtain ⟨d0, d1, d2, df⟩ := cells3 hb2
      have HB2 := Lib.hid hb2
      have HG2 := Lib.hid hg2
      clear hb2 hg2 df hW2 HB c0 c1 c2 f1 f2
      go_quiet (fail)
      go_wp2_with fail
      go_ret
      exact ⟨rfl, ⟨hbg, by rw [show ((k + 1 : Nat) : Int) = (k : Int) + 1 by omega]; exact HB2.out, cells_kept HK.out (grown_drewN HG2.out _) (fun a e h0 e2 => by have := HA.out a e (by unfold u8s at h0; rwa [List.length_map] at h0); omega), HA.out⟩, grown_drewN HG2.out _⟩
    case h0 => exact (and255 _).1
    case h1 => exact (and255 _).2
/-- a tape for each row of bytes -/
def Tells (tapes : List Int → Tape) : Prop := (∀ code, (tapes code).left = 4611686018427387904) ∧ (∀ code i, 0 ≤ (tapes code).vals i ∧ (tapes code).vals i ≤ 255) ∧
  ∀ code, (∀ z ∈ code, 0 ≤ z ∧ z ≤ 255) → code.length ≤ 9223372036854775807 → Emits code 0 0 (tapes code)
theorem tells_one (code : List Int) : ∃ t : Tape, t.left = 4611686018427387904 ∧ (∀ i, 0 ≤ t.vals i ∧ t.vals i ≤ 255) ∧ ((∀ z ∈ code, 0 ≤ z ∧ z ≤ 255) → code.length ≤ 9223372036854775807 → Emits code 0 0 t) := by
  by_cases hc : (∀ z ∈ code, 0 ≤ z ∧ z ≤ 255) ∧ code.length ≤ 9223372036854775807
  · have hs : ∀ (k : Nat) (seed : Int), ∃ p : Int × Int, (0 ≤ p.1 ∧ p.1 ≤ 255) ∧ (k < 4611686018427387904 → Step code k seed p.1 p.2) := by
      intro k seed
      by_cases hk : k < 4611686018427387904
      · obtain ⟨x, s, h⟩ := step_any code hc.1 hc.2 k seed hk
        exact ⟨(x, s), h.1, fun _ => h⟩
      · exact ⟨(0, 0), by omega, fun h => absurd h hk⟩
    have ⟨f, hf⟩ : ∃ f : Nat → Int → Int × Int, ∀ k seed, (0 ≤ (f k seed).1 ∧ (f k seed).1 ≤ 255) ∧ (k < 4611686018427387904 → Step code k seed (f k seed).1 (f k seed).2) :=
      ⟨fun k seed => Classical.choose (hs k seed), fun k seed => Classical.choose_spec (hs k seed)⟩
    obtain ⟨seeds, h0, h1⟩ : ∃ seeds : Nat → Int, seeds 0 = 0 ∧ ∀ i, seeds (i + 1) = (f i (seeds i)).2 := ⟨fun n => Nat.rec 0 (fun i s => (f i s).2) n, rfl, fun i => rfl⟩
    refine ⟨⟨fun i => (f i (seeds i)).1, 4611686018427387904⟩, rfl, fun i => (hf i (seeds i)).1, fun _ _ => ⟨by show 0 + 4611686018427387904 ≤ 4611686018427387904; omega, seeds, h0, fun i hi => ?_⟩⟩
    have := (hf i (seeds i)).2 hi
    rw [h1, Nat.zero_add]
    exact this
  · exact ⟨⟨fun _ => 0, 4611686018427387904⟩, rfl, fun _ => ⟨Int.le_refl 0, (by decide : (0 : Int) ≤ 255)⟩, fun h1 h2 => absurd ⟨h1, h2⟩ hc⟩
theorem tells : ∃ tapes, Tells tapes := by
  have ⟨f, hf⟩ : ∃ f : List Int → Tape, ∀ code, (f code).left = 4611686018427387904 ∧ (∀ i, 0 ≤ (f code).vals i ∧ (f code).vals i ≤ 255) ∧ ((∀ z ∈ code, 0 ≤ z ∧ z ≤ 255) → code.length ≤ 9223372036854775807 → Emits code 0 0 (f code)) :=
    ⟨fun code => Classical.choose (tells_one code), fun code => Classical.choose_spec (tells_one code)⟩
  exact ⟨f, fun code => (hf code).1, fun code => (hf code).2.1, fun code => (hf code).2.2⟩

theorem cur_lt {w : World} {b g c : Nat} {A : Option Addr} {t : Tape} (h : CurIs w b g A c t) : b ≤ g ∧ g < w.heap.size := by
  obtain ⟨code, k, seed, ⟨h1, h2, _⟩, _⟩ := h
  refine ⟨h1, ?_⟩
  rcases Nat.lt_or_ge g w.heap.size with hl | hl
  · exact hl
  · rw [Array.getElem?_eq_none hl] at h2; cases h2
theorem cells_lt {w : World} {K n : Nat} {a : Addr} {xs : List Value} (h : Cells w K (some a) n xs) (h0 : 0 < xs.length) : a.block < w.heap.size := by
  obtain ⟨ad, e, hc⟩ := h.2 h0
  obtain rfl := Option.some.inj e
  have := cell_lt (hc 0 xs[0] (List.getElem?_eq_getElem h0))
  rwa [add_block] at this
theorem cur_below {w w' : World} {b g c : Nat} {A : Option Addr} {t : Tape} (h : CurIs w b g A c t) (hb : Below w.heap.size w w') : CurIs w' b g A c t := by
  have hl := cur_lt h
  obtain ⟨code, k, seed, ⟨h1, h2, h3, h4⟩, hE⟩ := h
  exact ⟨code, k, seed, ⟨h1, by rw [hb.block g hl.2]; exact h2, Cells.below h3 hb, h4⟩, hE⟩
/-- another row is written, one that is younger than the bytes -/
theorem cur_other {w w' : World} {b g c n' c' : Nat} {A A' : Option Addr} {t : Tape} (h : CurIs w b g A c t) (hg : w.grownBy w' (Value.slice A' n' c').ownBlock) (hD : Apart A' (some ⟨g, 0, none⟩)) (ho : ∀ a, A' = some a → b ≤ a.block) : CurIs w' b g A c t := by
  have hl := cur_lt h
  obtain ⟨code, k, seed, ⟨h1, h2, h3, h4⟩, hE⟩ := h
  refine ⟨code, k, seed, ⟨h1, ?_, ?_, h4⟩, hE⟩
  · rw [hg.block g hl.2 ?_]
    · exact h2
    · cases A' with
      | none => simp [Value.ownBlock]
      | some x => simp only [Value.ownBlock, ne_eq, Option.some.injEq]; exact fun e => hD x _ rfl rfl e.symm
  · refine ⟨h3.1, fun h0 => ?_⟩
    obtain ⟨ad, e, hc⟩ := h3.2 h0
    refine ⟨ad, e, fun j u hu => ?_⟩
    have h5 := hc j u hu
    have hlt := cell_lt h5
    rw [World.cell?_of_block (w := w) (w' := w') (hg.block _ hlt ?_)]
    · exact h5
    · rw [add_block]
      cases A' with
      | none => simp [Value.ownBlock]
      | some x =>
        simp only [Value.ownBlock, ne_eq, Option.some.injEq]
        intro e2
        have := ho x rfl
        have := h4 ad e (by unfold u8s at h0; rwa [List.length_map] at h0)
        omega
/-- a cursor that is laid now -/
theorem cur_new {w : World} {b c : Nat} {A : Option Addr} {code : List Int} {t : Tape} (hb : b ≤ w.heap.size) (hc : Cells w 1 A code.length (u8s code)) (hA : ∀ a, A = some a → 0 < code.length → a.block < b) (hE : Emits code 0 0 t) :
    CurIs (w.alloc (.cells #[.slice A code.length c, .int .i64 0, .int .u64 0] 80)) b w.heap.size A c t :=
  ⟨code, 0, 0, ⟨hb, heap_alloc_new w _, Cells.below hc ((Below.refl _ _).alloc (Nat.le_refl _) _), hA⟩, hE⟩
theorem grown_new {w wr w2 : World} {r : Option Nat} {n c : Nat} {A : Option Addr} (h : w.grownBy wr r) (hg : wr.grownBy w2 (Value.slice A n c).ownBlock) (ho : ∀ a, A = some a → w.heap.size ≤ a.block) : w.grownBy w2 r :=
  ⟨hg.os.trans h.os, hg.tape.trans h.tape, hg.output.trans h.output, Nat.le_trans h.size hg.size, fun i hi hr => (hg.block i (Nat.lt_of_lt_of_le hi h.size) (by
    cases A with
    | none => simp [Value.ownBlock]
    | some x => simp only [Value.ownBlock, ne_eq, Option.some.injEq]; intro e; have := ho x rfl; omega)).trans (h.block i hi hr)⟩
theorem own_ge {w : World} {b T K n m c : Nat} {A : Option Addr} {xs : List Value} (h : w.ownsRow b T K (.slice A m c) n xs) : ∀ a, A = some a → b ≤ a.block := fun a e => (own_lt h a e).1
theorem cur_otherO {w w' : World} {b g c n' c' base T K n : Nat} {A A' : Option Addr} {t : Tape} {xs : List Value} (h : CurIs w b g A c t) (hg : w.grownBy w' (Value.slice A' n' c').ownBlock) (hD : Apart A' (some ⟨g, 0, none⟩)) (hb : b ≤ base) (ho : w.ownsRow base T K (.slice A' n' c') n xs) : CurIs w' b g A c t :=
  cur_other h hg hD (fun a e => Nat.le_trans hb (own_ge ho a e))
theorem u8_at {w : World} {A : Option Addr} {n k : Nat} {l : List Int} (h : Cells w 1 A n (u8s l)) (hk : k < n) : ∃ (b o : Nat) (x : Int), A = some ⟨b, o, none⟩ ∧ l[k]? = some x ∧ w.cell? ⟨b, o + k, none⟩ = some (.int .u8 x) := by
  have hl : k < l.length := by have := h.1; unfold u8s at this; rw [List.length_map] at this; omega
  obtain ⟨⟨b, o, sp⟩, e, hc⟩ := h.2 (by unfold u8s; rw [List.length_map]; omega)
  have h0 := hc 0 (.int .u8 l[0]) (by unfold u8s; rw [List.getElem?_map, List.getElem?_eq_getElem (show 0 < l.length by omega)]; rfl)
  obtain rfl : sp = none := cell_spot (b := b) (o := o) h0
  have hs := List.getElem?_eq_getElem hl
  have := hc k (.int .u8 l[k]) (by unfold u8s; rw [List.getElem?_map, hs]; rfl)
  rw [add_flat] at this
  exact ⟨b, o, l[k], e, hs, this⟩
theorem apart_cur {w : World} {b g c : Nat} {A : Option Addr} {t : Tape} (h : CurIs w b g A c t) : Apart (some ⟨w.heap.size, 0, none⟩) (some ⟨g, 0, none⟩) := by
  intro a a' ha ha' e
  have := (cur_lt h).2
  injection ha with ha
  injection ha' with ha'
  subst ha
  subst ha'
  simp at e
  omega
theorem apart_callcur {w w1 : World} {T K n m c b g c' : Nat} {A A' : Option Addr} {xs : List Value} {t : Tape} (h1 : w1.ownsRow w.heap.size T K (.slice A m c) n xs) (h : CurIs w b g A' c' t) : Apart A (some ⟨g, 0, none⟩) := by
  intro a a' ha ha' e
  have := (cur_lt h).2
  have := (own_lt h1 a ha).1
  injection ha' with ha'
  subst ha'
  simp at e
  omega
theorem apart_x {n g bb oo : Nat} (h : 0 < n → Apart (some ⟨bb, oo, none⟩) (some ⟨g, 0, none⟩)) (h0 : 0 < n) : Apart (some ⟨g, 0, none⟩) (some ⟨bb, 0, none⟩) := by
  intro a a' ha ha' e
  injection ha with ha
  injection ha' with ha'
  subst ha
  subst ha'
  exact h h0 ⟨bb, oo, none⟩ ⟨g, 0, none⟩ rfl rfl e.symm
theorem below_cur {w wr w2 : World} {B g : Nat} (h : Below B w wr) (hg : wr.grownBy w2 (Value.slice (some ⟨g, 0, none⟩) 1 1).ownBlock) (hB : B ≤ wr.heap.size) (hk : B ≤ g) : Below B w w2 :=
  h.grown hg hB (fun q hq => by have hq' : some g = some q := hq; injection hq' with e; omega)
/-- next -/
def P (t : Tape) : Option (Int × Tape) := if 0 < t.left then some (t.vals 0, t.tail) else none
theorem C (t : Tape) (w : World) (b g : Nat) (A : Option Addr) (c : Nat) (K : Hid (CurIs w b g A c t)) {r : Int} {t' : Tape} (H : Hid (P t = some (r, t'))) :
    Calls Try.prog 92 #[.pointer (some ⟨g, 0, none⟩)] w (fun e w' => e = .returned (.int .i64 r) ∧ CurIs w' b g A c t' ∧ w.grownBy w' (some g)) := by
  have h : P t = some (r, t') := H
  obtain ⟨code, k, seed, hA, hl, seeds, h0, hs⟩ := K.out
  unfold P at h
  by_cases hk : 0 < t.left
  · rw [if_pos hk] at h
    simp only [Option.some.injEq, Prod.mk.injEq] at h
    obtain ⟨rfl, rfl⟩ := h
    have h1 := hs 0 hk
    rw [h0] at h1
    refine (h1.2 w b g A c hA).mono ?_
    rintro e w' ⟨rfl, a1, a2⟩
    refine ⟨rfl, ⟨code, k + 1, seeds 1, a1, by show k + 1 + (t.left - 1) ≤ _; omega, fun i => seeds (i + 1), rfl, fun i hi => ?_⟩, a2⟩
    have h2 := hs (i + 1) (by have : i < t.left - 1 := hi; omega)
    rw [show k + 1 + i = k + (i + 1) by omega]
    exact h2
  · rw [if_neg hk] at h; simp at h
end Go.Proofs.Ytaepibmmpdfjcaa.GoC

/- What is held of the worlds of a region that draws its order may grow on the way. No condition. -/
namespace Go.Proofs.Ytaepibmmpdfjcaa.GoR
set_option linter.unusedVariables false
theorem wpAnyH_more {P : Program} {ops : Array Oper} {Q : Exit → Act → World → Prop} {md : Region.Mode} {S S' : World → Prop} (h : ∀ w, S' w → S w) : ∀ (fuel : Nat) (listed : Array Bool) (a : Act) (w : World), wpAnyH P md ops Q S' fuel listed a w → wpAnyH P md ops Q S fuel listed a w
  | 0, _, _, _, H => H
  | fuel + 1, _, _, _, H => ⟨H.1, fun i hi => wpOp_mono (fun a' w' h' => ⟨h _ h'.1, wpAnyH_more h fuel _ a' w' h'.2⟩) (H.2 i hi)⟩
end Go.Proofs.Ytaepibmmpdfjcaa.GoR

/- How a struct of one-cell fields that comes in as data is opened, whatever the number of its fields; lists by their members. No condition. -/
namespace Go.Proofs.Ytaepibmmpdfjcaa.OpenAny
set_option linter.unusedVariables false
open Go.Joins Go.ChangeShapes Go.WideShapes Go.RowKit Go.Deep

theorem add_none (b o n : Nat) : (⟨b, o, none⟩ : Addr).add n = ⟨b, o + n, none⟩ := by
  unfold Addr.add; split
  · rename_i h; subst h; rfl
  · rfl
section
variable {H : Type} {enc : TypeId × Value → H} {P : Program} {w : World} {base : Nat} {spare : Nat → Bool} {held : Bool}
end
end Go.Proofs.Ytaepibmmpdfjcaa.OpenAny

/- An array of 2 numbers in a row of them. No condition. -/
namespace Go.Proofs.Ytaepibmmpdfjcaa.OIntA2
set_option linter.unusedVariables false
set_option maxRecDepth 100000
open Go.Joins Go.ChangeShapes Go.WideShapes Go.RowKit Go.Deep
open Go.Proofs.Ytaepibmmpdfjcaa.Rowed Go.Proofs.Ytaepibmmpdfjcaa.OpenAny Go.Proofs.Ytaepibmmpdfjcaa.PIntA2
theorem at_ {w : World} {A : Option Addr} {n k : Nat} {l : List IntA2} (h : Cells w 2 A n (flat l)) (hk : k < n) :
    ∃ (b o : Nat) (s : IntA2), A = some ⟨b, o, none⟩ ∧ l[k]? = some s ∧ w.cell? ⟨b, o + k * 2, none⟩ = some (.int .i64 s.x0) ∧ w.cell? ⟨b, o + k * 2 + 1, none⟩ = some (.int .i64 s.x1) := by
  have hl : k < l.length := by have := h.1; rw [flat_len] at this; omega
  obtain ⟨⟨b, o, sp⟩, e, hc⟩ := h.2 (by rw [flat_len]; omega)
  have h0 := hc 0 _ (flat_at l 0 l[0] (List.getElem?_eq_getElem (by omega)) 0 (by omega))
  obtain rfl : sp = none := cell_spot (b := b) (o := o) h0
  have hs := List.getElem?_eq_getElem hl
  have f := flat_at l k _ hs
  have g := fun j u hu => add_none b o j ▸ hc j u hu
  exact ⟨b, o, l[k], e, hs, g _ _ (f 0 (by omega)), g _ _ (f 1 (by omega))⟩
end Go.Proofs.Ytaepibmmpdfjcaa.OIntA2

/- loop.example/g01062/laws.vBig as a plain function, and the contract of the program's: where the plain one has an answer, the program has it. Conditions: slices read as lists. -/
namespace Go.Proofs.Ytaepibmmpdfjcaa.GlVBig
set_option linter.unusedVariables false
set_option linter.unusedSimpArgs false
open Go.RowKit
open Go.Proofs.Ytaepibmmpdfjcaa.Rowed Go.Proofs.Ytaepibmmpdfjcaa.Turn Go.Proofs.Ytaepibmmpdfjcaa.Aid Go.Proofs.Ytaepibmmpdfjcaa.GoP Go.Proofs.Ytaepibmmpdfjcaa.GoM

def P (code : (List Int)) : Option (Bool) :=
  letK (decide (65536 < (code.length : Int))) fun (t_3 : Bool) =>
  some t_3

set_option maxRecDepth 100000 in
set_option maxHeartbeats 2000000 in
theorem C (code : (List Int)) (A0 : Option Addr) (c0 : Nat)  (w : World) (M0 : Hid (Cells w 1 A0 code.length (Go.Proofs.Ytaepibmmpdfjcaa.GoC.u8s code))) (N0 : Hid (code.length ≤ 9223372036854775807)) (V0 : Hid (∀ z ∈ code, 0 ≤ z ∧ z ≤ 255))  {r : Bool} (H : Hid (P code = some r)) :
    Calls Try.prog 10 #[.slice A0 code.length c0] w (Gives (.bool r) w) := by
  have HB := Lib.hid (Below.refl w.heap.size w)
  unfold P at H
  have N0o := N0.out
  go_enter Try.func10, Try.ntmps10
  replace H := let_hid H
  obtain ⟨t_3, ht_3, H⟩ := H
  try have nhr_t_3 : decide (65536 < code.length) = t_3 := by rw [← ht_3, decide_eq_decide]; omega
  obtain rfl := ret_hid H
  go_wp2_with fail
  go_ret
  exact ⟨rfl, HB.out⟩

set_option maxRecDepth 100000 in
set_option maxHeartbeats 2000000 in
theorem C0 (code : (List Int)) (A0 : Option Addr) (c0 : Nat)  (w : World) (M0 : Hid (Cells w 1 A0 code.length (Go.Proofs.Ytaepibmmpdfjcaa.GoC.u8s code))) (N0 : Hid (code.length ≤ 9223372036854775807)) (V0 : Hid (∀ z ∈ code, 0 ≤ z ∧ z ≤ 255))  {r : Bool} (H : Hid (P code = some r)) :
    Calls Try.prog 10 #[.slice A0 code.length c0] w (fun e w'' => e = .returned (.bool r) ∧ w'' = w) := by
  have HB := Lib.hid (Below.refl w.heap.size w)
  unfold P at H
  have N0o := N0.out
  go_enter Try.func10, Try.ntmps10
  replace H := let_hid H
  obtain ⟨t_3, ht_3, H⟩ := H
  try have nhr_t_3 : decide (65536 < code.length) = t_3 := by rw [← ht_3, decide_eq_decide]; omega
  obtain rfl := ret_hid H
  go_wp2_with fail
  go_ret
  exact ⟨rfl, rfl⟩
end Go.Proofs.Ytaepibmmpdfjcaa.GlVBig

/- The drawing cursor's method next as a plain function on tapes. No condition. -/
namespace Go.Proofs.Ytaepibmmpdfjcaa.GsL1CurNext
set_option linter.unusedVariables false
open Go.RowKit
open Go.Proofs.Ytaepibmmpdfjcaa.GoC
def P (t : GoC.Tape) : Option (Int × GoC.Tape) := if 0 < t.left then some (t.vals 0, t.tail) else none
theorem C (t : GoC.Tape) (g : Nat) (A : Option Addr) (c b : Nat) (w : World) (K : Hid (CurIs w b g A c t)) {r : Int} {t' : GoC.Tape} (H : Hid (P t = some (r, t'))) :
    Calls Try.prog 92 #[.pointer (some ⟨g, 0, none⟩)] w (fun e w' => e = .returned (.int .i64 r) ∧ CurIs w' b g A c t' ∧ w.grownBy w' (Value.slice (some ⟨g, 0, none⟩) 1 1).ownBlock) := GoC.C t w b g A c K H
end Go.Proofs.Ytaepibmmpdfjcaa.GsL1CurNext

/- (*loop.example/g01062/spec.l1Cur).pick as a plain function, and the contract of the program's: where the plain one has an answer, the program has it. Conditions: slices read as lists. -/
namespace Go.Proofs.Ytaepibmmpdfjcaa.GsL1CurPick
set_option linter.unusedVariables false
set_option linter.unusedSimpArgs false
open Go.RowKit
open Go.Proofs.Ytaepibmmpdfjcaa.Rowed Go.Proofs.Ytaepibmmpdfjcaa.Turn Go.Proofs.Ytaepibmmpdfjcaa.Aid Go.Proofs.Ytaepibmmpdfjcaa.GoP Go.Proofs.Ytaepibmmpdfjcaa.GoM

def j0 (n_1 : Int) (s : Int × Go.Proofs.Ytaepibmmpdfjcaa.GoC.Tape) : Option (Int × Go.Proofs.Ytaepibmmpdfjcaa.GoC.Tape) :=
  unp2 s fun x_5j0 c0_c0j0 =>
  guardK (¬ (n_1 = 0)) <|
  letK (Int.tmod x_5j0 n_1) fun (t_17 : Int) =>
  some (t_17, c0_c0j0)

def P (c : Go.Proofs.Ytaepibmmpdfjcaa.GoC.Tape) (n_1 : Int) : Option (Int × Go.Proofs.Ytaepibmmpdfjcaa.GoC.Tape) :=
  letK (decide (n_1 ≤ 1)) fun (t_2 : Bool) =>
  iteK t_2
  (some (0, c))
  (bind2 (Go.Proofs.Ytaepibmmpdfjcaa.GsL1CurNext.P c) fun (t_5 : Int) (t_5_tp : Go.Proofs.Ytaepibmmpdfjcaa.GoC.Tape) =>
  letK (decide (200 < n_1)) fun (t_8 : Bool) =>
  iteK t_8
  (letK (IntKind.i64.wrap (t_5 * 256)) fun (t_10 : Int) =>
  bind2 (Go.Proofs.Ytaepibmmpdfjcaa.GsL1CurNext.P t_5_tp) fun (t_12 : Int) (t_12_tp : Go.Proofs.Ytaepibmmpdfjcaa.GoC.Tape) =>
  letK (IntKind.i64.wrap (t_10 + t_12)) fun (t_13 : Int) =>
  j0 n_1 (t_13, t_12_tp))
  (j0 n_1 (t_5, t_5_tp)))

set_option maxRecDepth 100000 in
set_option maxHeartbeats 2000000 in
theorem C (c : Go.Proofs.Ytaepibmmpdfjcaa.GoC.Tape) (n_1 : Int)   (g0 : Nat) (Ac0 : Option Addr) (cc0 : Nat) (bc0 : Nat) (w : World)   (K0 : Hid (Go.Proofs.Ytaepibmmpdfjcaa.GoC.CurIs w bc0 g0 Ac0 cc0 c)) {r : Int} {t_ : Go.Proofs.Ytaepibmmpdfjcaa.GoC.Tape} (H : Hid (P c n_1 = some (r, t_))) :
    Calls Try.prog 59 #[.pointer (some ⟨g0, 0, none⟩), .int .i64 n_1] w (fun e w' => e = .returned (.int .i64 r) ∧ Go.Proofs.Ytaepibmmpdfjcaa.GoC.CurIs w' bc0 g0 Ac0 cc0 t_ ∧ w.grownBy w' (Value.slice (some ⟨g0, 0, none⟩) 1 1).ownBlock) := by
  have HB := Lib.hid (Aid.grown_refl w (Value.slice (some ⟨g0, 0, none⟩) 1 1).ownBlock)
  unfold P at H
  have L0 : bc0 ≤ w.heap.size := by have := Go.Proofs.Ytaepibmmpdfjcaa.GoC.cur_lt K0.out; omega
  go_enter Try.func59, Try.ntmps59
  replace H := let_hid H
  obtain ⟨t_2, ht_2, H⟩ := H
  cases t_2 with
  | false =>
    replace H := ite_f H
    replace H := bind2_hid H
    obtain ⟨t_5, t_5_tp, qt_5, H⟩ := H
    go_wp2_with fail
    go_at_call 92
    refine (Go.Proofs.Ytaepibmmpdfjcaa.GsL1CurNext.C (c) (g0) (Ac0) (cc0) (bc0) _   K0 qt_5).mono ?_
    rintro e_t_5 wt_5 ⟨rfl, kt_5, gt_5⟩
    have Kt_5 := Lib.hid kt_5
    have Gt_5 : Hid (w.grownBy wt_5 (Value.slice (some ⟨g0, 0, none⟩) 1 1).ownBlock) := Lib.hid gt_5
    clear kt_5 gt_5
    have HBwt_5 := Lib.hid (Aid.grown_tr HB.out Gt_5.out)
    clear K0 Gt_5
    replace H := let_hid H
    obtain ⟨t_8, ht_8, H⟩ := H
    cases t_8 with
    | false =>
      replace H := ite_f H
      unfold j0 at H
      replace H := unp2_hid H
      replace H := guard_hid H
      obtain ⟨hz_t_17, H⟩ := H
      replace H := let_hid H
      obtain ⟨t_17, ht_17, H⟩ := H
      cases ret_hid H
      go_wp2_with fail
      go_ret
      exact ⟨rfl, Kt_5.out, HBwt_5.out⟩
    | true =>
      replace H := ite_t H
      replace H := let_hid H
      obtain ⟨t_10, ht_10, H⟩ := H
      replace H := bind2_hid H
      obtain ⟨t_12, t_12_tp, qt_12, H⟩ := H
      go_wp2_with fail
      go_at_call 92
      refine (Go.Proofs.Ytaepibmmpdfjcaa.GsL1CurNext.C (t_5_tp) (g0) (Ac0) (cc0) (bc0) _   Kt_5 qt_12).mono ?_
      rintro e_t_12 wt_12 ⟨rfl, kt_12, gt_12⟩
      have Kt_12 := Lib.hid kt_12
      have Gt_12 : Hid (wt_5.grownBy wt_12 (Value.slice (some ⟨g0, 0, none⟩) 1 1).ownBlock) := Lib.hid gt_12
      clear kt_12 gt_12
      have HBwt_12 := Lib.hid (Aid.grown_tr HBwt_5.out Gt_12.out)
      clear Kt_5 Gt_12
      replace H := let_hid H
      obtain ⟨t_13, ht_13, H⟩ := H
      unfold j0 at H
      replace H := unp2_hid H
      replace H := guard_hid H
      obtain ⟨hz_t_17, H⟩ := H
      replace H := let_hid H
      obtain ⟨t_17, ht_17, H⟩ := H
      cases ret_hid H
      go_wp2_with fail
      go_ret
      exact ⟨rfl, Kt_12.out, HBwt_12.out⟩
  | true =>
    replace H := ite_t H
    cases ret_hid H
    go_wp2_with fail
    go_ret
    exact ⟨rfl, K0.out, HB.out⟩
end Go.Proofs.Ytaepibmmpdfjcaa.GsL1CurPick

/- loop.example/g01062/spec.l4Blank as a plain function, and the contract of the program's: where the plain one has an answer, the program has it. Conditions: slices read as lists. -/
namespace Go.Proofs.Ytaepibmmpdfjcaa.GsL4Blank
set_option linter.unusedVariables false
set_option linter.unusedSimpArgs false
open Go.RowKit
open Go.Proofs.Ytaepibmmpdfjcaa.Rowed Go.Proofs.Ytaepibmmpdfjcaa.Turn Go.Proofs.Ytaepibmmpdfjcaa.Aid Go.Proofs.Ytaepibmmpdfjcaa.GoP Go.Proofs.Ytaepibmmpdfjcaa.GoM

def l0 (cols : Int) (s : ByteArray × Int) (nx0 bk0 : ByteArray × Int → Option ((List ByteArray))) : Option ((List ByteArray)) :=
  unp2 s fun s_5l0 k_6l0 =>
  letK (decide (k_6l0 < cols)) fun (t_5 : Bool) =>
  iteK t_5
  (guardK (s_5l0.size + (⟨#[46]⟩ : ByteArray).size ≤ maxLen) <|
  letK (s_5l0 ++ (⟨#[46]⟩ : ByteArray)) fun (t_7 : ByteArray) =>
  letK (IntKind.i64.wrap (k_6l0 + 1)) fun (t_10 : Int) =>
  appK nx0 (t_7, t_10))
  (appK bk0 (s_5l0, k_6l0))

def l1 (rows : Int) (s_5l0 : ByteArray) (s : (List ByteArray) × Int) (nx1 bk1 : (List ByteArray) × Int → Option ((List ByteArray))) : Option ((List ByteArray)) :=
  unp2 s fun out_7l1 i_8l1 =>
  letK (decide (i_8l1 < rows)) fun (t_17 : Bool) =>
  iteK t_17
  (guardK (out_7l1.length ≤ 1099511627776) <|
  letK (out_7l1 ++ [s_5l0]) fun (t_21 : (List ByteArray)) =>
  letK (IntKind.i64.wrap (i_8l1 + 1)) fun (t_24 : Int) =>
  appK nx1 (t_21, t_24))
  (appK bk1 (out_7l1, i_8l1))

def e1  (s : (List ByteArray) × Int) : Option ((List ByteArray)) :=
  unp2 s fun out_7l1 i_8l1 =>
  some out_7l1

def e0 (rows : Int) (fuel : Nat) (s : ByteArray × Int) : Option ((List ByteArray)) :=
  unp2 s fun s_5l0 k_6l0 =>
  loopK (l1 rows s_5l0) fuel (([] : List ByteArray), 0) (e1 )

def P (fuel : Nat) (rows : Int) (cols : Int) : Option ((List ByteArray)) :=
  loopK (l0 cols) fuel ((⟨#[]⟩ : ByteArray), 0) (e0 rows fuel)

set_option maxRecDepth 100000 in
set_option maxHeartbeats 2000000 in
theorem C (fuel : Nat) (rows : Int) (cols : Int)   (w : World)   {r : (List ByteArray)} (H : Hid (P fuel rows cols = some r)) :
    Calls Try.prog 86 #[.int .i64 rows, .int .i64 cols] w (fun e w' => ∃ A_r c_r, e = .returned (.slice A_r r.length c_r) ∧ w'.ownsRow w.heap.size 9 1 (.slice A_r r.length c_r) r.length (r.map Value.string) ∧ Below w.heap.size w w') := by
  have HB := Lib.hid (Below.refl w.heap.size w)
  unfold P at H
  obtain ⟨i0_9, hi_9, hz0_9, hz1_9, hz2_9⟩ := Aid.info_parts (P := Try.prog) (T := 9) (z := .string ByteArray.empty) (s := 1) (b := 16) (by kernel_rfl)
  go_enter Try.func86, Try.ntmps86
  go_wp2_with fail
  go_loopg [5, 6] (fuel) (fun m_ v5_ v6_ wr => ∃ (s_5l0 : ByteArray) (k_6l0 : Int), v5_ = .string s_5l0 ∧ v6_ = .int .i64 k_6l0 ∧ Hid (loopK (l0 cols) m_ (s_5l0, k_6l0) (e0 rows fuel) = some r) ∧ Hid (Below w.heap.size w wr))
  case atStart => exact ⟨_, _, rfl, rfl, H, HB⟩
  case round =>
    obtain ⟨s_5l0, k_6l0, rfl, rfl, H, HBwr0⟩ := hrel
    rename World => wr0
    cases gk with
    | zero => exact (loop_zero H).elim
    | succ m0 =>
      replace H := loop_succ H
      unfold l0 at H
      replace H := unp2_hid H
      replace H := let_hid H
      obtain ⟨t_5, ht_5, H⟩ := H
      cases t_5 with
      | false =>
        replace H := ite_f H
        replace H := app_hid H
        unfold e0 at H
        replace H := unp2_hid H
        obtain ⟨w_t_12, hw_t_12⟩ : ∃ x, wr0.alloc (.cells #[] 9) = x := ⟨_, rfl⟩
        have bw_t_12 : Below wr0.heap.size wr0 w_t_12 := by rw [← hw_t_12]; exact (Below.refl _ _).alloc (Nat.le_refl _) _
        have Ot_12 : Hid (w_t_12.ownsRow w.heap.size 9 1 (.slice (some ⟨wr0.heap.size, 0, none⟩) 0 0) 0 []) := Lib.hid (by rw [← hw_t_12]; exact own_empty HBwr0.out.size)
        have HBw_t_12 := Lib.hid (Below.step HBwr0.out bw_t_12)
        clear bw_t_12
        go_wp2_with fail
        go_loopg [7, 8] (fuel) (fun m_ v7_ v8_ wr => ∃ (out_7l1 : (List ByteArray)) (i_8l1 : Int) (Aout_7l1 : Option Addr) (cout_7l1 : Nat), v7_ = .slice Aout_7l1 out_7l1.length cout_7l1 ∧ v8_ = .int .i64 i_8l1 ∧ Hid (loopK (l1 rows s_5l0) m_ (out_7l1, i_8l1) (e1 ) = some r) ∧ Hid (Below w.heap.size w wr) ∧ Hid (wr.ownsRow w.heap.size 9 1 (.slice Aout_7l1 out_7l1.length cout_7l1) out_7l1.length (out_7l1.map Value.string)))
        case atStart => exact ⟨_, _, _, _, rfl, rfl, H, HBw_t_12, Ot_12⟩
        case round =>
          obtain ⟨out_7l1, i_8l1, Aout_7l1, cout_7l1, rfl, rfl, H, HBwr1, Oout_7l1⟩ := hrel
          rename World => wr1
          cases gk with
          | zero => exact (loop_zero H).elim
          | succ m1 =>
            replace H := loop_succ H
            unfold l1 at H
            replace H := unp2_hid H
            replace H := let_hid H
            obtain ⟨t_17, ht_17, H⟩ := H
            cases t_17 with
            | false =>
              replace H := ite_f H
              replace H := app_hid H
              unfold e1 at H
              replace H := unp2_hid H
              obtain rfl := ret_hid H
              go_wp2_with fail
              go_ret
              exact ⟨Aout_7l1, cout_7l1, rfl, Oout_7l1.out, HBwr1.out⟩
            | true =>
              replace H := ite_t H
              obtain ⟨w_t_20, hw_t_20⟩ : ∃ x, wr1.alloc (.cells #[.string s_5l0] 9) = x := ⟨_, rfl⟩
              have bw_t_20 : Below wr1.heap.size wr1 w_t_20 := by rw [← hw_t_20]; exact (Below.refl _ _).alloc (Nat.le_refl _) _
              have HBw_t_20 := Lib.hid (Below.step HBwr1.out bw_t_20)
              replace Oout_7l1 := Lib.hid (own_below Oout_7l1.out bw_t_20)
              clear bw_t_20
              replace H := guard_hid H
              obtain ⟨hlt_21, H⟩ := H
              replace H := let_hid H
              obtain ⟨t_21, ht_21, H⟩ := H
              have hht_21 := Lib.hid ht_21
              clear ht_21
              have hst_21 := HBw_t_20.out.size
              go_wp2_with (at_builtin; refine wpList_append_own_at _ rfl _ _ 24 rfl w.heap.size 9 i0_9 (.string ByteArray.empty) 1 16 Try.underlying24 hi_9 hz0_9 hz1_9 hz2_9 rfl (by decide) _ _ _ rfl Oout_7l1.out ⟨wr1.heap.size, 0, none⟩ 1 1 [.string s_5l0] rfl rfl (news_new hw_t_20) (one_cells rfl) (by unfold maxLen; omega) (by omega) hst_21 ?_; intro vt_21 wt_21 ot_21 gt_21 zt_21 yt_21; clear zt_21; obtain ⟨qt_21, ct_21, rfl, pt_21⟩ := own_push hht_21.out (by simp) rfl ot_21; have Pt_21 := Lib.hid pt_21; have Yt_21 := Lib.hid yt_21; have Gt_21 := Lib.hid gt_21; clear ot_21 gt_21 pt_21 yt_21; refine stop_in ?_)
              refine stop_out ?_
              have HBwt_21 := Lib.hid (HBw_t_20.out.grown Gt_21.out hst_21 (fun q hq => (Oout_7l1.out.lt q hq).1))
              clear hst_21
              clear Oout_7l1 Yt_21 Gt_21
              replace H := let_hid H
              obtain ⟨t_24, ht_24, H⟩ := H
              replace H := app_hid H
              go_wp2_with fail
              go_roundg m1
              case measure => omega
              case rel => exact ⟨_, _, _, _, rfl, rfl, H, HBwt_21, Pt_21⟩
      | true =>
        replace H := ite_t H
        replace H := guard_hid H
        obtain ⟨hl_t_7, H⟩ := H
        replace H := let_hid H
        obtain ⟨t_7, ht_7, H⟩ := H
        have ct_7 := cat_rule (P := Try.prog) ht_7 hl_t_7
        clear hl_t_7
        have hht_7 := Lib.hid ht_7
        clear ht_7
        replace H := let_hid H
        obtain ⟨t_10, ht_10, H⟩ := H
        replace H := app_hid H
        go_wp2_with fail
        go_roundg m0
        case measure => omega
        case rel => exact ⟨_, _, rfl, rfl, H, HBwr0⟩
end Go.Proofs.Ytaepibmmpdfjcaa.GsL4Blank

/- (*loop.example/g01062/spec.l1Cur).of as a plain function, and the contract of the program's: where the plain one has an answer, the program has it. Conditions: slices read as lists. -/
namespace Go.Proofs.Ytaepibmmpdfjcaa.GsL1CurOf
set_option linter.unusedVariables false
set_option linter.unusedSimpArgs false
open Go.RowKit
open Go.Proofs.Ytaepibmmpdfjcaa.Rowed Go.Proofs.Ytaepibmmpdfjcaa.Turn Go.Proofs.Ytaepibmmpdfjcaa.Aid Go.Proofs.Ytaepibmmpdfjcaa.GoP Go.Proofs.Ytaepibmmpdfjcaa.GoM

def P (c : Go.Proofs.Ytaepibmmpdfjcaa.GoC.Tape) (list : (List ByteArray)) : Option (ByteArray × Go.Proofs.Ytaepibmmpdfjcaa.GoC.Tape) :=
  bind2 (Go.Proofs.Ytaepibmmpdfjcaa.GsL1CurPick.P c (list.length : Int)) fun (t_5 : Int) (t_5_tp : Go.Proofs.Ytaepibmmpdfjcaa.GoC.Tape) =>
  Option.bind (idx list t_5) fun (yt_6 : ByteArray) =>
  some (yt_6, t_5_tp)

set_option maxRecDepth 100000 in
set_option maxHeartbeats 2000000 in
theorem C (c : Go.Proofs.Ytaepibmmpdfjcaa.GoC.Tape) (list : (List ByteArray)) (A1 : Option Addr) (c1 : Nat)  (g0 : Nat) (Ac0 : Option Addr) (cc0 : Nat) (bc0 : Nat) (w : World) (M1 : Hid (Cells w 1 A1 list.length (list.map Value.string))) (N1 : Hid (list.length ≤ 9223372036854775807))  (K0 : Hid (Go.Proofs.Ytaepibmmpdfjcaa.GoC.CurIs w bc0 g0 Ac0 cc0 c)) (X1 : Hid (0 < list.length → Apart A1 (some ⟨g0, 0, none⟩))) {r : ByteArray} {t_ : Go.Proofs.Ytaepibmmpdfjcaa.GoC.Tape} (H : Hid (P c list = some (r, t_))) :
    Calls Try.prog 87 #[.pointer (some ⟨g0, 0, none⟩), .slice A1 list.length c1] w (fun e w' => e = .returned (.string r) ∧ Go.Proofs.Ytaepibmmpdfjcaa.GoC.CurIs w' bc0 g0 Ac0 cc0 t_ ∧ w.grownBy w' (Value.slice (some ⟨g0, 0, none⟩) 1 1).ownBlock) := by
  have HB := Lib.hid (Aid.grown_refl w (Value.slice (some ⟨g0, 0, none⟩) 1 1).ownBlock)
  unfold P at H
  have N1o := N1.out
  have L0 : bc0 ≤ w.heap.size := by have := Go.Proofs.Ytaepibmmpdfjcaa.GoC.cur_lt K0.out; omega
  go_enter Try.func87, Try.ntmps87
  replace H := bind2_hid H
  obtain ⟨t_5, t_5_tp, qt_5, H⟩ := H
  go_wp2_with fail
  go_at_call 59
  refine (Go.Proofs.Ytaepibmmpdfjcaa.GsL1CurPick.C (c) ((list.length : Int)) (g0) (Ac0) (cc0) (bc0) _   K0 qt_5).mono ?_
  rintro e_t_5 wt_5 ⟨rfl, kt_5, gt_5⟩
  have Kt_5 := Lib.hid kt_5
  have Gt_5 : Hid (w.grownBy wt_5 (Value.slice (some ⟨g0, 0, none⟩) 1 1).ownBlock) := Lib.hid gt_5
  clear kt_5 gt_5
  have HBwt_5 := Lib.hid (Aid.grown_tr HB.out Gt_5.out)
  clear K0 Gt_5
  replace H := idx_hid H
  obtain ⟨nt_6, yt_6, et_6, lt_6, gt_6, H⟩ := H
  subst et_6
  obtain ⟨ab_t_6, ao_t_6, zt_6, At_6, z_t_6, ct_6_0⟩ := strs_at M1.out lt_6
  obtain rfl := Option.some.inj (gt_6.out.symm.trans z_t_6)
  subst At_6
  have ltt_6 := cell_lt ct_6_0
  replace ct_6_0 := cell_other ct_6_0 HBwt_5.out (Go.Proofs.Ytaepibmmpdfjcaa.GoC.apart_x X1.out (by omega))
  clear z_t_6
  have b0t_6 : (0 : Int) ≤ (nt_6 : Int) := by omega
  have b1t_6 : (nt_6 : Int) < ((list.length : Nat) : Int) := by omega
  have b2t_6 : ((nt_6 : Int)).toNat = nt_6 := by omega
  cases ret_hid H
  go_wp2_with fail
  go_ret
  exact ⟨rfl, Kt_5.out, HBwt_5.out⟩
end Go.Proofs.Ytaepibmmpdfjcaa.GsL1CurOf

