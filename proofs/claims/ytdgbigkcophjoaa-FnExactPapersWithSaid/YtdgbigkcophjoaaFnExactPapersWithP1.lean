/- The texts on which the proof of FnExactPapersWith stands, one behind the other (1 of 3). No condition of their own. -/
import Derived.Lib.Hide
import Derived.Below
import Derived.Laws.OwnMore
import Derived.Laws.World
import Derived.Deep.Draws
import Derived.Lib.QuietBelow
import Derived.Lib.Strings
import Derived.OwnWalk
import Derived.Laws.Strings3
import Derived.Laws.AppendOwnNone
import Derived.Laws.DeepStrings4
import Derived.Laws.Slices
import Derived.Deep.Slices
import Derived.Laws.MakeOwn
import Derived.Maps.AppendAt
import Derived.Lib.LaidU8
import Derived.WalkKit
import Derived.WalkSpells
import Derived.Test.YtdgbigkcophjoaaChecked
import Derived.Lib.SmallJoins
import Derived.Deep.Fields
import Derived.ChangeSame
import Derived.WalkLawsBesides
import Derived.BigQuiet
import Derived.Deep.LoopGhost
import Derived.Deep.QuietTactic
import Derived.IntWalk
import Derived.Outline
/- Words in which a Go function is written as a plain function that either has an answer or has none (a panic, or a loop that does not end in time); and how such a sentence is taken apart. No condition. -/
namespace Go.Proofs.Ytdgbigkcophjoaa.GoP
set_option linter.unusedVariables false
open Go.RowKit

def idx {α : Type} (l : List α) (i : Int) : Option α := if 0 ≤ i then l[i.toNat]? else none
def letK {α ρ : Type} (x : α) (f : α → Option ρ) : Option ρ := f x
def iteK {ρ : Type} (c : Bool) (a b : Option ρ) : Option ρ := match c with | true => a | false => b
def joinK {γ : Type} {ρ : Type} (rest : γ) (f : γ → Option ρ) : Option ρ := f rest
def appK {α ρ : Type} (j : α → Option ρ) (x : α) : Option ρ := j x
def guardK {ρ : Type} (p : Prop) [Decidable p] (a : Option ρ) : Option ρ := if p then a else none
def bind2 {α β ρ : Type} (x : Option (α × β)) (f : α → β → Option ρ) : Option ρ := match x with | none => none | some (a, b) => f a b
def bind3 {α β γ ρ : Type} (x : Option (α × β × γ)) (f : α → β → γ → Option ρ) : Option ρ := match x with | none => none | some (a, b, c) => f a b c
def bind4 {α β γ δ ρ : Type} (x : Option (α × β × γ × δ)) (f : α → β → γ → δ → Option ρ) : Option ρ := match x with | none => none | some (a, b, c, d) => f a b c d
def unp2 {α β ρ : Type} (s : α × β) (f : α → β → Option ρ) : Option ρ := f s.1 s.2
def unp3 {α β γ ρ : Type} (s : α × β × γ) (f : α → β → γ → Option ρ) : Option ρ := f s.1 s.2.1 s.2.2
def unp4 {α β γ δ ρ : Type} (s : α × β × γ × δ) (f : α → β → γ → δ → Option ρ) : Option ρ := f s.1 s.2.1 s.2.2.1 s.2.2.2
/-- m rounds, counted from k on -/
def cntK {σ ρ : Type} (f : Nat → σ → (σ → Option ρ) → (σ → Option ρ) → Option ρ) : Nat → Nat → σ → (σ → Option ρ) → Option ρ
  | 0, _, s, fin => fin s
  | m + 1, k, s, fin => f k s (fun s' => cntK f m (k + 1) s' fin) fin
/-- rounds until one ends the loop, n at most -/
def loopK {σ ρ : Type} (f : σ → (σ → Option ρ) → (σ → Option ρ) → Option ρ) : Nat → σ → (σ → Option ρ) → Option ρ
  | 0, _, _ => none
  | n + 1, s, fin => f s (fun s' => loopK f n s' fin) fin

theorem let_hid {α ρ : Type} {x : α} {f : α → Option ρ} {r : ρ} (H : Hid (letK x f = some r)) : ∃ y, x = y ∧ Hid (f y = some r) := ⟨x, rfl, H⟩
theorem bind_hid {α ρ : Type} {x : Option α} {f : α → Option ρ} {r : ρ} (H : Hid (x.bind f = some r)) : ∃ y, Hid (x = some y) ∧ Hid (f y = some r) := by
  have h : x.bind f = some r := H
  cases x with
  | none => simp at h
  | some y => exact ⟨y, rfl, h⟩
theorem bind2_hid {α β ρ : Type} {x : Option (α × β)} {f : α → β → Option ρ} {r : ρ} (H : Hid (bind2 x f = some r)) : ∃ a b, Hid (x = some (a, b)) ∧ Hid (f a b = some r) := by
  have h : bind2 x f = some r := H
  cases x with
  | none => simp [bind2] at h
  | some y => exact ⟨y.1, y.2, rfl, h⟩
theorem bind3_hid {α β γ ρ : Type} {x : Option (α × β × γ)} {f : α → β → γ → Option ρ} {r : ρ} (H : Hid (bind3 x f = some r)) : ∃ a b c, Hid (x = some (a, b, c)) ∧ Hid (f a b c = some r) := by
  have h : bind3 x f = some r := H
  cases x with
  | none => simp [bind3] at h
  | some y => exact ⟨y.1, y.2.1, y.2.2, rfl, h⟩
theorem bind4_hid {α β γ δ ρ : Type} {x : Option (α × β × γ × δ)} {f : α → β → γ → δ → Option ρ} {r : ρ} (H : Hid (bind4 x f = some r)) : ∃ a b c d, Hid (x = some (a, b, c, d)) ∧ Hid (f a b c d = some r) := by
  have h : bind4 x f = some r := H
  cases x with
  | none => simp [bind4] at h
  | some y => exact ⟨y.1, y.2.1, y.2.2.1, y.2.2.2, rfl, h⟩
theorem ite_t {ρ : Type} {a b : Option ρ} {r : ρ} (H : Hid (iteK true a b = some r)) : Hid (a = some r) := H
theorem ite_f {ρ : Type} {a b : Option ρ} {r : ρ} (H : Hid (iteK false a b = some r)) : Hid (b = some r) := H
theorem join_hid {γ ρ : Type} {j : γ} {f : γ → Option ρ} {r : ρ} (H : Hid (joinK j f = some r)) : Hid (f j = some r) := H
theorem app_hid {α ρ : Type} {j : α → Option ρ} {x : α} {r : ρ} (H : Hid (appK j x = some r)) : Hid (j x = some r) := H
theorem guard_hid {ρ : Type} {p : Prop} [Decidable p] {a : Option ρ} {r : ρ} (H : Hid (guardK p a = some r)) : p ∧ Hid (a = some r) := by
  have h : guardK p a = some r := H
  unfold guardK at h
  by_cases hp : p
  · rw [if_pos hp] at h; exact ⟨hp, h⟩
  · rw [if_neg hp] at h; simp at h
theorem unp2_hid {α β ρ : Type} {a : α} {b : β} {f : α → β → Option ρ} {r : ρ} (H : Hid (unp2 (a, b) f = some r)) : Hid (f a b = some r) := H
theorem unp3_hid {α β γ ρ : Type} {a : α} {b : β} {c : γ} {f : α → β → γ → Option ρ} {r : ρ} (H : Hid (unp3 (a, b, c) f = some r)) : Hid (f a b c = some r) := H
theorem unp4_hid {α β γ δ ρ : Type} {a : α} {b : β} {c : γ} {d : δ} {f : α → β → γ → δ → Option ρ} {r : ρ} (H : Hid (unp4 (a, b, c, d) f = some r)) : Hid (f a b c d = some r) := H
theorem cnt_zero {σ ρ : Type} {f : Nat → σ → (σ → Option ρ) → (σ → Option ρ) → Option ρ} {k : Nat} {s : σ} {fin : σ → Option ρ} {r : ρ} (H : Hid (cntK f 0 k s fin = some r)) : Hid (fin s = some r) := H
theorem cnt_succ {σ ρ : Type} {f : Nat → σ → (σ → Option ρ) → (σ → Option ρ) → Option ρ} {m k : Nat} {s : σ} {fin : σ → Option ρ} {r : ρ} (H : Hid (cntK f (m + 1) k s fin = some r)) :
    Hid (f k s (fun s' => cntK f m (k + 1) s' fin) fin = some r) := H
theorem loop_zero {σ ρ : Type} {f : σ → (σ → Option ρ) → (σ → Option ρ) → Option ρ} {s : σ} {fin : σ → Option ρ} {r : ρ} (H : Hid (loopK f 0 s fin = some r)) : False := by
  have h : loopK f 0 s fin = some r := H
  simp [loopK] at h
theorem loop_succ {σ ρ : Type} {f : σ → (σ → Option ρ) → (σ → Option ρ) → Option ρ} {n : Nat} {s : σ} {fin : σ → Option ρ} {r : ρ} (H : Hid (loopK f (n + 1) s fin = some r)) :
    Hid (f s (fun s' => loopK f n s' fin) fin = some r) := H
theorem ret_hid {ρ : Type} {v r : ρ} (H : Hid (some v = some r)) : v = r := Option.some.inj H
theorem none_hid {ρ : Type} {r : ρ} (H : Hid ((none : Option ρ) = some r)) : False := by
  have h : (none : Option ρ) = some r := H
  simp at h
theorem idx_hid {α ρ : Type} {l : List α} {i : Int} {f : α → Option ρ} {r : ρ} (H : Hid ((idx l i).bind f = some r)) :
    ∃ (k : Nat) (x : α), i = (k : Int) ∧ k < l.length ∧ Hid (l[k]? = some x) ∧ Hid (f x = some r) := by
  have h : (idx l i).bind f = some r := H
  unfold idx at h
  by_cases hi : 0 ≤ i
  · rw [if_pos hi] at h
    cases hx : l[i.toNat]? with
    | none => rw [hx] at h; simp at h
    | some x =>
      rw [hx] at h
      exact ⟨i.toNat, x, (Int.toNat_of_nonneg hi).symm, (List.getElem?_eq_some_iff.1 hx).1, hx, h⟩
  · rw [if_neg hi] at h; simp at h
theorem idx_nat {α : Type} (l : List α) (k : Nat) : idx l (k : Int) = l[k]? := by unfold idx; rw [if_pos (by omega)]; simp
end Go.Proofs.Ytdgbigkcophjoaa.GoP

/- Words for a slice that reads as a list of values, nil and empty let in; for slices of strings; and what becomes of them in later worlds. No condition. -/
namespace Go.Proofs.Ytdgbigkcophjoaa.Rowed
set_option linter.unusedVariables false
open Go.RowKit

theorem add_block (a : Addr) (n : Nat) : (a.add n).block = a.block := by unfold Addr.add; split <;> rfl
theorem cell_lt {w : World} {a : Addr} {v : Value} (h : w.cell? a = some v) : a.block < w.heap.size := World.block_lt_of_cell? w a h
theorem cell_below {w w' : World} (hb : Below w.heap.size w w') {a : Addr} {v : Value} (hc : w.cell? a = some v) : w'.cell? a = some v := (hb.cell (cell_lt hc)).trans hc
theorem below_drewN (w : World) (m : Nat) : Below w.heap.size w (w.drewN m) := ⟨rfl, rfl, rfl, Nat.le_refl _, fun _ _ => rfl⟩
theorem Below.step {a b c : World} (h : Below a.heap.size a b) (k : Below b.heap.size b c) : Below a.heap.size a c := h.trans (k.mono h.size)

/-- the world has drawn, and nothing else has turned -/
def DrawnTo (w w' : World) : Prop := ∃ m, w' = w.drewN m
theorem DrawnTo.refl (w : World) : DrawnTo w w := ⟨0, rfl⟩
theorem DrawnTo.more {w w' : World} (h : DrawnTo w w') (n : Nat) : DrawnTo w (w'.drewN n) := let ⟨m, e⟩ := h; ⟨m + n, by rw [e, World.drewN_drewN]⟩
theorem DrawnTo.trans {a b c : World} (h : DrawnTo a b) (k : DrawnTo b c) : DrawnTo a c := by
  obtain ⟨m, rfl⟩ := h
  obtain ⟨n, rfl⟩ := k
  exact ⟨m + n, World.drewN_drewN ..⟩
theorem DrawnTo.cell {w w' : World} (h : DrawnTo w w') {a : Addr} {v : Value} (hc : w.cell? a = some v) : w'.cell? a = some v := by
  obtain ⟨m, rfl⟩ := h; exact hc
theorem DrawnTo.below {w w' : World} (h : DrawnTo w w') : Below w.heap.size w w' := by
  obtain ⟨m, rfl⟩ := h; exact below_drewN w m

/-- the slice 'A, n' reads as the cells xs (size cells each element) -/
def Cells (w : World) (size : Nat) (A : Option Addr) (n : Nat) (xs : List Value) : Prop :=
  xs.length = n * size ∧ (0 < xs.length → ∃ ad : Addr, A = some ad ∧ ∀ j u, xs[j]? = some u → w.cell? (ad.add j) = some u)

theorem Cells.below {w w' : World} {size n : Nat} {A : Option Addr} {xs : List Value} (h : Cells w size A n xs) (hb : Below w.heap.size w w') : Cells w' size A n xs :=
  ⟨h.1, fun hn => let ⟨ad, e, hc⟩ := h.2 hn; ⟨ad, e, fun j u hu => cell_below hb (hc j u hu)⟩⟩
theorem Cells.drewN {w : World} {size n : Nat} {A : Option Addr} {xs : List Value} (h : Cells w size A n xs) (m : Nat) : Cells (w.drewN m) size A n xs := h
theorem Cells.nil_ (w : World) (size : Nat) (A : Option Addr) : Cells w size A 0 [] := ⟨by simp, fun h => by simp at h⟩
theorem Cells.at_ {w : World} {n k : Nat} {A : Option Addr} {xs : List Value} (h : Cells w 1 A n xs) (hk : k < n) : ∃ ad u, A = some ad ∧ xs[k]? = some u ∧ w.cell? (ad.add k) = some u := by
  have hl : k < xs.length := by have := h.1; omega
  obtain ⟨ad, e, hc⟩ := h.2 (by omega)
  exact ⟨ad, xs[k], e, List.getElem?_eq_getElem hl, hc k _ (List.getElem?_eq_getElem hl)⟩
theorem Cells.of_own {w : World} {base size n c g : Nat} {e : TypeId} {xs : List Value} (h : w.ownsRow base e size (.slice (some ⟨g, 0, none⟩) n c) n xs) : Cells w size (some ⟨g, 0, none⟩) n xs :=
  ⟨h.1, fun _ => ⟨_, rfl, fun j u hu => h.cells (g := g) rfl j u hu⟩⟩

/-- a row that is filled from the left -/
def fill (a ys : List Value) (k : Nat) : List Value := a.take k ++ ys.drop k
theorem fill_zero (a ys : List Value) : fill a ys 0 = ys := by simp [fill]
theorem fill_all (a ys : List Value) (h : ys.length = a.length) : fill a ys a.length = a := by
  unfold fill; rw [List.take_of_length_le (Nat.le_refl _), ← h, List.drop_of_length_le (Nat.le_refl _), List.append_nil]
theorem fill_set (a ys : List Value) (k : Nat) (u : Value) (hk : k < ys.length) (hu : a[k]? = some u) : (fill a ys k).set k u = fill a ys (k + 1) := by
  have ha := (List.getElem?_eq_some_iff.1 hu).1
  have hau := (List.getElem?_eq_some_iff.1 hu).2
  unfold fill
  have hl : (a.take k).length = k := by rw [List.length_take]; omega
  rw [List.set_append_right _ _ (by omega), hl, Nat.sub_self, List.take_succ_eq_append_getElem ha, hau, List.drop_eq_getElem_cons hk, List.set_cons_zero, List.append_assoc]
  rfl
theorem fill_len (a ys : List Value) (k : Nat) (h : ys.length = a.length) : (fill a ys k).length = ys.length := by
  unfold fill; rw [List.length_append, List.length_take, List.length_drop]; omega

/-- the slice 'A, n' reads as the strings l -/
def Strs (w : World) (A : Option Addr) (n : Nat) (l : List ByteArray) : Prop := Cells w 1 A n (l.map Value.string)
theorem Strs.len {w : World} {A : Option Addr} {n : Nat} {l : List ByteArray} (h : Strs w A n l) : l.length = n := by have := h.1; simpa using this
theorem Strs.below {w w' : World} {A : Option Addr} {n : Nat} {l : List ByteArray} (h : Strs w A n l) (hb : Below w.heap.size w w') : Strs w' A n l := Cells.below h hb
theorem Strs.at_ {w : World} {A : Option Addr} {n k : Nat} {l : List ByteArray} (h : Strs w A n l) (hk : k < n) : ∃ ad x, A = some ad ∧ l[k]? = some x ∧ w.cell? (ad.add k) = some (.string x) := by
  obtain ⟨ad, u, e, hx, hc⟩ := Cells.at_ h hk
  rw [List.getElem?_map] at hx
  cases hl : l[k]? with
  | none => rw [hl] at hx; simp at hx
  | some x => rw [hl] at hx; obtain rfl : Value.string x = u := by simpa using hx
              exact ⟨ad, x, e, rfl, hc⟩

end Go.Proofs.Ytdgbigkcophjoaa.Rowed

/- Words on what may turn between two worlds: only the blocks of one span; and on rows that lie in a span of blocks, read or owned. No condition. -/
namespace Go.Proofs.Ytdgbigkcophjoaa.Turn
set_option linter.unusedVariables false
open Go.RowKit
open Go.Proofs.Ytdgbigkcophjoaa.Rowed

/-- of what was there, only blocks from lo on and below hi may have turned -/
structure Turned (lo hi : Nat) (w w' : World) : Prop where
  os : w'.os = w.os
  tape : w'.tape = w.tape
  output : w'.output = w.output
  size : w.heap.size ≤ w'.heap.size
  block : ∀ k, k < w.heap.size → ¬ (lo ≤ k ∧ k < hi) → w'.heap[k]? = w.heap[k]?
theorem Turned.of_grown {w w' : World} {lo hi : Nat} {r : Option Nat} (h : w.grownBy w' r) (hr : ∀ k, r = some k → lo ≤ k ∧ k < hi) : Turned lo hi w w' :=
  ⟨h.os, h.tape, h.output, h.size, fun k hk hn => h.block k hk (fun e => hn (hr k e.symm))⟩
theorem below_turned {w wr w' : World} {lo hi : Nat} (h : Below w.heap.size w wr) (t : Turned lo hi wr w') (hl : w.heap.size ≤ lo) : Below w.heap.size w w' :=
  ⟨t.os.trans h.os, t.tape.trans h.tape, t.output.trans h.output, Nat.le_trans h.size t.size, fun k hk => (t.block k (Nat.lt_of_lt_of_le hk h.size) (by omega)).trans (h.block k hk)⟩

/-- the slice 'A, n' reads as the cells xs, and they lie in blocks from lo on and below hi -/
structure Rd (w : World) (size lo hi : Nat) (A : Option Addr) (n : Nat) (xs : List Value) : Prop where
  cells : Cells w size A n xs
  span : ∀ ad, A = some ad → 0 < xs.length → lo ≤ ad.block ∧ ad.block < hi
  top : hi ≤ w.heap.size
theorem Rd.below {w w' : World} {size lo hi n : Nat} {A : Option Addr} {xs : List Value} (h : Rd w size lo hi A n xs) (hb : Below w.heap.size w w') : Rd w' size lo hi A n xs :=
  ⟨h.cells.below hb, h.span, Nat.le_trans h.top hb.size⟩
theorem Rd.turned {w w' : World} {size lo hi a b n : Nat} {A : Option Addr} {xs : List Value} (h : Rd w size lo hi A n xs) (t : Turned a b w w') (hd : hi ≤ a ∨ b ≤ lo) : Rd w' size lo hi A n xs :=
  ⟨⟨h.cells.1, fun hn => by
    obtain ⟨ad, e, hc⟩ := h.cells.2 hn
    have hs := h.span ad e hn
    have ht := h.top
    exact ⟨ad, e, fun j u hu => (World.cell?_of_block (by rw [add_block]; exact t.block _ (by omega) (by omega))).trans (hc j u hu)⟩⟩, h.span, Nat.le_trans h.top t.size⟩
/-- cells that came in -/
theorem Rd.came {w : World} {size n : Nat} {A : Option Addr} {xs : List Value} (h : Cells w size A n xs) : Rd w size 0 w.heap.size A n xs :=
  ⟨h, fun ad e hn => by
    obtain ⟨ad', e', hc⟩ := h.2 hn
    obtain rfl : ad = ad' := by rw [e] at e'; exact Option.some.inj e'
    have h0 := cell_lt (hc 0 _ (List.getElem?_eq_getElem hn))
    rw [add_block] at h0
    exact ⟨Nat.zero_le _, h0⟩, Nat.le_refl _⟩

/-- the slice 'A, n, c' is a row of the call's own with the cells xs, in a block from lo on and below hi -/
structure Ow (w : World) (T : TypeId) (size lo hi : Nat) (A : Option Addr) (n c : Nat) (xs : List Value) : Prop where
  own : w.ownsRow lo T size (.slice A n c) n xs
  span : ∀ q, (Value.slice A n c).ownBlock = some q → q < hi
  top : hi ≤ w.heap.size
theorem Ow.of {w : World} {T : TypeId} {size lo n c : Nat} {A : Option Addr} {xs : List Value} (h : w.ownsRow lo T size (.slice A n c) n xs) : Ow w T size lo w.heap.size A n c xs :=
  ⟨h, fun q hq => (h.lt q hq).2, Nat.le_refl _⟩
theorem Ow.kept {w w' : World} {T : TypeId} {size lo hi a b n c : Nat} {A : Option Addr} {xs : List Value} (h : Ow w T size lo hi A n c xs) (t : Turned a b w w') (hd : hi ≤ a ∨ b ≤ lo) : w'.ownsRow lo T size (.slice A n c) n xs := by
  refine ⟨h.own.1, ?_⟩
  rcases h.own.2 with h0 | ⟨g, cap, cur, hv, hb, hh, rest⟩
  · exact .inl h0
  · have hg : g < hi := h.span g (by rw [hv]; rfl)
    have ht := h.top
    exact .inr ⟨g, cap, cur, hv, hb, (t.block g (by omega) (by omega)).trans hh, rest⟩
theorem Ow.turned {w w' : World} {T : TypeId} {size lo hi a b n c : Nat} {A : Option Addr} {xs : List Value} (h : Ow w T size lo hi A n c xs) (t : Turned a b w w') (hd : hi ≤ a ∨ b ≤ lo) : Ow w' T size lo hi A n c xs :=
  ⟨h.kept t hd, h.span, Nat.le_trans h.top t.size⟩
theorem Turned.of_below {w w' : World} (h : Below w.heap.size w w') : Turned 0 0 w w' := ⟨h.os, h.tape, h.output, h.size, fun k hk _ => h.block k hk⟩
theorem Ow.below {w w' : World} {T : TypeId} {size lo hi n c : Nat} {A : Option Addr} {xs : List Value} (h : Ow w T size lo hi A n c xs) (hb : Below w.heap.size w w') : Ow w' T size lo hi A n c xs :=
  h.turned (Turned.of_below hb) (.inr (Nat.zero_le _))
theorem own_cells {w : World} {base n c size : Nat} {A : Option Addr} {e : TypeId} {xs : List Value} (h : w.ownsRow base e size (.slice A n c) n xs) : Cells w size A n xs := by
  rcases h.2 with ⟨hv, h0⟩ | ⟨g, cap, cur, hv, _⟩
  · subst h0
    have := h.1
    exact ⟨this, fun hn => by rw [Nat.zero_mul] at this; omega⟩
  · injection hv with e1 e2 e3
    subst e1
    exact Cells.of_own h
theorem Ow.cells {w : World} {T : TypeId} {size lo hi n c : Nat} {A : Option Addr} {xs : List Value} (h : Ow w T size lo hi A n c xs) : Cells w size A n xs := own_cells h.own
/-- what is read only -/
theorem Ow.rd {w : World} {T : TypeId} {size lo hi n c : Nat} {A : Option Addr} {xs : List Value} (h : Ow w T size lo hi A n c xs) : Rd w size lo hi A n xs :=
  ⟨h.cells, fun ad e hn => by
    rcases h.own.2 with ⟨hv, h0⟩ | ⟨g, cap, cur, hv, hb, _⟩
    · have := h.own.1
      rw [h0, Nat.zero_mul] at this
      omega
    · have hg : g < hi := h.span g (by rw [hv]; rfl)
      injection hv with e1 e2 e3
      subst e1
      obtain rfl := Option.some.inj e
      exact ⟨hb, hg⟩, h.top⟩
/-- a mark, or another writing of one row -/
theorem Ow.writes {w w' : World} {T : TypeId} {size lo hi n c : Nat} {A : Option Addr} {xs : List Value} (h : Ow w T size lo hi A n c xs) (hg : w.grownBy w' (Value.slice A n c).ownBlock) : Turned lo hi w w' :=
  Turned.of_grown hg (fun k hk => ⟨(h.own.lt k hk).1, h.span k hk⟩)
theorem Ow.written {w w' : World} {T : TypeId} {size lo hi n c : Nat} {A : Option Addr} {xs ys : List Value} (h : Ow w T size lo hi A n c xs) (hs : w.heap.size ≤ w'.heap.size) (ho : w'.ownsRow lo T size (.slice A n c) n ys) : Ow w' T size lo hi A n c ys :=
  ⟨ho, h.span, Nat.le_trans h.top hs⟩

/-- the answer has no memory, and nothing has turned -/
def Gives (v : Value) (w : World) (e : Ending) (w' : World) : Prop := e = .returned v ∧ Below w.heap.size w w'
end Go.Proofs.Ytdgbigkcophjoaa.Turn

/- Small words on types' facts, on classes of worlds, and on rows that are written. No condition. -/
namespace Go.Proofs.Ytdgbigkcophjoaa.Aid
set_option linter.unusedVariables false
open Go.RowKit
open Go.Proofs.Ytdgbigkcophjoaa.Rowed Go.Proofs.Ytdgbigkcophjoaa.Turn

theorem info_parts {P : Program} {T : TypeId} {z : Value} {s b : Nat} (h : (P.info? T).map (fun i => (i.zero, i.size, i.bytes)) = some (some z, s, b)) : ∃ i, P.info? T = some i ∧ i.zero = some z ∧ i.size = s ∧ i.bytes = b := by
  cases hi : P.info? T with
  | none => rw [hi] at h; simp at h
  | some i => rw [hi] at h; simp at h; exact ⟨i, rfl, h.1, h.2.1, h.2.2⟩
theorem below_class {X Y : World} (h : ∃ p : Regrown, Y = Go.Sort.grow (redrawn X p.d) p.os) : Below X.heap.size X Y := by
  obtain ⟨⟨d, os⟩, rfl⟩ := h; exact below_regrown _ _ _
theorem grown_of {W W' : World} (h : Below W.heap.size W W') : W.grownBy W' none := ⟨h.os, h.tape, h.output, h.size, fun k hk _ => h.block k hk⟩
theorem grown_weak {W W' : World} (h : W.grownBy W' none) (g : Nat) : W.grownBy W' (some g) := ⟨h.os, h.tape, h.output, h.size, fun k hk _ => h.block k hk (by simp)⟩
theorem grown_tr {a b c : World} {r : Option Nat} (h : a.grownBy b r) (k : b.grownBy c r) : a.grownBy c r :=
  ⟨k.os.trans h.os, k.tape.trans h.tape, k.output.trans h.output, Nat.le_trans h.size k.size, fun i hi hr => (k.block i (Nat.lt_of_lt_of_le hi h.size) hr).trans (h.block i hi hr)⟩
theorem grown_refl (w : World) (r : Option Nat) : w.grownBy w r := ⟨rfl, rfl, rfl, Nat.le_refl _, fun _ _ _ => rfl⟩
theorem ret_int {k : IntKind} {a b : Int} (h : a = b) : Ending.returned (.int k a) = .returned (.int k b) := by rw [h]
theorem ret_bool {a b : Bool} (h : a = b) : Ending.returned (.bool a) = .returned (.bool b) := by rw [h]
end Go.Proofs.Ytdgbigkcophjoaa.Aid

/- Words on memory for the contracts of plain functions. No condition. -/
namespace Go.Proofs.Ytdgbigkcophjoaa.GoM
set_option linter.unusedVariables false
open Go.RowKit
open Go.Proofs.Ytdgbigkcophjoaa.Rowed Go.Proofs.Ytdgbigkcophjoaa.Turn

theorem box_new (w : World) (cs : List Value) (T : TypeId) (j : Nat) (u : Value) (h : cs[j]? = some u) : (w.alloc (.cells ⟨cs⟩ T)).cell? ⟨w.heap.size, j, none⟩ = some u := by
  have hb : (w.alloc (.cells ⟨cs⟩ T)).heap[w.heap.size]? = some (.cells ⟨cs⟩ T) := heap_alloc_new w _
  unfold World.cell?
  rw [hb]
  simpa using h
theorem size_list (s : ByteArray) : s.toList.length = s.size := by rw [Lib.toList_data]; rfl
theorem byte_rule {s : ByteArray} {n : Nat} {y : UInt8} (l : n < s.toList.length) (g : s.toList[n]? = some y) : ∀ h : n < s.size, s[n]'h = y := by
  intro h
  have e := List.getElem?_eq_getElem l
  rw [g] at e
  have := Option.some.inj e
  rw [this]
  simp [Lib.toList_data]
  rfl
theorem own_empty {w wc : World} {T K : Nat} (h : w.heap.size ≤ wc.heap.size) : (wc.alloc (.cells #[] T)).ownsRow w.heap.size T K (.slice (some ⟨wc.heap.size, 0, none⟩) 0 0) 0 [] :=
  ⟨by simp, .inr ⟨wc.heap.size, 0, #[], rfl, h, heap_alloc_new wc _, Nat.le_refl _, by unfold maxLen; omega, by simp, by simp⟩⟩
theorem own_laid {w wc : World} {T K n : Nat} {cs : List Value} {xs : List Value} (h : w.heap.size ≤ wc.heap.size) (hx : cs = xs) (hl : cs.length = n * K) (hn : n ≤ maxLen) : (wc.alloc (.cells ⟨cs⟩ T)).ownsRow w.heap.size T K (.slice (some ⟨wc.heap.size, 0, none⟩) n n) n xs := by
  subst hx
  exact ⟨hl, .inr ⟨wc.heap.size, n, ⟨cs⟩, rfl, h, heap_alloc_new wc _, Nat.le_refl _, hn, by simpa using hl, by rw [← hl]; simp⟩⟩
theorem add_flat (b o n : Nat) : (⟨b, o, none⟩ : Addr).add n = ⟨b, o + n, none⟩ := by
  unfold Addr.add; split
  · rename_i h; subst h; rfl
  · rfl
theorem strs_at {w : World} {A : Option Addr} {n k : Nat} {l : List ByteArray} (h : Cells w 1 A n (l.map Value.string)) (hk : k < n) : ∃ (b o : Nat) (x : ByteArray), A = some ⟨b, o, none⟩ ∧ l[k]? = some x ∧ w.cell? ⟨b, o + k, none⟩ = some (.string x) := by
  have hl : k < l.length := by have := h.1; rw [List.length_map] at this; omega
  obtain ⟨⟨b, o, sp⟩, e, hc⟩ := h.2 (by rw [List.length_map]; omega)
  have h0 := hc 0 (.string l[0]) (by rw [List.getElem?_map, List.getElem?_eq_getElem (show 0 < l.length by omega)]; rfl)
  obtain rfl : sp = none := cell_spot (b := b) (o := o) h0
  have hs := List.getElem?_eq_getElem hl
  have := hc k (.string l[k]) (by rw [List.getElem?_map, hs]; rfl)
  rw [add_flat] at this
  exact ⟨b, o, l[k], e, hs, this⟩
theorem bools_at {w : World} {A : Option Addr} {n k : Nat} {l : List Bool} (h : Cells w 1 A n (l.map Value.bool)) (hk : k < n) : ∃ (b o : Nat) (x : Bool), A = some ⟨b, o, none⟩ ∧ l[k]? = some x ∧ w.cell? ⟨b, o + k, none⟩ = some (.bool x) := by
  have hl : k < l.length := by have := h.1; rw [List.length_map] at this; omega
  obtain ⟨⟨b, o, sp⟩, e, hc⟩ := h.2 (by rw [List.length_map]; omega)
  have h0 := hc 0 (.bool l[0]) (by rw [List.getElem?_map, List.getElem?_eq_getElem (show 0 < l.length by omega)]; rfl)
  obtain rfl : sp = none := cell_spot (b := b) (o := o) h0
  have hs := List.getElem?_eq_getElem hl
  have := hc k (.bool l[k]) (by rw [List.getElem?_map, hs]; rfl)
  rw [add_flat] at this
  exact ⟨b, o, l[k], e, hs, this⟩
theorem own_nil {w : World} {b T K : Nat} : w.ownsRow b T K (.slice none 0 0) 0 [] := ⟨by simp, .inl ⟨rfl, rfl⟩⟩
theorem own_lower {w : World} {b base n size : Nat} {v : Value} {e : TypeId} {xs : List Value} (h : w.ownsRow base e size v n xs) (hb : b ≤ base) : w.ownsRow b e size v n xs :=
  ⟨h.1, by
    rcases h.2 with h0 | ⟨g, cap, cur, hv, hb', rest⟩
    · exact .inl h0
    · exact .inr ⟨g, cap, cur, hv, Nat.le_trans hb hb', rest⟩⟩
theorem own_below {w w' : World} {base n size : Nat} {v : Value} {e : TypeId} {xs : List Value} (h : w.ownsRow base e size v n xs) (hb : Below w.heap.size w w') : w'.ownsRow base e size v n xs :=
  h.kept (Aid.grown_of hb) (by cases v.ownBlock <;> simp)
theorem own_push {α : Type} {f : List α → List Value} {cx : List Value} {l t : List α} {x : α} {w' : World} {b T K : Nat} {v' : Value} {n : Nat} (ht : l ++ [x] = t) (hf : f (l ++ [x]) = f l ++ cx) (hn : l.length = n) (h : w'.ownsRow b T K v' (n + 1) (f l ++ cx)) :
    ∃ g cap, v' = .slice (some ⟨g, 0, none⟩) t.length cap ∧ w'.ownsRow b T K (.slice (some ⟨g, 0, none⟩) t.length cap) t.length (f t) := by
  subst ht
  subst hn
  have el : (l ++ [x]).length = l.length + 1 := by simp
  obtain ⟨g, cap, rfl⟩ : ∃ g cap, v' = .slice (some ⟨g, 0, none⟩) (l.length + 1) cap := by
    rcases h.2 with ⟨_, h⟩ | ⟨g3, cap3, _, h, _⟩
    · omega
    · exact ⟨g3, cap3, h⟩
  exact ⟨g, cap, by rw [el], by rw [el, hf]; exact h⟩
theorem news_new {w w2 : World} {cs : List Value} {T : TypeId} (h : w.alloc (.cells ⟨cs⟩ T) = w2) : ∀ j u, cs[j]? = some u → w2.cell? ((⟨w.heap.size, 0, none⟩ : Addr).add j) = some u := by
  intro j u hu
  subst h
  have : (⟨w.heap.size, 0, none⟩ : Addr).add j = ⟨w.heap.size, j, none⟩ := by
    unfold Addr.add; split
    · rename_i hj; subst hj; rfl
    · simp
  rw [this]
  exact box_new w cs T j u hu
theorem one_cells {l : List Value} (h : l.all (fun u => u.oneCell') = true) : ∀ u ∈ l, u.oneCell' = true := fun u hu => List.all_eq_true.1 h u hu
theorem cat_rule {P : Program} {a b c : ByteArray} (h : a ++ b = c) (hl : a.size + b.size ≤ maxLen) : ∀ W, (Op.stringOp .add a b).run P W = .ok (.string c) W := by
  intro W
  rw [run_string_add_sum]
  · subst h; rfl
  · unfold maxLen at hl; omega
theorem slice_both {P : Program} {t : TypeId} {s c : ByteArray} {k k' : IntKind} {i j : Int} (hu : P.underlying t = some .string) (h : s.extract i.toNat j.toNat = c) (hl : 0 ≤ i ∧ i ≤ j ∧ j ≤ (s.size : Int)) :
    ∀ W, (Instr.slice t (.string s) (some (.int k i)) (some (.int k' j)) none).run P W = .ok (.string c) W := by
  intro W
  rw [run_slice_string_if _ _ _ _ _ _ _ hu, if_pos ⟨by omega, hl.2.2⟩, if_pos ⟨hl.1, hl.2.1⟩, h]
theorem slice_from {P : Program} {t : TypeId} {s c : ByteArray} {k : IntKind} {i : Int} (hu : P.underlying t = some .string) (h : s.extract i.toNat s.size = c) (hl : 0 ≤ i ∧ i ≤ (s.size : Int)) :
    ∀ W, (Instr.slice t (.string s) (some (.int k i)) none none).run P W = .ok (.string c) W := by
  intro W
  rw [run_slice_string_from_if _ _ _ _ _ hu, if_pos hl, h]
theorem slice_to {P : Program} {t : TypeId} {s c : ByteArray} {k : IntKind} {j : Int} (hu : P.underlying t = some .string) (h : s.extract 0 j.toNat = c) (hl : 0 ≤ j ∧ j ≤ (s.size : Int)) :
    ∀ W, (Instr.slice t (.string s) none (some (.int k j)) none).run P W = .ok (.string c) W := by
  intro W
  rw [run_slice_string_to_if _ _ _ _ _ hu, if_pos hl, h]
theorem results_tmp4 {fn : Func} {t u v x : Tmp} (h : fn.results = #[.tmp t, .tmp u, .tmp v, .tmp x]) (tmps : Array Value) (P : Program) (w : World) :
    (results fn tmps).run P w = .ok (.tuple #[tmps.getD t undef, tmps.getD u undef, tmps.getD v undef, tmps.getD x undef]) w := by
  simp [results, h]
/-- the walk stands here -/
def Stop (p : Prop) : Prop := p
theorem stop_in {p : Prop} (h : Stop p) : p := h
theorem stop_out {p : Prop} (h : p) : Stop p := h
/-- two rows lie in different blocks -/
def Apart (A B : Option Addr) : Prop := ∀ a b, A = some a → B = some b → a.block ≠ b.block
theorem Apart.symm {A B : Option Addr} (h : Apart A B) : Apart B A := fun a b ha hb e => h b a hb ha e.symm
theorem own_lt {w : World} {b T K n m c : Nat} {A : Option Addr} {xs : List Value} (h : w.ownsRow b T K (.slice A m c) n xs) (a : Addr) (ha : A = some a) : b ≤ a.block ∧ a.block < w.heap.size := by
  subst ha
  exact h.lt a.block rfl
theorem apart_fresh {w : World} {b T K n m c : Nat} {A : Option Addr} {xs : List Value} (h : w.ownsRow b T K (.slice A m c) n xs) : Apart (some ⟨w.heap.size, 0, none⟩) A := by
  intro a a' ha ha' e
  have := (own_lt h a' ha').2
  injection ha with ha
  subst ha
  simp at e
  omega
theorem apart_call {w w1 : World} {b T K n m c T' K' n' m' c' : Nat} {A B : Option Addr} {xs ys : List Value} (h1 : w1.ownsRow w.heap.size T K (.slice A m c) n xs) (h : w.ownsRow b T' K' (.slice B m' c') n' ys) : Apart A B := by
  intro a a' ha ha' e
  have := (own_lt h a' ha').2
  have := (own_lt h1 a ha).1
  omega
theorem apart_box {w : World} {g j : Nat} {v : Value} (h : w.cell? ⟨g, j, none⟩ = some v) : Apart (some ⟨w.heap.size, 0, none⟩) (some ⟨g, 0, none⟩) := by
  intro a a' ha ha' e
  have hl : g < w.heap.size := cell_lt h
  injection ha with ha
  injection ha' with ha'
  subst ha
  subst ha'
  simp at e
  omega
theorem apart_callbox {w w1 : World} {T K n m c g j : Nat} {A : Option Addr} {xs : List Value} {v : Value} (h1 : w1.ownsRow w.heap.size T K (.slice A m c) n xs) (h : w.cell? ⟨g, j, none⟩ = some v) : Apart A (some ⟨g, 0, none⟩) := by
  intro a a' ha ha' e
  have hl : g < w.heap.size := cell_lt h
  have := (own_lt h1 a ha).1
  injection ha' with ha'
  subst ha'
  simp at e
  omega
theorem apart_app {w : World} {n c n' c' : Nat} {A A' B : Option Addr} (hD : Apart A B) (hB : ∀ a, B = some a → a.block < w.heap.size) (h : (Value.slice A' n' c').ownBlock = (Value.slice A n c).ownBlock ∨ (Value.slice A' n' c').ownBlock = some w.heap.size) : Apart A' B := by
  intro a a' ha ha' e
  have hl := hB a' ha'
  subst ha
  rcases h with h | h
  · cases A with
    | none => simp [Value.ownBlock] at h
    | some x => simp only [Value.ownBlock, Option.some.injEq] at h; exact hD x a' rfl ha' (h ▸ e)
  · simp only [Value.ownBlock, Option.some.injEq] at h; omega
theorem own_other {w w' : World} {b T K n m c n' c' : Nat} {A B : Option Addr} {ys : List Value} (h : w.ownsRow b T K (.slice B m c) n ys) (hg : w.grownBy w' (Value.slice A n' c').ownBlock) (hD : Apart A B) : w'.ownsRow b T K (.slice B m c) n ys := by
  refine h.kept hg ?_
  cases B with
  | none => exact .inl rfl
  | some y =>
    refine .inr ?_
    cases A with
    | none => simp [Value.ownBlock]
    | some x => simp only [Value.ownBlock, ne_eq, Option.some.injEq]; exact fun e => hD x y rfl rfl e.symm
theorem cell_other {w w' : World} {n' c' : Nat} {A : Option Addr} {a : Addr} {v : Value} (h : w.cell? a = some v) (hg : w.grownBy w' (Value.slice A n' c').ownBlock) (hD : Apart A (some ⟨a.block, 0, none⟩)) : w'.cell? a = some v := by
  rw [World.cell?_of_block (hg.block a.block (cell_lt h) ?_)]
  · exact h
  · cases A with
    | none => simp [Value.ownBlock]
    | some x => simp only [Value.ownBlock, ne_eq, Option.some.injEq]; exact fun e => hD x _ rfl rfl e.symm
theorem apart_old {wr : World} {b T K n m c g : Nat} {A : Option Addr} {xs : List Value} (h : wr.ownsRow b T K (.slice A m c) n xs) (hg : g < b) : Apart A (some ⟨g, 0, none⟩) := by
  intro a a' ha ha' e
  have := (own_lt h a ha).1
  injection ha' with ha'
  subst ha'
  simp at e
  omega
theorem own_len {w : World} {b T K n m c : Nat} {A : Option Addr} {xs : List Value} (h : m = n) (hO : w.ownsRow b T K (.slice A n c) n xs) : w.ownsRow b T K (.slice A m c) m xs := by subst h; exact hO
theorem own_max {w : World} {b T K n c : Nat} {A : Option Addr} {xs : List Value} (h : w.ownsRow b T K (.slice A n c) n xs) : n ≤ 9223372036854775807 := by
  rcases h.2 with ⟨_, h0⟩ | ⟨g, cap, cur, hv, _, _, h1, h2, _⟩
  · omega
  · unfold maxLen at h2; omega
theorem grown_below {w wr w2 : World} {q : Option Nat} (h : w.grownBy wr q) (hb : Below wr.heap.size wr w2) : w.grownBy w2 q :=
  Aid.grown_tr h ⟨hb.os, hb.tape, hb.output, hb.size, fun k hk _ => hb.block k hk⟩
theorem own_some {w : World} {b T K n c : Nat} {A : Option Addr} {xs : List Value} (h : w.ownsRow b T K (.slice A n c) n xs) (hn : 0 < n) : ∃ g, A = some ⟨g, 0, none⟩ := by
  rcases h.2 with ⟨_, h0⟩ | ⟨g, cap, cur, hv, _⟩
  · omega
  · injection hv with e1; exact ⟨g, e1⟩
theorem own_stores {b T K n c g : Nat} (ps : List (Nat × Value)) : ∀ {w : World} {xs : List Value}, w.ownsRow b T K (.slice (some ⟨g, 0, none⟩) n c) n xs →
    (ps.foldl (fun w p => w.setCell ⟨g, p.1, none⟩ p.2) w).ownsRow b T K (.slice (some ⟨g, 0, none⟩) n c) n (ps.foldl (fun xs p => xs.set p.1 p.2) xs) ∧ w.grownBy (ps.foldl (fun w p => w.setCell ⟨g, p.1, none⟩ p.2) w) (some g) := by
  induction ps with
  | nil => intro w xs h; exact ⟨h, Aid.grown_refl _ _⟩
  | cons p ps ih =>
    intro w xs h
    have h1 := h.stored p.1 p.2
    have h2 := ih h1.1
    exact ⟨h2.1, Aid.grown_tr h1.2 h2.2⟩
theorem flat_set {α : Type} (f : α → List Value) (K : Nat) (hK : ∀ x, (f x).length = K) : ∀ (l : List α) (k j : Nat) (s1 s2 : α) (v : Value), k < l.length → j < K → (f s1).set j v = f s2 → ((l.set k s1).flatMap f).set (k * K + j) v = (l.set k s2).flatMap f := by
  intro l
  induction l with
  | nil => intro k j s1 s2 v hk; simp at hk
  | cons x l ih =>
    intro k j s1 s2 v hk hj hc
    cases k with
    | zero =>
      simp only [List.set_cons_zero, List.flatMap_cons, Nat.zero_mul, Nat.zero_add]
      rw [List.set_append_left _ _ (by rw [hK]; exact hj), hc]
    | succ k =>
      simp only [List.set_cons_succ, List.flatMap_cons]
      rw [List.set_append_right _ _ (by rw [hK, Nat.add_mul]; omega), hK, show (k + 1) * K + j - K = k * K + j by rw [Nat.add_mul]; omega, ih k j s1 s2 v (by simpa using hk) hj hc]
theorem set_self {α : Type} {l : List α} {k : Nat} {x : α} (h : l[k]? = some x) : l.set k x = l := by
  obtain ⟨hk, e⟩ := List.getElem?_eq_some_iff.1 h
  rw [← e]; simp
theorem map_flat {α : Type} (g : α → Value) (l : List α) : l.map g = l.flatMap (fun x => [g x]) := by
  induction l with
  | nil => rfl
  | cons x l ih => simp [List.flatMap_cons, ih]
theorem made_flat {α : Type} (f : α → List Value) (x0 : α) (z : Value) (K n : Nat) (hz : z.cells.toList = f x0) (hK : z.cells.size = K) (hp : 0 < K) : (madeCells z.cells (n * K)).toList = (List.replicate n x0).flatMap f := by
  have hl : (f x0).length = K := by rw [← hz, ← hK]; simp
  have hr : ∀ n, (List.range (n * K)).map (fun i => z.cells[i % z.cells.size]!) = (List.replicate n x0).flatMap f := by
    intro n
    induction n with
    | zero => simp
    | succ n ih =>
      rw [List.replicate_succ', List.flatMap_append, ← ih, Nat.add_mul, Nat.one_mul, List.range_add, List.map_append]
      congr 1
      simp only [List.map_map, List.flatMap_cons, List.flatMap_nil, List.append_nil]
      apply List.ext_getElem
      · simp [hl]
      · intro i h1 h2
        have hi : i < K := by simpa using h1
        simp only [List.getElem_map, List.getElem_range, Function.comp]
        rw [hK, Nat.add_comm, Nat.add_mul_mod_self_right, Nat.mod_eq_of_lt hi]
        have h3 : i < z.cells.size := by omega
        rw [getElem!_pos z.cells i h3]
        have : z.cells.toList[i]'(by simpa using h3) = z.cells[i] := by simp
        rw [← this]
        congr 1
  unfold madeCells
  rw [← hr n]
  simp
/-- a row is no longer than its room; nil has none -/
def Room (A : Option Addr) (n c : Nat) : Prop := n ≤ c ∧ (A = none → c = 0)
theorem own_room {w : World} {b T K n c : Nat} {A : Option Addr} {xs : List Value} (h : w.ownsRow b T K (.slice A n c) n xs) : Room A n c := by
  rcases h.2 with ⟨h1, h2⟩ | ⟨g, cap, cur, h1, _, _, hr, _⟩
  · simp only [Value.slice.injEq] at h1
    exact ⟨by omega, fun _ => by omega⟩
  · simp only [Value.slice.injEq] at h1
    exact ⟨by omega, fun e => by rw [h1.1] at e; simp at e⟩
theorem flat_drop {α : Type} (f : α → List Value) (K : Nat) (hK : ∀ x, (f x).length = K) : ∀ (l : List α) (j : Nat), (l.flatMap f).drop (j * K) = (l.drop j).flatMap f := by
  intro l
  induction l with
  | nil => intro j; simp
  | cons x l ih =>
    intro j
    cases j with
    | zero => simp
    | succ j =>
      have e : (j + 1) * K = (f x).length + j * K := by rw [hK x, Nat.add_mul]; omega
      rw [List.flatMap_cons, e, List.drop_append, List.drop_of_length_le (by omega), List.drop_succ_cons, ← ih j]
      simp
/-- s[lo:] of a row that came in -/
theorem slice_tail {P : Program} {t e : TypeId} {i : TypeInfo} {k : IntKind} {K n c : Nat} {A : Option Addr} {lo : Int} {w : World} {xs ys : List Value} {m : Nat}
    (ht : P.underlying t = some (.slice (P.elem t))) (he : P.elem t = e) (hi : P.info? e = some i) (hs : i.size = K) (hc : Cells w K A n xs) (hR : Room A n c) (hl : 0 ≤ lo ∧ lo ≤ (n : Int)) (hm : n - lo.toNat = m) (hd : xs.drop (lo.toNat * K) = ys) :
    ∃ A' c', (∀ W, (Instr.slice t (.slice A n c) (some (.int k lo)) none none).run P W = .ok (.slice A' m c') W) ∧ Cells w K A' m ys ∧ Room A' m c' := by
  subst hm; subst hd
  have hr := hR.1
  have hsz : ∀ W, (sizeOf (P.elem t)).run P W = .ok K W := by intro W; subst he; simp [sizeOf, typeInfo, hi, hs]
  refine ⟨if c = lo.toNat then A else A.map (·.add (lo.toNat * K)), c - lo.toNat, ?_, ?_, ⟨by omega, fun e => by
    have : A = none := by
      by_cases h : c = lo.toNat
      · rw [if_pos h] at e; exact e
      · rw [if_neg h] at e; simpa using e
    have := hR.2 this; omega⟩⟩
  · intro W
    rw [run_slice_l (P := P) W t A n c ht k lo hl.1 hl.2, hsz W]
    rfl
  · refine ⟨by rw [List.length_drop, hc.1, Nat.sub_mul], fun h0 => ?_⟩
    rw [List.length_drop] at h0
    obtain ⟨ad, rfl, h⟩ := hc.2 (by omega)
    have h1 := hc.1
    have hne : ¬ c = lo.toNat := by
      intro e2
      have : n = lo.toNat := by omega
      rw [h1, this] at h0; omega
    refine ⟨ad.add (lo.toNat * K), by rw [if_neg hne]; rfl, fun j u hu => ?_⟩
    rw [List.getElem?_drop] at hu
    have := h _ u hu
    rwa [Go.Deep.add_add]
theorem flat_take {α : Type} (f : α → List Value) (K : Nat) (hK : ∀ x, (f x).length = K) : ∀ (l : List α) (j : Nat), (l.flatMap f).take (j * K) = (l.take j).flatMap f := by
  intro l
  induction l with
  | nil => intro j; simp
  | cons x l ih =>
    intro j
    cases j with
    | zero => simp
    | succ j =>
      have e : (j + 1) * K = (f x).length + j * K := by rw [hK x, Nat.add_mul]; omega
      rw [List.flatMap_cons, e, List.take_append, List.take_of_length_le (by omega), List.take_succ_cons, List.flatMap_cons, ← ih j]
      simp
/-- s[:hi] of a row of its own -/
theorem slice_head {P : Program} {t e : TypeId} {i : TypeInfo} {k : IntKind} {K n c b : Nat} {A : Option Addr} {hi : Int} {w : World} {xs ys : List Value} {m : Nat}
    (ht : P.underlying t = some (.slice (P.elem t))) (he : P.elem t = e) (hi_ : P.info? e = some i) (hs : i.size = K) (h : w.ownsRow b e K (.slice A n c) n xs) (hl : 0 ≤ hi ∧ hi ≤ (n : Int)) (hm : hi.toNat = m) (hd : xs.take (hi.toNat * K) = ys) :
    (∀ W, (Instr.slice t (.slice A n c) none (some (.int k hi)) none).run P W = .ok (.slice A m c) W) ∧ w.ownsRow b e K (.slice A m c) m ys := by
  subst hm; subst hd
  have hR := own_room h
  have hsz : ∀ W, (sizeOf (P.elem t)).run P W = .ok K W := by intro W; subst he; simp [sizeOf, typeInfo, hi_, hs]
  have hz : ∀ a : Addr, a.add 0 = a := by intro a; unfold Addr.add; simp
  refine ⟨fun W => ?_, ?_, ?_⟩
  · rw [run_slice_h (P := P) W t A n c ht k hi hl.1 (by have := hR.1; omega), hsz W]
    cases A <;> simp [Result.andThen, sliced, hz]
  · rw [List.length_take, h.1]
    exact Nat.min_eq_left (Nat.mul_le_mul_right K (by omega))
  · rcases h.2 with ⟨h1, h2⟩ | ⟨g, cap, cur, h1, h2, h3, h4, h5, h6, h7⟩
    · simp only [Value.slice.injEq] at h1
      left
      have : hi.toNat = 0 := by omega
      exact ⟨by rw [h1.1, h1.2.2, this], this⟩
    · simp only [Value.slice.injEq] at h1
      right
      refine ⟨g, cap, cur, by rw [h1.1, h1.2.2], h2, h3, by omega, h5, h6, ?_⟩
      rw [← h7, List.take_take, Nat.min_eq_left (Nat.mul_le_mul_right K (by omega))]
/-- s[:hi] of a row that came in -/
theorem slice_headB {P : Program} {t e : TypeId} {i : TypeInfo} {k : IntKind} {K n c : Nat} {A : Option Addr} {hi : Int} {w : World} {xs ys : List Value} {m : Nat}
    (ht : P.underlying t = some (.slice (P.elem t))) (he : P.elem t = e) (hi_ : P.info? e = some i) (hs : i.size = K) (h : Cells w K A n xs) (hR : Room A n c) (hl : 0 ≤ hi ∧ hi ≤ (n : Int)) (hm : hi.toNat = m) (hd : xs.take (hi.toNat * K) = ys) :
    (∀ W, (Instr.slice t (.slice A n c) none (some (.int k hi)) none).run P W = .ok (.slice A m c) W) ∧ Cells w K A m ys ∧ Room A m c := by
  subst hm; subst hd
  have hsz : ∀ W, (sizeOf (P.elem t)).run P W = .ok K W := by intro W; subst he; simp [sizeOf, typeInfo, hi_, hs]
  have hz : ∀ a : Addr, a.add 0 = a := by intro a; unfold Addr.add; simp
  refine ⟨fun W => ?_, ⟨?_, fun h0 => ?_⟩, ⟨by have := hR.1; omega, hR.2⟩⟩
  · rw [run_slice_h (P := P) W t A n c ht k hi hl.1 (by have := hR.1; omega), hsz W]
    cases A <;> simp [Result.andThen, sliced, hz]
  · rw [List.length_take, h.1]
    exact Nat.min_eq_left (Nat.mul_le_mul_right K (by omega))
  · rw [List.length_take] at h0
    obtain ⟨ad, e, hc⟩ := h.2 (by omega)
    refine ⟨ad, e, fun j u hu => hc j u ?_⟩
    have := List.getElem?_take (l := xs) (i := hi.toNat * K) (j := j)
    rw [this] at hu
    split at hu
    · exact hu
    · cases hu
/-- append(a, b...) onto a row of its own -/
theorem append_spread {P : Program} {w : World} {ops : Array Oper} {rest : List Oper} {o : Oper} {a : Act} {Q : Exit → Act → World → Prop} (hgd : o.guard = none) (s x : Operand) (t : TypeId)
    (ho : o.op = .call { callee := .builtin .append, args := #[s, x], argTypes := #[t, t] })
    (base : Nat) (e : TypeId) (i : TypeInfo) (z : Value) (size bytes : Nat) (ht : P.underlying t = some (.slice e)) (hi : P.info? e = some i) (hz : i.zero = some z)
    (hsize : i.size = size) (hby : i.bytes = bytes) (hzs : z.cells.size = size) (hsz : 0 < size)
    (A1 : Option Addr) (c1 n : Nat) (xs : List Value) (hs : a.eval s = .slice A1 n c1) (hown : w.ownsRow base e size (.slice A1 n c1) n xs)
    (A : Option Addr) (m c : Nat) (news : List Value) (hx : a.eval x = .slice A m c) (hN : Room A m c) (hc : Cells w size A m news) (h1 : ∀ u ∈ news, u.oneCell' = true)
    (h63 : n + m ≤ maxLen) (hbytes : (n + m) * bytes ≤ 140737488355328) (hbase : base ≤ w.heap.size)
    (h : ∀ v' w', w'.ownsRow base e size v' (n + m) (xs ++ news) → w.grownBy w' (Value.slice A1 n c1).ownBlock → (v'.ownBlock = (Value.slice A1 n c1).ownBlock ∨ v'.ownBlock = some w.heap.size) → wpList P ops Q rest (a.put o.dst v') w') :
    wpList P ops Q (o :: rest) a w := by
  cases A with
  | some ad =>
    refine wpList_append_own_at w hgd s x t ho base e i z size bytes ht hi hz hsize hby hzs hsz _ n xs hs hown ad m c news hx hc.1 (fun j u hu => ?_) h1 h63 hbytes hbase (fun v' w' o1 g1 _ y1 => h v' w' o1 g1 y1)
    obtain ⟨ad', e', hcell⟩ := hc.2 (by have := (List.getElem?_eq_some_iff.1 hu).1; omega)
    obtain rfl : ad = ad' := Option.some.inj e'
    exact hcell j u hu
  | none =>
    have hm : m = 0 := by
      cases news with
      | nil =>
        have h0 : ([] : List Value).length = m * size := hc.1
        rw [List.length_nil] at h0
        rcases Nat.mul_eq_zero.1 h0.symm with h1 | h1 <;> omega
      | cons y l => obtain ⟨ad, e', _⟩ := hc.2 (by simp); simp at e'
    obtain rfl : c = 0 := hN.2 rfl
    subst hm
    have hn : news = [] := List.eq_nil_of_length_eq_zero (by have := hc.1; simpa using this)
    subst hn
    refine Go.wpList_append_own_none hgd s x t ho base e i size ht hi _ n xs hs hown hx ?_
    exact h _ w (by simpa using hown) (World.grownBy.refl w _) (.inl rfl)
theorem own_pushS {α : Type} {f : List α → List Value} {l b t : List α} {w' : World} {bs T K : Nat} {v' : Value} {n : Nat} (ht : l ++ b = t) (hf : f (l ++ b) = f l ++ f b) (hn : l.length = n) (h : w'.ownsRow bs T K v' (n + b.length) (f l ++ f b)) :
    ∃ A cap, v' = .slice A t.length cap ∧ w'.ownsRow bs T K (.slice A t.length cap) t.length (f t) := by
  subst ht
  subst hn
  rw [← List.length_append, ← hf] at h
  rcases h.2 with ⟨h1, h2⟩ | ⟨g3, cap3, _, h2, _⟩
  · have hv : v' = .slice none (l ++ b).length 0 := by rw [h1, h2]
    exact ⟨none, 0, hv, hv ▸ h⟩
  · exact ⟨_, _, h2, h2 ▸ h⟩
/-- w' is w but for two rows and for new blocks -/
structure Grown2 (w w' : World) (A1 A2 : Option Addr) : Prop where
  os : w'.os = w.os
  tape : w'.tape = w.tape
  output : w'.output = w.output
  size : w.heap.size ≤ w'.heap.size
  block : ∀ k, k < w.heap.size → (∀ a, A1 = some a → a.block ≠ k) → (∀ a, A2 = some a → a.block ≠ k) → w'.heap[k]? = w.heap[k]?
theorem grown2_refl (w : World) (A1 A2 : Option Addr) : Grown2 w w A1 A2 := ⟨rfl, rfl, rfl, Nat.le_refl _, fun _ _ _ _ => rfl⟩
theorem grown2_below {w wr w2 : World} {A1 A2 : Option Addr} (h : Grown2 w wr A1 A2) (hb : Below wr.heap.size wr w2) : Grown2 w w2 A1 A2 :=
  ⟨hb.os.trans h.os, hb.tape.trans h.tape, hb.output.trans h.output, Nat.le_trans h.size hb.size, fun k hk h1 h2 => (hb.block k (Nat.lt_of_lt_of_le hk h.size)).trans (h.block k hk h1 h2)⟩
theorem grown2_l {w wr w2 : World} {A1 A2 : Option Addr} {n c : Nat} (h : Grown2 w wr A1 A2) (hg : wr.grownBy w2 (Value.slice A1 n c).ownBlock) : Grown2 w w2 A1 A2 :=
  ⟨hg.os.trans h.os, hg.tape.trans h.tape, hg.output.trans h.output, Nat.le_trans h.size hg.size, fun k hk h1 h2 => (hg.block k (Nat.lt_of_lt_of_le hk h.size) (by
    cases A1 with
    | none => simp [Value.ownBlock]
    | some a => simp only [Value.ownBlock, ne_eq, Option.some.injEq]; exact fun e => h1 a rfl e.symm)).trans (h.block k hk h1 h2)⟩
theorem grown2_r {w wr w2 : World} {A1 A2 : Option Addr} {n c : Nat} (h : Grown2 w wr A1 A2) (hg : wr.grownBy w2 (Value.slice A2 n c).ownBlock) : Grown2 w w2 A1 A2 :=
  ⟨hg.os.trans h.os, hg.tape.trans h.tape, hg.output.trans h.output, Nat.le_trans h.size hg.size, fun k hk h1 h2 => (hg.block k (Nat.lt_of_lt_of_le hk h.size) (by
    cases A2 with
    | none => simp [Value.ownBlock]
    | some a => simp only [Value.ownBlock, ne_eq, Option.some.injEq]; exact fun e => h2 a rfl e.symm)).trans (h.block k hk h1 h2)⟩
theorem below2 {w wr w2 : World} {B : Nat} {A1 A2 : Option Addr} (h : Below B w wr) (hg : Grown2 wr w2 A1 A2) (hB : B ≤ wr.heap.size) (h1 : ∀ a, A1 = some a → B ≤ a.block) (h2 : ∀ a, A2 = some a → B ≤ a.block) : Below B w w2 :=
  ⟨hg.os.trans h.os, hg.tape.trans h.tape, hg.output.trans h.output, Nat.le_trans h.size hg.size, fun k hk => (hg.block k (Nat.lt_of_lt_of_le hk hB) (fun a e e2 => by have := h1 a e; omega) (fun a e e2 => by have := h2 a e; omega)).trans (h.block k hk)⟩
theorem own_other2 {w w' : World} {b T K n m c : Nat} {A1 A2 B : Option Addr} {ys : List Value} (h : w.ownsRow b T K (.slice B m c) n ys) (hg : Grown2 w w' A1 A2) (h1 : Apart A1 B) (h2 : Apart A2 B) : w'.ownsRow b T K (.slice B m c) n ys := by
  refine ⟨h.1, ?_⟩
  rcases h.2 with hn | ⟨g, cap, cur, hv, hb, hgg, rest⟩
  · exact .inl hn
  · have hlt := (h.lt g (by rw [hv]; rfl)).2
    have hB : B = some ⟨g, 0, none⟩ := by simp only [Value.slice.injEq] at hv; exact hv.1
    refine .inr ⟨g, cap, cur, hv, hb, ?_, rest⟩
    rw [hg.block g hlt (fun a e e2 => h1 a _ e hB e2) (fun a e e2 => h2 a _ e hB e2)]
    exact hgg
theorem cell_other2 {w w' : World} {A1 A2 : Option Addr} {a : Addr} {v : Value} (h : w.cell? a = some v) (hg : Grown2 w w' A1 A2) (h1 : Apart A1 (some ⟨a.block, 0, none⟩)) (h2 : Apart A2 (some ⟨a.block, 0, none⟩)) : w'.cell? a = some v := by
  rw [World.cell?_of_block (hg.block a.block (cell_lt h) (fun x e e2 => h1 x _ e rfl e2) (fun x e e2 => h2 x _ e rfl e2))]
  exact h
theorem own_ge2 {w : World} {b T K n m c : Nat} {A : Option Addr} {xs : List Value} (h : w.ownsRow b T K (.slice A m c) n xs) : ∀ a, A = some a → b ≤ a.block := fun a e => (own_lt h a e).1
end Go.Proofs.Ytdgbigkcophjoaa.GoM

/- Plain words on the record Paper: its fields, its cells, a list of it as cells one after the other. No condition. -/
namespace Go.Proofs.Ytdgbigkcophjoaa.PPaper
set_option linter.unusedVariables false
set_option maxRecDepth 100000

structure Paper where
  id : Int
  thick : Int
  tint : Int
  mark : ByteArray
  laid : Bool
def Paper.cells (s : Paper) : List Value := [.int .i64 s.id, .int .i64 s.thick, .int .i64 s.tint, .string s.mark, .bool s.laid]
def Paper.val (s : Paper) : Value := .agg #[.int .i64 s.id, .int .i64 s.thick, .int .i64 s.tint, .string s.mark, .bool s.laid]
/-- each field fits -/
def Paper.fits (s : Paper) : Prop := (Lit.int .i64 s.id).wf = true ∧ (Lit.int .i64 s.thick).wf = true ∧ (Lit.int .i64 s.tint).wf = true ∧ s.mark.size ≤ maxLen ∧ True
def zero : Paper := ⟨0, 0, 0, ByteArray.empty, false⟩
/-- the letters of its texts -/
def Paper.wt (s : Paper) : Nat := s.mark.size
def wts (l : List Paper) : Nat := (l.map Paper.wt).sum
theorem wts_snoc (l : List Paper) (s : Paper) : wts (l ++ [s]) = wts l + s.wt := by unfold wts; simp [List.sum_append]
theorem wts_succ {l : List Paper} {k : Nat} {s : Paper} (h : l[k]? = some s) : wts (l.take (k + 1)) = wts (l.take k) + s.wt := by
  have hk := List.getElem?_eq_some_iff.1 h
  rw [List.take_succ_eq_append_getElem hk.1, hk.2, wts_snoc]
theorem wts_take (l : List Paper) (k : Nat) : wts (l.take k) ≤ wts l := by
  have : wts l = wts (l.take k) + wts (l.drop k) := by
    unfold wts; rw [← List.sum_append, ← List.map_append, List.take_append_drop]
  omega
theorem wts_all (l : List Paper) : wts (l.take l.length) = wts l := by rw [List.take_of_length_le (Nat.le_refl _)]

/-- the cells of a list of records, one after the other -/
def flat (l : List Paper) : List Value := l.flatMap Paper.cells
theorem flat_nil : flat [] = [] := rfl
theorem flat_cons (s : Paper) (l : List Paper) : flat (s :: l) = s.cells ++ flat l := by simp [flat]
theorem flat_snoc (l : List Paper) (s : Paper) : flat (l ++ [s]) = flat l ++ s.cells := by simp [flat]
theorem flat_len (l : List Paper) : (flat l).length = l.length * 5 := by
  induction l with
  | nil => rfl
  | cons s l ih => rw [flat_cons, List.length_append, ih]; simp [Paper.cells]; omega
theorem flat_at : ∀ (l : List Paper) (k : Nat) (s : Paper), l[k]? = some s → ∀ j, j < 5 → (flat l)[k * 5 + j]? = s.cells[j]?
  | [], k, s, h, _, _ => by simp at h
  | r :: l, 0, s, h, j, hj => by
    obtain rfl : r = s := by simpa using h
    rw [flat_cons, List.getElem?_append_left (by simp [Paper.cells]; omega)]; simp
  | r :: l, k + 1, s, h, j, hj => by
    rw [flat_cons, List.getElem?_append_right (by simp [Paper.cells]; omega), show (k + 1) * 5 + j - r.cells.length = k * 5 + j by simp [Paper.cells]; omega]
    exact flat_at l k s (by simpa using h) j hj
end Go.Proofs.Ytdgbigkcophjoaa.PPaper

/- A record Paper opened into its fields. No condition. -/
namespace Go.Proofs.Ytdgbigkcophjoaa.GoP
set_option linter.unusedVariables false
open Go.RowKit
def unPaper {ρ : Type} (s : Go.Proofs.Ytdgbigkcophjoaa.PPaper.Paper) (f : Int → Int → Int → ByteArray → Bool → Option ρ) : Option ρ := f s.id s.thick s.tint s.mark s.laid
theorem unPaper_hid {ρ : Type} {x0 : Int} {x1 : Int} {x2 : Int} {x3 : ByteArray} {x4 : Bool} {f : Int → Int → Int → ByteArray → Bool → Option ρ} {r : ρ} (H : Hid (unPaper ⟨x0, x1, x2, x3, x4⟩ f = some r)) : Hid (f x0 x1 x2 x3 x4 = some r) := H
end Go.Proofs.Ytdgbigkcophjoaa.GoP

/- How a struct of one-cell fields that comes in as data is opened, whatever the number of its fields; lists by their members. No condition. -/
namespace Go.Proofs.Ytdgbigkcophjoaa.OpenAny
set_option linter.unusedVariables false
open Go.Joins Go.ChangeShapes Go.WideShapes Go.RowKit Go.Deep

theorem add_none (b o n : Nat) : (⟨b, o, none⟩ : Addr).add n = ⟨b, o + n, none⟩ := by
  unfold Addr.add; split
  · rename_i h; subst h; rfl
  · rfl
section
variable {H : Type} {enc : TypeId × Value → H} {P : Program} {w : World} {base : Nat} {spare : Nat → Bool} {held : Bool}
/-- each field reads on its own -/
theorem read_fields {t : TypeId} {fs : Array Field} {fuel : Nat} {cs : List Value} {x : DataW H × List MemPlace} (hs : P.underlying t = some (.struct fs)) (hone : oneCellFields P fs = true) (hC : P.cellsOf t = fs.size)
    (h : DataW.trod enc P w base spare held fuel t cs = some x) :
    cs.length = P.cellsOf t ∧ ∀ (j : Nat) (f : Field), fs[j]? = some f → ∃ (u : Value) (n : Nat) (y : DataW H × List MemPlace), cs[j]? = some u ∧ DataW.trod enc P w base spare held n f.type [u] = some y := by
  obtain ⟨xs, n, _, _, hlen, hxl, hg⟩ := DataW.trod_struct hs h
  refine ⟨hlen, fun j f hj => ?_⟩
  obtain ⟨ho, hk⟩ := hone_of hone j f hj
  have hjl : j < fs.size := (Array.getElem?_eq_some_iff.1 hj).1
  have h1 := hg j f hj
  rw [ho, hk, List.getElem?_eq_getElem (by omega : j < xs.length)] at h1
  have hc : j < cs.length := by omega
  rw [List.drop_eq_getElem_cons hc] at h1
  exact ⟨cs[j], n, _, List.getElem?_eq_getElem hc, h1⟩
/-- an aggregate that comes in reads as its cells do -/
theorem agg_any {r : Reach} {b0 : Nat} {t : TypeId} {fs : Array Field} {v : Value} {d : DataW H} {p : List MemPlace} (hs : P.underlying t = some (.struct fs)) (hv : Value.okWide P w r b0 t v) (h : DataW.Trod enc P w base spare held t v d p) :
    ∃ (cs : Array Value) (n : Nat) (x : DataW H × List MemPlace), v = .agg cs ∧ DataW.trod enc P w base spare held n t cs.toList = some x := by
  obtain ⟨cs, rfl, _⟩ := okWide_struct hs hv
  obtain ⟨fuel, hf⟩ := h
  exact ⟨cs, fuel, _, rfl, hf⟩
end
/-- a list by its members -/
theorem list_of {α : Type} (p : Nat → α → Prop) : ∀ (n : Nat), (∀ k, k < n → ∃ a, p k a) → ∃ l : List α, l.length = n ∧ ∀ k a, l[k]? = some a → p k a
  | 0, _ => ⟨[], rfl, fun k a h => by simp at h⟩
  | n + 1, h => by
    obtain ⟨l, hl, hp⟩ := list_of p n (fun k hk => h k (by omega))
    obtain ⟨a, ha⟩ := h n (by omega)
    refine ⟨l ++ [a], by simp [hl], fun k b hb => ?_⟩
    by_cases hk : k < n
    · rw [List.getElem?_append_left (by omega)] at hb; exact hp k b hb
    · have hk' : k < (l ++ [a]).length := (List.getElem?_eq_some_iff.1 hb).1
      simp [hl] at hk'
      obtain rfl : k = n := by omega
      rw [List.getElem?_append_right (by omega), hl, Nat.sub_self] at hb
      obtain rfl : a = b := by simpa using hb
      exact ha
end Go.Proofs.Ytdgbigkcophjoaa.OpenAny

/- The record Paper as data that comes in, and a slice of it. No condition. -/
namespace Go.Proofs.Ytdgbigkcophjoaa.OPaper
set_option linter.unusedVariables false
set_option maxRecDepth 100000
open Go.Joins Go.ChangeShapes Go.WideShapes Go.RowKit Go.Deep
open Go.Proofs.Ytdgbigkcophjoaa.Rowed Go.Proofs.Ytdgbigkcophjoaa.OpenAny Go.Proofs.Ytdgbigkcophjoaa.PPaper

/-- the slice 'A, n' reads as the records l -/
abbrev Papers (w : World) (A : Option Addr) (n : Nat) (l : List Paper) : Prop := Cells w 5 A n (flat l)
theorem at_ {w : World} {A : Option Addr} {n k : Nat} {l : List Paper} (h : Papers w A n l) (hk : k < n) :
    ∃ (b o : Nat) (s : Paper), A = some ⟨b, o, none⟩ ∧ l[k]? = some s ∧ w.cell? ⟨b, o + k * 5, none⟩ = some (.int .i64 s.id) ∧ w.cell? ⟨b, o + k * 5 + 1, none⟩ = some (.int .i64 s.thick) ∧ w.cell? ⟨b, o + k * 5 + 2, none⟩ = some (.int .i64 s.tint) ∧ w.cell? ⟨b, o + k * 5 + 3, none⟩ = some (.string s.mark) ∧ w.cell? ⟨b, o + k * 5 + 4, none⟩ = some (.bool s.laid) := by
  have hl : k < l.length := by have := h.1; rw [flat_len] at this; omega
  obtain ⟨⟨b, o, sp⟩, e, hc⟩ := h.2 (by rw [flat_len]; omega)
  have h0 := hc 0 _ (flat_at l 0 l[0] (List.getElem?_eq_getElem (by omega)) 0 (by omega))
  obtain rfl : sp = none := cell_spot (b := b) (o := o) h0
  have hs := List.getElem?_eq_getElem hl
  have f := flat_at l k _ hs
  have g := fun j u hu => add_none b o j ▸ hc j u hu
  exact ⟨b, o, l[k], e, hs, g _ _ (f 0 (by omega)), g _ _ (f 1 (by omega)), g _ _ (f 2 (by omega)), g _ _ (f 3 (by omega)), g _ _ (f 4 (by omega))⟩
theorem len_of {w : World} {A : Option Addr} {n : Nat} {l : List Paper} (h : Papers w A n l) : l.length = n := by
  have := h.1
  rw [flat_len] at this; omega

/-- a slice of records that came in: the list that it reads as -/
structure Came (w : World) (A : Option Addr) (len cap : Nat) (l : List Paper) : Prop where
  cells : Papers w A len l
  small : len ≤ maxLen
  fits : ∀ s ∈ l, s.fits
theorem Came.len {w : World} {A : Option Addr} {len cap : Nat} {l : List Paper} (h : Came w A len cap l) : l.length = len := len_of h.cells

section
variable {H : Type} {enc : TypeId × Value → H} {w : World} {base : Nat} {spare : Nat → Bool} {held : Bool}
theorem read_one {n : Nat} {cs : List Value} {x : DataW H × List MemPlace} (h : DataW.trod enc Try.prog w base spare held n 89 cs = some x) : ∃ s : Paper, cs = s.cells ∧ s.fits := by
  have hc : Try.prog.cellsOf 89 = 5 := by kernel_rfl
  obtain ⟨hl, hf⟩ := read_fields Try.underlying89 (by kernel_rfl) hc h
  rw [hc] at hl
  match cs, hl with
  | [v0, v1, v2, v3, v4], _ =>
    obtain ⟨u0, n0, y0, eu0, t0⟩ := hf 0 _ rfl
    obtain ⟨x0, e0, _, f0⟩ := DataW.trod_int Try.underlying3 t0
    obtain rfl : v0 = u0 := by simpa using eu0
    obtain rfl : v0 = .int .i64 x0 := by simpa using e0
    obtain ⟨u1, n1, y1, eu1, t1⟩ := hf 1 _ rfl
    obtain ⟨x1, e1, _, f1⟩ := DataW.trod_int Try.underlying3 t1
    obtain rfl : v1 = u1 := by simpa using eu1
    obtain rfl : v1 = .int .i64 x1 := by simpa using e1
    obtain ⟨u2, n2, y2, eu2, t2⟩ := hf 2 _ rfl
    obtain ⟨x2, e2, _, f2⟩ := DataW.trod_int Try.underlying3 t2
    obtain rfl : v2 = u2 := by simpa using eu2
    obtain rfl : v2 = .int .i64 x2 := by simpa using e2
    obtain ⟨u3, n3, y3, eu3, t3⟩ := hf 3 _ rfl
    obtain ⟨x3, e3, _, f3⟩ := DataW.trod_string Try.underlying9 t3
    obtain rfl : v3 = u3 := by simpa using eu3
    obtain rfl : v3 = .string x3 := by simpa using e3
    obtain ⟨u4, n4, y4, eu4, t4⟩ := hf 4 _ rfl
    obtain ⟨x4, e4, _⟩ := DataW.trod_bool Try.underlying4 t4
    obtain rfl : v4 = u4 := by simpa using eu4
    obtain rfl : v4 = .bool x4 := by simpa using e4
    exact ⟨⟨x0, x1, x2, x3, x4⟩, rfl, f0, f1, f2, f3, trivial⟩
theorem open_one {r : Reach} {b0 : Nat} {v : Value} {d : DataW H} {p : List MemPlace} (hv : Value.okWide Try.prog w r b0 89 v) (h : DataW.Trod enc Try.prog w base spare held 89 v d p) :
    ∃ s : Paper, v = s.val ∧ s.fits := by
  obtain ⟨cs, n, x, rfl, ht⟩ := agg_any Try.underlying89 hv h
  obtain ⟨s, e, hs⟩ := read_one ht
  refine ⟨s, ?_, hs⟩
  obtain ⟨l⟩ := cs
  obtain rfl : l = s.cells := by simpa using e
  rfl
end
theorem open_many {H : Type} {enc : TypeId × Value → H} {W : World} {a : Option Addr} {len cap : Nat} {d : DataW H} {p : List MemPlace}
    (h : DataW.Trod enc Try.prog W 0 (fun _ => true) true 42 (.slice a len cap) d p) : ∃ l : List Paper, Came W a len cap l := by
  obtain ⟨fuel, hf⟩ := h
  have ck : Try.prog.cellsOf 89 = 5 := by kernel_rfl
  rcases open_slice Try.underlying42 hf with ⟨hcs, _⟩ | ⟨x, ln, cp, m, n, D, Pl, hcs, hb, hl, hm, hmm, _, hi⟩
  · simp [Value.cells] at hcs
    obtain ⟨rfl, rfl, rfl⟩ := hcs
    exact ⟨[], Cells.nil_ _ _ _, by unfold maxLen; omega, by intro s hs; simp at hs⟩
  · simp [Value.cells] at hcs
    obtain ⟨rfl, rfl, rfl⟩ := hcs
    simp only [if_true] at hmm
    subst hmm
    rw [ck] at hi
    obtain ⟨l, hll, hp⟩ := list_of (fun k s => Paper.fits s ∧ ∀ j, j < 5 → W.cell? (x.add (k * 5 + j)) = s.cells[j]?) len (fun k hk => by
      obtain ⟨cs', hc, ht⟩ := hi k (by omega)
      obtain ⟨s, rfl, hfit⟩ := read_one ht
      refine ⟨s, hfit, fun j hj => ?_⟩
      have := (World.cells?_some hc).2.2 j hj
      rw [Go.Deep.add_add] at this
      exact this)
    refine ⟨l, ⟨by rw [flat_len, hll], fun h0 => ⟨x, rfl, fun j u hu => ?_⟩⟩, by omega, fun s hs => ?_⟩
    · have hj : j < (flat l).length := (List.getElem?_eq_some_iff.1 hu).1
      rw [flat_len] at hj
      have hk : j / 5 < l.length := by omega
      have e := flat_at l (j / 5) l[j/5] (List.getElem?_eq_getElem hk) (j % 5) (by omega)
      rw [show j / 5 * 5 + j % 5 = j by omega, hu] at e
      have := (hp (j / 5) l[j/5] (List.getElem?_eq_getElem hk)).2 (j % 5) (by omega)
      rw [show j / 5 * 5 + j % 5 = j by omega, ← e] at this
      exact this
    · obtain ⟨k, hk⟩ := List.getElem?_of_mem hs
      exact (hp k s hk).1

/-- a record that was boxed -/
theorem box_ {w : World} {s : Paper} {g : Nat} (h : Cells w 5 (some ⟨g, 0, none⟩) 1 s.cells) : w.cell? ⟨g, 0, none⟩ = some (.int .i64 s.id) ∧ w.cell? ⟨g, 1, none⟩ = some (.int .i64 s.thick) ∧ w.cell? ⟨g, 2, none⟩ = some (.int .i64 s.tint) ∧ w.cell? ⟨g, 3, none⟩ = some (.string s.mark) ∧ w.cell? ⟨g, 4, none⟩ = some (.bool s.laid) := by
  obtain ⟨ad, e, hc⟩ := h.2 (by simp [Paper.cells])
  obtain rfl := Option.some.inj e
  have gg := fun j u hu => add_none g 0 j ▸ hc j u hu
  exact ⟨by simpa using gg 0 _ rfl, by simpa using gg 1 _ rfl, by simpa using gg 2 _ rfl, by simpa using gg 3 _ rfl, by simpa using gg 4 _ rfl⟩
theorem box_new (w : World) (s : Paper) (T : TypeId) : Cells (w.alloc (.cells #[.int .i64 s.id, .int .i64 s.thick, .int .i64 s.tint, .string s.mark, .bool s.laid] T)) 5 (some ⟨w.heap.size, 0, none⟩) 1 s.cells :=
  ⟨by simp [Paper.cells], fun _ => ⟨_, rfl, fun j u hu => by
    have hj : j < 5 := by have := (List.getElem?_eq_some_iff.1 hu).1; simpa [Paper.cells] using this
    rw [add_none, World.cell?_alloc_new]
    match j, hj with
    | 0, _ => simpa [Paper.cells] using hu
    | 1, _ => simpa [Paper.cells] using hu
    | 2, _ => simpa [Paper.cells] using hu
    | 3, _ => simpa [Paper.cells] using hu
    | 4, _ => simpa [Paper.cells] using hu
⟩⟩
end Go.Proofs.Ytdgbigkcophjoaa.OPaper

/- loop.example/g01062/laws.szPaper as a plain function, and the contract of the program's: where the plain one has an answer, the program has it. Conditions: slices read as lists. -/
namespace Go.Proofs.Ytdgbigkcophjoaa.GlSzPaper
set_option linter.unusedVariables false
set_option linter.unusedSimpArgs false
open Go.RowKit
open Go.Proofs.Ytdgbigkcophjoaa.Rowed Go.Proofs.Ytdgbigkcophjoaa.Turn Go.Proofs.Ytdgbigkcophjoaa.Aid Go.Proofs.Ytdgbigkcophjoaa.GoP Go.Proofs.Ytdgbigkcophjoaa.GoM

def P (a : Go.Proofs.Ytdgbigkcophjoaa.PPaper.Paper) (left : Int) : Option (Int) :=
  unPaper a fun (a_id : Int) (a_thick : Int) (a_tint : Int) (a_mark : ByteArray) (a_laid : Bool) =>
  letK (IntKind.i64.wrap (left - (a_mark.size : Int))) fun (t_6 : Int) =>
  letK (decide (t_6 < 0)) fun (t_9 : Bool) =>
  iteK t_9
  (some (-1))
  (some t_6)

set_option maxRecDepth 100000 in
set_option maxHeartbeats 2000000 in
theorem C (a : Go.Proofs.Ytdgbigkcophjoaa.PPaper.Paper) (left : Int)   (w : World)   {r : Int} (H : Hid (P a left = some r)) :
    Calls Try.prog 76 #[a.val, .int .i64 left] w (Gives (.int .i64 r) w) := by
  have HB := Lib.hid (Below.refl w.heap.size w)
  unfold P at H
  obtain ⟨a_id, a_thick, a_tint, a_mark, a_laid⟩ := a
  replace H := unPaper_hid H
  unfold Go.Proofs.Ytdgbigkcophjoaa.PPaper.Paper.val
  go_enter Try.func76, Try.ntmps76
  obtain ⟨w_a_0, hw_a_0⟩ : ∃ x, w.alloc (.cells #[.int .i64 a_id, .int .i64 a_thick, .int .i64 a_tint, .string a_mark, .bool a_laid] 89) = x := ⟨_, rfl⟩
  have bw_a_0 : Below w.heap.size w w_a_0 := by rw [← hw_a_0]; exact (Below.refl _ _).alloc (Nat.le_refl _) _
  have HBw_a_0 := Lib.hid (Below.step HB.out bw_a_0)
  clear bw_a_0
  have ka_0_0 : w_a_0.cell? ⟨w.heap.size, 0, none⟩ = some (.int .i64 a_id) := by rw [← hw_a_0]; exact box_new _ _ _ 0 _ rfl
  have ka_0_1 : w_a_0.cell? ⟨w.heap.size, 1, none⟩ = some (.int .i64 a_thick) := by rw [← hw_a_0]; exact box_new _ _ _ 1 _ rfl
  have ka_0_2 : w_a_0.cell? ⟨w.heap.size, 2, none⟩ = some (.int .i64 a_tint) := by rw [← hw_a_0]; exact box_new _ _ _ 2 _ rfl
  have ka_0_3 : w_a_0.cell? ⟨w.heap.size, 3, none⟩ = some (.string a_mark) := by rw [← hw_a_0]; exact box_new _ _ _ 3 _ rfl
  have ka_0_4 : w_a_0.cell? ⟨w.heap.size, 4, none⟩ = some (.bool a_laid) := by rw [← hw_a_0]; exact box_new _ _ _ 4 _ rfl
  replace H := let_hid H
  obtain ⟨t_6, ht_6, H⟩ := H
  replace H := let_hid H
  obtain ⟨t_9, ht_9, H⟩ := H
  cases t_9 with
  | false =>
    replace H := ite_f H
    obtain rfl := ret_hid H
    go_wp2_with fail
    go_ret
    exact ⟨rfl, HBw_a_0.out⟩
  | true =>
    replace H := ite_t H
    obtain rfl := ret_hid H
    go_wp2_with fail
    go_ret
    exact ⟨rfl, HBw_a_0.out⟩
end Go.Proofs.Ytdgbigkcophjoaa.GlSzPaper

/- loop.example/g01062/laws.szPaperS as a plain function, and the contract of the program's: where the plain one has an answer, the program has it. Conditions: slices read as lists. -/
namespace Go.Proofs.Ytdgbigkcophjoaa.GlSzPaperS
set_option linter.unusedVariables false
set_option linter.unusedSimpArgs false
open Go.RowKit
open Go.Proofs.Ytdgbigkcophjoaa.Rowed Go.Proofs.Ytdgbigkcophjoaa.Turn Go.Proofs.Ytdgbigkcophjoaa.Aid Go.Proofs.Ytdgbigkcophjoaa.GoP Go.Proofs.Ytdgbigkcophjoaa.GoM

def l0 (a : (List Go.Proofs.Ytdgbigkcophjoaa.PPaper.Paper)) (k0 : Nat) (s : Int) (nx0 bk0 : Int → Option (Int)) : Option (Int) :=
  letK s fun left_1l0 =>
  Option.bind (idx a (k0 : Int)) fun (yt_16 : Go.Proofs.Ytdgbigkcophjoaa.PPaper.Paper) =>
  unPaper yt_16 fun (t_16_id : Int) (t_16_thick : Int) (t_16_tint : Int) (t_16_mark : ByteArray) (t_16_laid : Bool) =>
  Option.bind (Go.Proofs.Ytdgbigkcophjoaa.GlSzPaper.P (Go.Proofs.Ytdgbigkcophjoaa.PPaper.Paper.mk t_16_id t_16_thick t_16_tint t_16_mark t_16_laid) left_1l0) fun (t_19 : Int) =>
  letK (decide (t_19 < 0)) fun (t_22 : Bool) =>
  iteK t_22
  (some (-1))
  (appK nx0 (t_19))

def e0  (s : Int) : Option (Int) :=
  letK s fun left_1l0 =>
  some left_1l0

def P (a : (List Go.Proofs.Ytdgbigkcophjoaa.PPaper.Paper)) (left : Int) : Option (Int) :=
  letK (IntKind.i64.wrap (left - (a.length : Int))) fun (t_4 : Int) =>
  letK (decide (t_4 < 0)) fun (t_7 : Bool) =>
  iteK t_7
  (some (-1))
  (cntK (l0 a) (a.length) 0 (t_4) (e0 ))

set_option maxRecDepth 100000 in
set_option maxHeartbeats 2000000 in
theorem C (a : (List Go.Proofs.Ytdgbigkcophjoaa.PPaper.Paper)) (left : Int) (A0 : Option Addr) (c0 : Nat)  (w : World) (M0 : Hid (Cells w 5 A0 a.length (Go.Proofs.Ytdgbigkcophjoaa.PPaper.flat a))) (N0 : Hid (a.length ≤ 9223372036854775807))  {r : Int} (H : Hid (P a left = some r)) :
    Calls Try.prog 34 #[.slice A0 a.length c0, .int .i64 left] w (Gives (.int .i64 r) w) := by
  have HB := Lib.hid (Below.refl w.heap.size w)
  unfold P at H
  have N0o := N0.out
  go_enter Try.func34, Try.ntmps34
  replace H := let_hid H
  obtain ⟨t_4, ht_4, H⟩ := H
  replace H := let_hid H
  obtain ⟨t_7, ht_7, H⟩ := H
  cases t_7 with
  | false =>
    replace H := ite_f H
    go_wp2_with fail
    go_loopg [5, 1] (a.length) (fun m_ v5_ v1_ wr => ∃ (k0 : Nat) (left_1l0 : Int), k0 + m_ = a.length ∧ v5_ = .int .i64 (k0 : Int) ∧ v1_ = .int .i64 left_1l0 ∧ Hid (cntK (l0 a) m_ k0 (left_1l0) (e0 ) = some r) ∧ Hid (Below w.heap.size w wr))
    case atStart => exact ⟨0, _, by omega, rfl, rfl, H, HB⟩
    case round =>
      obtain ⟨k0, left_1l0, hkm0, rfl, rfl, H, HBwr0⟩ := hrel
      rename World => wr0
      cases gk with
      | zero =>
        obtain rfl : k0 = a.length := by omega
        have hc0 : decide (((a.length : Nat) : Int) < ((a.length : Nat) : Int)) = false := by simp
        replace H := cnt_zero H
        unfold e0 at H
        replace H := let_hid H
        obtain ⟨_, rfl, H⟩ := H
        obtain rfl := ret_hid H
        go_wp2_with fail
        go_ret
        exact ⟨rfl, HBwr0.out⟩
      | succ m0 =>
        have hlt0 : k0 < a.length := by omega
        have hc0 : decide ((k0 : Int) < ((a.length : Nat) : Int)) = true := by simp; omega
        replace H := cnt_succ H
        unfold l0 at H
        replace H := let_hid H
        obtain ⟨_, rfl, H⟩ := H
        replace H := idx_hid H
        obtain ⟨nt_16, yt_16, et_16, lt_16, gt_16, H⟩ := H
        obtain rfl : k0 = nt_16 := by omega
        clear et_16
        obtain ⟨t_16_id, t_16_thick, t_16_tint, t_16_mark, t_16_laid⟩ := yt_16
        replace H := unPaper_hid H
        obtain ⟨ab_t_16, ao_t_16, zt_16, At_16, z_t_16, ct_16_0, ct_16_1, ct_16_2, ct_16_3, ct_16_4⟩ := Go.Proofs.Ytdgbigkcophjoaa.OPaper.at_ M0.out lt_16
        obtain rfl := Option.some.inj (gt_16.out.symm.trans z_t_16)
        subst At_16
        have ltt_16 := cell_lt ct_16_0
        replace ct_16_0 := cell_below HBwr0.out ct_16_0
        replace ct_16_1 := cell_below HBwr0.out ct_16_1
        replace ct_16_2 := cell_below HBwr0.out ct_16_2
        replace ct_16_3 := cell_below HBwr0.out ct_16_3
        replace ct_16_4 := cell_below HBwr0.out ct_16_4
        clear z_t_16
        have b0t_16 : (0 : Int) ≤ (k0 : Int) := by omega
        have b1t_16 : (k0 : Int) < ((a.length : Nat) : Int) := by omega
        have b2t_16 : ((k0 : Int)).toNat = k0 := by omega
        replace H := bind_hid H
        obtain ⟨t_19, qt_19, H⟩ := H
        go_wp2_with fail
        go_at_call 76
        refine (Go.Proofs.Ytdgbigkcophjoaa.GlSzPaper.C ((Go.Proofs.Ytdgbigkcophjoaa.PPaper.Paper.mk t_16_id t_16_thick t_16_tint t_16_mark t_16_laid)) (left_1l0)  _    qt_19).mono ?_
        rintro e_t_19 wt_19 ⟨rfl, bt_19⟩
        have HBwt_19 := Lib.hid (Below.step HBwr0.out bt_19)
        replace ct_16_0 := cell_below bt_19 ct_16_0
        replace ct_16_1 := cell_below bt_19 ct_16_1
        replace ct_16_2 := cell_below bt_19 ct_16_2
        replace ct_16_3 := cell_below bt_19 ct_16_3
        replace ct_16_4 := cell_below bt_19 ct_16_4
        clear bt_19
        replace H := let_hid H
        obtain ⟨t_22, ht_22, H⟩ := H
        cases t_22 with
        | false =>
          replace H := ite_f H
          replace H := app_hid H
          go_wp2_with fail
          go_roundg m0
          case measure => omega
          case rel => exact ⟨k0 + 1, _, by omega, by go_num, rfl, H, HBwt_19⟩
        | true =>
          replace H := ite_t H
          obtain rfl := ret_hid H
          go_wp2_with fail
          go_ret
          exact ⟨rfl, HBwt_19.out⟩
  | true =>
    replace H := ite_t H
    obtain rfl := ret_hid H
    go_wp2_with fail
    go_ret
    exact ⟨rfl, HB.out⟩
end Go.Proofs.Ytdgbigkcophjoaa.GlSzPaperS

/- loop.example/g01062/laws.toPaper as a plain function, and the contract of the program's: where the plain one has an answer, the program has it. Conditions: slices read as lists. -/
namespace Go.Proofs.Ytdgbigkcophjoaa.GlToPaper
set_option linter.unusedVariables false
set_option linter.unusedSimpArgs false
open Go.RowKit
open Go.Proofs.Ytdgbigkcophjoaa.Rowed Go.Proofs.Ytdgbigkcophjoaa.Turn Go.Proofs.Ytdgbigkcophjoaa.Aid Go.Proofs.Ytdgbigkcophjoaa.GoP Go.Proofs.Ytdgbigkcophjoaa.GoM

def P (a : Go.Proofs.Ytdgbigkcophjoaa.PPaper.Paper) : Option (Go.Proofs.Ytdgbigkcophjoaa.PPaper.Paper) :=
  unPaper a fun (a_id : Int) (a_thick : Int) (a_tint : Int) (a_mark : ByteArray) (a_laid : Bool) =>
  some (Go.Proofs.Ytdgbigkcophjoaa.PPaper.Paper.mk a_id a_thick a_tint a_mark a_laid)

set_option maxRecDepth 100000 in
set_option maxHeartbeats 2000000 in
theorem C (a : Go.Proofs.Ytdgbigkcophjoaa.PPaper.Paper)   (w : World)   {r : Go.Proofs.Ytdgbigkcophjoaa.PPaper.Paper} (H : Hid (P a = some r)) :
    Calls Try.prog 78 #[a.val] w (Gives ((Go.Proofs.Ytdgbigkcophjoaa.PPaper.Paper.val r)) w) := by
  have HB := Lib.hid (Below.refl w.heap.size w)
  unfold P at H
  obtain ⟨a_id, a_thick, a_tint, a_mark, a_laid⟩ := a
  replace H := unPaper_hid H
  unfold Go.Proofs.Ytdgbigkcophjoaa.PPaper.Paper.val
  go_enter Try.func78, Try.ntmps78
  obtain ⟨w_a_0, hw_a_0⟩ : ∃ x, w.alloc (.cells #[.int .i64 a_id, .int .i64 a_thick, .int .i64 a_tint, .string a_mark, .bool a_laid] 89) = x := ⟨_, rfl⟩
  have bw_a_0 : Below w.heap.size w w_a_0 := by rw [← hw_a_0]; exact (Below.refl _ _).alloc (Nat.le_refl _) _
  have HBw_a_0 := Lib.hid (Below.step HB.out bw_a_0)
  clear bw_a_0
  have ka_0_0 : w_a_0.cell? ⟨w.heap.size, 0, none⟩ = some (.int .i64 a_id) := by rw [← hw_a_0]; exact box_new _ _ _ 0 _ rfl
  have ka_0_1 : w_a_0.cell? ⟨w.heap.size, 1, none⟩ = some (.int .i64 a_thick) := by rw [← hw_a_0]; exact box_new _ _ _ 1 _ rfl
  have ka_0_2 : w_a_0.cell? ⟨w.heap.size, 2, none⟩ = some (.int .i64 a_tint) := by rw [← hw_a_0]; exact box_new _ _ _ 2 _ rfl
  have ka_0_3 : w_a_0.cell? ⟨w.heap.size, 3, none⟩ = some (.string a_mark) := by rw [← hw_a_0]; exact box_new _ _ _ 3 _ rfl
  have ka_0_4 : w_a_0.cell? ⟨w.heap.size, 4, none⟩ = some (.bool a_laid) := by rw [← hw_a_0]; exact box_new _ _ _ 4 _ rfl
  obtain ⟨w_t_1, hw_t_1⟩ : ∃ x, w_a_0.alloc (.cells #[.int .i64 0, .int .i64 0, .int .i64 0, .string (⟨#[]⟩ : ByteArray), .bool false] 90) = x := ⟨_, rfl⟩
  have bw_t_1 : Below w_a_0.heap.size w_a_0 w_t_1 := by rw [← hw_t_1]; exact (Below.refl _ _).alloc (Nat.le_refl _) _
  have Dt_1_a_0 := Lib.hid (apart_box ka_0_0)
  have HBw_t_1 := Lib.hid (Below.step HBw_a_0.out bw_t_1)
  have ka_0_0__176 := cell_below bw_t_1 ka_0_0
  have ka_0_1__177 := cell_below bw_t_1 ka_0_1
  have ka_0_2__178 := cell_below bw_t_1 ka_0_2
  have ka_0_3__179 := cell_below bw_t_1 ka_0_3
  have ka_0_4__180 := cell_below bw_t_1 ka_0_4
  clear bw_t_1
  have kt_1_0 : w_t_1.cell? ⟨w_a_0.heap.size, 0, none⟩ = some (.int .i64 0) := by rw [← hw_t_1]; exact box_new _ _ _ 0 _ rfl
  have kt_1_1 : w_t_1.cell? ⟨w_a_0.heap.size, 1, none⟩ = some (.int .i64 0) := by rw [← hw_t_1]; exact box_new _ _ _ 1 _ rfl
  have kt_1_2 : w_t_1.cell? ⟨w_a_0.heap.size, 2, none⟩ = some (.int .i64 0) := by rw [← hw_t_1]; exact box_new _ _ _ 2 _ rfl
  have kt_1_3 : w_t_1.cell? ⟨w_a_0.heap.size, 3, none⟩ = some (.string (⟨#[]⟩ : ByteArray)) := by rw [← hw_t_1]; exact box_new _ _ _ 3 _ rfl
  have kt_1_4 : w_t_1.cell? ⟨w_a_0.heap.size, 4, none⟩ = some (.bool false) := by rw [← hw_t_1]; exact box_new _ _ _ 4 _ rfl
  have Ot_1 : Hid (w_t_1.ownsRow w.heap.size 90 5 (.slice (some ⟨w_a_0.heap.size, 0, none⟩) 1 1) 1 [.int .i64 0, .int .i64 0, .int .i64 0, .string (⟨#[]⟩ : ByteArray), .bool false]) := Lib.hid (by rw [← hw_t_1]; exact own_laid (n := 1) HBw_a_0.out.size rfl rfl (by unfold maxLen; omega))
  obtain ⟨w_out_2, hw_out_2⟩ : ∃ x, w_t_1.alloc (.cells #[.int .i64 0, .int .i64 0, .int .i64 0, .string (⟨#[]⟩ : ByteArray), .bool false] 90) = x := ⟨_, rfl⟩
  have bw_out_2 : Below w_t_1.heap.size w_t_1 w_out_2 := by rw [← hw_out_2]; exact (Below.refl _ _).alloc (Nat.le_refl _) _
  have Dout_2_a_0 := Lib.hid (apart_box ka_0_0__176)
  have Dout_2_t_1 := Lib.hid (apart_box kt_1_0)
  have HBw_out_2 := Lib.hid (Below.step HBw_t_1.out bw_out_2)
  have ka_0_0__181 := cell_below bw_out_2 ka_0_0__176
  have ka_0_1__182 := cell_below bw_out_2 ka_0_1__177
  have ka_0_2__183 := cell_below bw_out_2 ka_0_2__178
  have ka_0_3__184 := cell_below bw_out_2 ka_0_3__179
  have ka_0_4__185 := cell_below bw_out_2 ka_0_4__180
  have kt_1_0__186 := cell_below bw_out_2 kt_1_0
  have kt_1_1__187 := cell_below bw_out_2 kt_1_1
  have kt_1_2__188 := cell_below bw_out_2 kt_1_2
  have kt_1_3__189 := cell_below bw_out_2 kt_1_3
  have kt_1_4__190 := cell_below bw_out_2 kt_1_4
  replace Ot_1 := Lib.hid (own_below Ot_1.out bw_out_2)
  clear bw_out_2
  have kout_2_0 : w_out_2.cell? ⟨w_t_1.heap.size, 0, none⟩ = some (.int .i64 0) := by rw [← hw_out_2]; exact box_new _ _ _ 0 _ rfl
  have kout_2_1 : w_out_2.cell? ⟨w_t_1.heap.size, 1, none⟩ = some (.int .i64 0) := by rw [← hw_out_2]; exact box_new _ _ _ 1 _ rfl
  have kout_2_2 : w_out_2.cell? ⟨w_t_1.heap.size, 2, none⟩ = some (.int .i64 0) := by rw [← hw_out_2]; exact box_new _ _ _ 2 _ rfl
  have kout_2_3 : w_out_2.cell? ⟨w_t_1.heap.size, 3, none⟩ = some (.string (⟨#[]⟩ : ByteArray)) := by rw [← hw_out_2]; exact box_new _ _ _ 3 _ rfl
  have kout_2_4 : w_out_2.cell? ⟨w_t_1.heap.size, 4, none⟩ = some (.bool false) := by rw [← hw_out_2]; exact box_new _ _ _ 4 _ rfl
  have Oout_2 : Hid (w_out_2.ownsRow w.heap.size 90 5 (.slice (some ⟨w_t_1.heap.size, 0, none⟩) 1 1) 1 [.int .i64 0, .int .i64 0, .int .i64 0, .string (⟨#[]⟩ : ByteArray), .bool false]) := Lib.hid (by rw [← hw_out_2]; exact own_laid (n := 1) HBw_t_1.out.size rfl rfl (by unfold maxLen; omega))
  obtain ⟨wb6_6, hwb6_6⟩ : ∃ x, (w_out_2).setCell ⟨w_t_1.heap.size, 0, none⟩ (.int .i64 a_id) = x := ⟨_, rfl⟩
  have z0b6_6 := Oout_2.out.frozenAt 0
  have Sb6_6 := Lib.hid (own_stores [(0, .int .i64 a_id)] Oout_2.out)
  have Pb6_6 : Hid (wb6_6.ownsRow w.heap.size 90 5 (.slice (some ⟨w_t_1.heap.size, 0, none⟩) 1 1) 1 [.int .i64 a_id, .int .i64 0, .int .i64 0, .string (⟨#[]⟩ : ByteArray), .bool false]) := Lib.hid (by rw [← hwb6_6]; exact Sb6_6.out.1)
  have Gb6_6 : Hid (w_out_2.grownBy wb6_6 (Value.slice (some ⟨w_t_1.heap.size, 0, none⟩) 1 1).ownBlock) := Lib.hid (by rw [← hwb6_6]; exact Sb6_6.out.2)
  have HBwb6_6 := Lib.hid (HBw_out_2.out.grown Gb6_6.out HBw_out_2.out.size (fun q hq => (Oout_2.out.lt q hq).1))
  clear Sb6_6
  have ka_0_0__191 := cell_other ka_0_0__181 Gb6_6.out Dout_2_a_0.out
  have ka_0_1__192 := cell_other ka_0_1__182 Gb6_6.out Dout_2_a_0.out
  have ka_0_2__193 := cell_other ka_0_2__183 Gb6_6.out Dout_2_a_0.out
  have ka_0_3__194 := cell_other ka_0_3__184 Gb6_6.out Dout_2_a_0.out
  have ka_0_4__195 := cell_other ka_0_4__185 Gb6_6.out Dout_2_a_0.out
  have kt_1_0__196 := cell_other kt_1_0__186 Gb6_6.out Dout_2_t_1.out
  have kt_1_1__197 := cell_other kt_1_1__187 Gb6_6.out Dout_2_t_1.out
  have kt_1_2__198 := cell_other kt_1_2__188 Gb6_6.out Dout_2_t_1.out
  have kt_1_3__199 := cell_other kt_1_3__189 Gb6_6.out Dout_2_t_1.out
  have kt_1_4__200 := cell_other kt_1_4__190 Gb6_6.out Dout_2_t_1.out
  replace Ot_1 := Lib.hid (own_other Ot_1.out Gb6_6.out Dout_2_t_1.out)
  clear Oout_2 Gb6_6
  have kout_2_0__201 : wb6_6.cell? ⟨w_t_1.heap.size, 0, none⟩ = some (.int .i64 a_id) := Pb6_6.out.cells rfl 0 _ rfl
  have kout_2_1__202 : wb6_6.cell? ⟨w_t_1.heap.size, 1, none⟩ = some (.int .i64 0) := Pb6_6.out.cells rfl 1 _ rfl
  have kout_2_2__203 : wb6_6.cell? ⟨w_t_1.heap.size, 2, none⟩ = some (.int .i64 0) := Pb6_6.out.cells rfl 2 _ rfl
  have kout_2_3__204 : wb6_6.cell? ⟨w_t_1.heap.size, 3, none⟩ = some (.string (⟨#[]⟩ : ByteArray)) := Pb6_6.out.cells rfl 3 _ rfl
  have kout_2_4__205 : wb6_6.cell? ⟨w_t_1.heap.size, 4, none⟩ = some (.bool false) := Pb6_6.out.cells rfl 4 _ rfl
  obtain ⟨wb10_10, hwb10_10⟩ : ∃ x, (wb6_6).setCell ⟨w_t_1.heap.size, 1, none⟩ (.int .i64 a_thick) = x := ⟨_, rfl⟩
  have z0b10_10 := Pb6_6.out.frozenAt 1
  have Sb10_10 := Lib.hid (own_stores [(1, .int .i64 a_thick)] Pb6_6.out)
  have Pb10_10 : Hid (wb10_10.ownsRow w.heap.size 90 5 (.slice (some ⟨w_t_1.heap.size, 0, none⟩) 1 1) 1 [.int .i64 a_id, .int .i64 a_thick, .int .i64 0, .string (⟨#[]⟩ : ByteArray), .bool false]) := Lib.hid (by rw [← hwb10_10]; exact Sb10_10.out.1)
  have Gb10_10 : Hid (wb6_6.grownBy wb10_10 (Value.slice (some ⟨w_t_1.heap.size, 0, none⟩) 1 1).ownBlock) := Lib.hid (by rw [← hwb10_10]; exact Sb10_10.out.2)
  have HBwb10_10 := Lib.hid (HBwb6_6.out.grown Gb10_10.out HBwb6_6.out.size (fun q hq => (Pb6_6.out.lt q hq).1))
  clear Sb10_10
  have ka_0_0__206 := cell_other ka_0_0__191 Gb10_10.out Dout_2_a_0.out
  have ka_0_1__207 := cell_other ka_0_1__192 Gb10_10.out Dout_2_a_0.out
  have ka_0_2__208 := cell_other ka_0_2__193 Gb10_10.out Dout_2_a_0.out
  have ka_0_3__209 := cell_other ka_0_3__194 Gb10_10.out Dout_2_a_0.out
  have ka_0_4__210 := cell_other ka_0_4__195 Gb10_10.out Dout_2_a_0.out
  have kt_1_0__211 := cell_other kt_1_0__196 Gb10_10.out Dout_2_t_1.out
  have kt_1_1__212 := cell_other kt_1_1__197 Gb10_10.out Dout_2_t_1.out
  have kt_1_2__213 := cell_other kt_1_2__198 Gb10_10.out Dout_2_t_1.out
  have kt_1_3__214 := cell_other kt_1_3__199 Gb10_10.out Dout_2_t_1.out
  have kt_1_4__215 := cell_other kt_1_4__200 Gb10_10.out Dout_2_t_1.out
  replace Ot_1 := Lib.hid (own_other Ot_1.out Gb10_10.out Dout_2_t_1.out)
  clear Pb6_6 Gb10_10
  have kout_2_0__216 : wb10_10.cell? ⟨w_t_1.heap.size, 0, none⟩ = some (.int .i64 a_id) := Pb10_10.out.cells rfl 0 _ rfl
  have kout_2_1__217 : wb10_10.cell? ⟨w_t_1.heap.size, 1, none⟩ = some (.int .i64 a_thick) := Pb10_10.out.cells rfl 1 _ rfl
  have kout_2_2__218 : wb10_10.cell? ⟨w_t_1.heap.size, 2, none⟩ = some (.int .i64 0) := Pb10_10.out.cells rfl 2 _ rfl
  have kout_2_3__219 : wb10_10.cell? ⟨w_t_1.heap.size, 3, none⟩ = some (.string (⟨#[]⟩ : ByteArray)) := Pb10_10.out.cells rfl 3 _ rfl
  have kout_2_4__220 : wb10_10.cell? ⟨w_t_1.heap.size, 4, none⟩ = some (.bool false) := Pb10_10.out.cells rfl 4 _ rfl
  obtain ⟨wb14_14, hwb14_14⟩ : ∃ x, (wb10_10).setCell ⟨w_t_1.heap.size, 2, none⟩ (.int .i64 a_tint) = x := ⟨_, rfl⟩
  have z0b14_14 := Pb10_10.out.frozenAt 2
  have Sb14_14 := Lib.hid (own_stores [(2, .int .i64 a_tint)] Pb10_10.out)
  have Pb14_14 : Hid (wb14_14.ownsRow w.heap.size 90 5 (.slice (some ⟨w_t_1.heap.size, 0, none⟩) 1 1) 1 [.int .i64 a_id, .int .i64 a_thick, .int .i64 a_tint, .string (⟨#[]⟩ : ByteArray), .bool false]) := Lib.hid (by rw [← hwb14_14]; exact Sb14_14.out.1)
  have Gb14_14 : Hid (wb10_10.grownBy wb14_14 (Value.slice (some ⟨w_t_1.heap.size, 0, none⟩) 1 1).ownBlock) := Lib.hid (by rw [← hwb14_14]; exact Sb14_14.out.2)
  have HBwb14_14 := Lib.hid (HBwb10_10.out.grown Gb14_14.out HBwb10_10.out.size (fun q hq => (Pb10_10.out.lt q hq).1))
  clear Sb14_14
  have ka_0_0__221 := cell_other ka_0_0__206 Gb14_14.out Dout_2_a_0.out
  have ka_0_1__222 := cell_other ka_0_1__207 Gb14_14.out Dout_2_a_0.out
  have ka_0_2__223 := cell_other ka_0_2__208 Gb14_14.out Dout_2_a_0.out
  have ka_0_3__224 := cell_other ka_0_3__209 Gb14_14.out Dout_2_a_0.out
  have ka_0_4__225 := cell_other ka_0_4__210 Gb14_14.out Dout_2_a_0.out
  have kt_1_0__226 := cell_other kt_1_0__211 Gb14_14.out Dout_2_t_1.out
  have kt_1_1__227 := cell_other kt_1_1__212 Gb14_14.out Dout_2_t_1.out
  have kt_1_2__228 := cell_other kt_1_2__213 Gb14_14.out Dout_2_t_1.out
  have kt_1_3__229 := cell_other kt_1_3__214 Gb14_14.out Dout_2_t_1.out
  have kt_1_4__230 := cell_other kt_1_4__215 Gb14_14.out Dout_2_t_1.out
  replace Ot_1 := Lib.hid (own_other Ot_1.out Gb14_14.out Dout_2_t_1.out)
  clear Pb10_10 Gb14_14
  have kout_2_0__231 : wb14_14.cell? ⟨w_t_1.heap.size, 0, none⟩ = some (.int .i64 a_id) := Pb14_14.out.cells rfl 0 _ rfl
  have kout_2_1__232 : wb14_14.cell? ⟨w_t_1.heap.size, 1, none⟩ = some (.int .i64 a_thick) := Pb14_14.out.cells rfl 1 _ rfl
  have kout_2_2__233 : wb14_14.cell? ⟨w_t_1.heap.size, 2, none⟩ = some (.int .i64 a_tint) := Pb14_14.out.cells rfl 2 _ rfl
  have kout_2_3__234 : wb14_14.cell? ⟨w_t_1.heap.size, 3, none⟩ = some (.string (⟨#[]⟩ : ByteArray)) := Pb14_14.out.cells rfl 3 _ rfl
  have kout_2_4__235 : wb14_14.cell? ⟨w_t_1.heap.size, 4, none⟩ = some (.bool false) := Pb14_14.out.cells rfl 4 _ rfl
  obtain ⟨wb18_18, hwb18_18⟩ : ∃ x, (wb14_14).setCell ⟨w_t_1.heap.size, 3, none⟩ (.string a_mark) = x := ⟨_, rfl⟩
  have z0b18_18 := Pb14_14.out.frozenAt 3
  have Sb18_18 := Lib.hid (own_stores [(3, .string a_mark)] Pb14_14.out)
  have Pb18_18 : Hid (wb18_18.ownsRow w.heap.size 90 5 (.slice (some ⟨w_t_1.heap.size, 0, none⟩) 1 1) 1 [.int .i64 a_id, .int .i64 a_thick, .int .i64 a_tint, .string a_mark, .bool false]) := Lib.hid (by rw [← hwb18_18]; exact Sb18_18.out.1)
  have Gb18_18 : Hid (wb14_14.grownBy wb18_18 (Value.slice (some ⟨w_t_1.heap.size, 0, none⟩) 1 1).ownBlock) := Lib.hid (by rw [← hwb18_18]; exact Sb18_18.out.2)
  have HBwb18_18 := Lib.hid (HBwb14_14.out.grown Gb18_18.out HBwb14_14.out.size (fun q hq => (Pb14_14.out.lt q hq).1))
  clear Sb18_18
  have ka_0_0__236 := cell_other ka_0_0__221 Gb18_18.out Dout_2_a_0.out
  have ka_0_1__237 := cell_other ka_0_1__222 Gb18_18.out Dout_2_a_0.out
  have ka_0_2__238 := cell_other ka_0_2__223 Gb18_18.out Dout_2_a_0.out
  have ka_0_3__239 := cell_other ka_0_3__224 Gb18_18.out Dout_2_a_0.out
  have ka_0_4__240 := cell_other ka_0_4__225 Gb18_18.out Dout_2_a_0.out
  have kt_1_0__241 := cell_other kt_1_0__226 Gb18_18.out Dout_2_t_1.out
  have kt_1_1__242 := cell_other kt_1_1__227 Gb18_18.out Dout_2_t_1.out
  have kt_1_2__243 := cell_other kt_1_2__228 Gb18_18.out Dout_2_t_1.out
  have kt_1_3__244 := cell_other kt_1_3__229 Gb18_18.out Dout_2_t_1.out
  have kt_1_4__245 := cell_other kt_1_4__230 Gb18_18.out Dout_2_t_1.out
  replace Ot_1 := Lib.hid (own_other Ot_1.out Gb18_18.out Dout_2_t_1.out)
  clear Pb14_14 Gb18_18
  have kout_2_0__246 : wb18_18.cell? ⟨w_t_1.heap.size, 0, none⟩ = some (.int .i64 a_id) := Pb18_18.out.cells rfl 0 _ rfl
  have kout_2_1__247 : wb18_18.cell? ⟨w_t_1.heap.size, 1, none⟩ = some (.int .i64 a_thick) := Pb18_18.out.cells rfl 1 _ rfl
  have kout_2_2__248 : wb18_18.cell? ⟨w_t_1.heap.size, 2, none⟩ = some (.int .i64 a_tint) := Pb18_18.out.cells rfl 2 _ rfl
  have kout_2_3__249 : wb18_18.cell? ⟨w_t_1.heap.size, 3, none⟩ = some (.string a_mark) := Pb18_18.out.cells rfl 3 _ rfl
  have kout_2_4__250 : wb18_18.cell? ⟨w_t_1.heap.size, 4, none⟩ = some (.bool false) := Pb18_18.out.cells rfl 4 _ rfl
  obtain ⟨wb22_22, hwb22_22⟩ : ∃ x, (wb18_18).setCell ⟨w_t_1.heap.size, 4, none⟩ (.bool a_laid) = x := ⟨_, rfl⟩
  have z0b22_22 := Pb18_18.out.frozenAt 4
  have Sb22_22 := Lib.hid (own_stores [(4, .bool a_laid)] Pb18_18.out)
  have Pb22_22 : Hid (wb22_22.ownsRow w.heap.size 90 5 (.slice (some ⟨w_t_1.heap.size, 0, none⟩) 1 1) 1 [.int .i64 a_id, .int .i64 a_thick, .int .i64 a_tint, .string a_mark, .bool a_laid]) := Lib.hid (by rw [← hwb22_22]; exact Sb22_22.out.1)
  have Gb22_22 : Hid (wb18_18.grownBy wb22_22 (Value.slice (some ⟨w_t_1.heap.size, 0, none⟩) 1 1).ownBlock) := Lib.hid (by rw [← hwb22_22]; exact Sb22_22.out.2)
  have HBwb22_22 := Lib.hid (HBwb18_18.out.grown Gb22_22.out HBwb18_18.out.size (fun q hq => (Pb18_18.out.lt q hq).1))
  clear Sb22_22
  have ka_0_0__251 := cell_other ka_0_0__236 Gb22_22.out Dout_2_a_0.out
  have ka_0_1__252 := cell_other ka_0_1__237 Gb22_22.out Dout_2_a_0.out
  have ka_0_2__253 := cell_other ka_0_2__238 Gb22_22.out Dout_2_a_0.out
  have ka_0_3__254 := cell_other ka_0_3__239 Gb22_22.out Dout_2_a_0.out
  have ka_0_4__255 := cell_other ka_0_4__240 Gb22_22.out Dout_2_a_0.out
  have kt_1_0__256 := cell_other kt_1_0__241 Gb22_22.out Dout_2_t_1.out
  have kt_1_1__257 := cell_other kt_1_1__242 Gb22_22.out Dout_2_t_1.out
  have kt_1_2__258 := cell_other kt_1_2__243 Gb22_22.out Dout_2_t_1.out
  have kt_1_3__259 := cell_other kt_1_3__244 Gb22_22.out Dout_2_t_1.out
  have kt_1_4__260 := cell_other kt_1_4__245 Gb22_22.out Dout_2_t_1.out
  replace Ot_1 := Lib.hid (own_other Ot_1.out Gb22_22.out Dout_2_t_1.out)
  clear Pb18_18 Gb22_22
  have kout_2_0__261 : wb22_22.cell? ⟨w_t_1.heap.size, 0, none⟩ = some (.int .i64 a_id) := Pb22_22.out.cells rfl 0 _ rfl
  have kout_2_1__262 : wb22_22.cell? ⟨w_t_1.heap.size, 1, none⟩ = some (.int .i64 a_thick) := Pb22_22.out.cells rfl 1 _ rfl
  have kout_2_2__263 : wb22_22.cell? ⟨w_t_1.heap.size, 2, none⟩ = some (.int .i64 a_tint) := Pb22_22.out.cells rfl 2 _ rfl
  have kout_2_3__264 : wb22_22.cell? ⟨w_t_1.heap.size, 3, none⟩ = some (.string a_mark) := Pb22_22.out.cells rfl 3 _ rfl
  have kout_2_4__265 : wb22_22.cell? ⟨w_t_1.heap.size, 4, none⟩ = some (.bool a_laid) := Pb22_22.out.cells rfl 4 _ rfl
  obtain ⟨wb24_24, hwb24_24⟩ : ∃ x, (((((wb22_22).setCell ⟨w_a_0.heap.size, 0, none⟩ (.int .i64 a_id)).setCell ⟨w_a_0.heap.size, 1, none⟩ (.int .i64 a_thick)).setCell ⟨w_a_0.heap.size, 2, none⟩ (.int .i64 a_tint)).setCell ⟨w_a_0.heap.size, 3, none⟩ (.string a_mark)).setCell ⟨w_a_0.heap.size, 4, none⟩ (.bool a_laid) = x := ⟨_, rfl⟩
  have z0b24_24 := Ot_1.out.frozenAt 0
  have z1b24_24 := Ot_1.out.frozenAt 1
  have z2b24_24 := Ot_1.out.frozenAt 2
  have z3b24_24 := Ot_1.out.frozenAt 3
  have z4b24_24 := Ot_1.out.frozenAt 4
  have Sb24_24 := Lib.hid (own_stores [(0, .int .i64 a_id), (1, .int .i64 a_thick), (2, .int .i64 a_tint), (3, .string a_mark), (4, .bool a_laid)] Ot_1.out)
  have Pb24_24 : Hid (wb24_24.ownsRow w.heap.size 90 5 (.slice (some ⟨w_a_0.heap.size, 0, none⟩) 1 1) 1 [.int .i64 a_id, .int .i64 a_thick, .int .i64 a_tint, .string a_mark, .bool a_laid]) := Lib.hid (by rw [← hwb24_24]; exact Sb24_24.out.1)
  have Gb24_24 : Hid (wb22_22.grownBy wb24_24 (Value.slice (some ⟨w_a_0.heap.size, 0, none⟩) 1 1).ownBlock) := Lib.hid (by rw [← hwb24_24]; exact Sb24_24.out.2)
  have HBwb24_24 := Lib.hid (HBwb22_22.out.grown Gb24_24.out HBwb22_22.out.size (fun q hq => (Ot_1.out.lt q hq).1))
  clear Sb24_24
  have ka_0_0__266 := cell_other ka_0_0__251 Gb24_24.out Dt_1_a_0.out
  have ka_0_1__267 := cell_other ka_0_1__252 Gb24_24.out Dt_1_a_0.out
  have ka_0_2__268 := cell_other ka_0_2__253 Gb24_24.out Dt_1_a_0.out
  have ka_0_3__269 := cell_other ka_0_3__254 Gb24_24.out Dt_1_a_0.out
  have ka_0_4__270 := cell_other ka_0_4__255 Gb24_24.out Dt_1_a_0.out
  have kout_2_0__271 := cell_other kout_2_0__261 Gb24_24.out (Apart.symm Dout_2_t_1.out)
  have kout_2_1__272 := cell_other kout_2_1__262 Gb24_24.out (Apart.symm Dout_2_t_1.out)
  have kout_2_2__273 := cell_other kout_2_2__263 Gb24_24.out (Apart.symm Dout_2_t_1.out)
  have kout_2_3__274 := cell_other kout_2_3__264 Gb24_24.out (Apart.symm Dout_2_t_1.out)
  have kout_2_4__275 := cell_other kout_2_4__265 Gb24_24.out (Apart.symm Dout_2_t_1.out)
  replace Pb22_22 := Lib.hid (own_other Pb22_22.out Gb24_24.out (Apart.symm Dout_2_t_1.out))
  clear Ot_1 Gb24_24
  have kt_1_0__276 : wb24_24.cell? ⟨w_a_0.heap.size, 0, none⟩ = some (.int .i64 a_id) := Pb24_24.out.cells rfl 0 _ rfl
  have kt_1_1__277 : wb24_24.cell? ⟨w_a_0.heap.size, 1, none⟩ = some (.int .i64 a_thick) := Pb24_24.out.cells rfl 1 _ rfl
  have kt_1_2__278 : wb24_24.cell? ⟨w_a_0.heap.size, 2, none⟩ = some (.int .i64 a_tint) := Pb24_24.out.cells rfl 2 _ rfl
  have kt_1_3__279 : wb24_24.cell? ⟨w_a_0.heap.size, 3, none⟩ = some (.string a_mark) := Pb24_24.out.cells rfl 3 _ rfl
  have kt_1_4__280 : wb24_24.cell? ⟨w_a_0.heap.size, 4, none⟩ = some (.bool a_laid) := Pb24_24.out.cells rfl 4 _ rfl
  cases ret_hid H
  go_wp2_with fail
  (try simp only [Exit.inBlock, Exit.then])
  refine bodyPost_ret (v := .agg #[.int .i64 a_id, .int .i64 a_thick, .int .i64 a_tint, .string a_mark, .bool a_laid]) ?hr_ ?hd_ ?_
  case hd_ => rfl
  case hr_ => simp [results, Try.results78, kt_1_0__276, kt_1_1__277, kt_1_2__278, kt_1_3__279, kt_1_4__280, go_sem]
  exact ⟨rfl, HBwb24_24.out⟩
end Go.Proofs.Ytdgbigkcophjoaa.GlToPaper

/- loop.example/g01062/laws.toPaperS as a plain function, and the contract of the program's: where the plain one has an answer, the program has it. Conditions: slices read as lists. -/
namespace Go.Proofs.Ytdgbigkcophjoaa.GlToPaperS
set_option linter.unusedVariables false
set_option linter.unusedSimpArgs false
open Go.RowKit
open Go.Proofs.Ytdgbigkcophjoaa.Rowed Go.Proofs.Ytdgbigkcophjoaa.Turn Go.Proofs.Ytdgbigkcophjoaa.Aid Go.Proofs.Ytdgbigkcophjoaa.GoP Go.Proofs.Ytdgbigkcophjoaa.GoM

def l0 (a : (List Go.Proofs.Ytdgbigkcophjoaa.PPaper.Paper)) (k0 : Nat) (s : (List Go.Proofs.Ytdgbigkcophjoaa.PPaper.Paper)) (nx0 bk0 : (List Go.Proofs.Ytdgbigkcophjoaa.PPaper.Paper) → Option ((List Go.Proofs.Ytdgbigkcophjoaa.PPaper.Paper))) : Option ((List Go.Proofs.Ytdgbigkcophjoaa.PPaper.Paper)) :=
  letK s fun out_3l0 =>
  Option.bind (idx a (k0 : Int)) fun (yt_14 : Go.Proofs.Ytdgbigkcophjoaa.PPaper.Paper) =>
  unPaper yt_14 fun (t_14_id : Int) (t_14_thick : Int) (t_14_tint : Int) (t_14_mark : ByteArray) (t_14_laid : Bool) =>
  Option.bind (Go.Proofs.Ytdgbigkcophjoaa.GlToPaper.P (Go.Proofs.Ytdgbigkcophjoaa.PPaper.Paper.mk t_14_id t_14_thick t_14_tint t_14_mark t_14_laid)) fun (t_16 : Go.Proofs.Ytdgbigkcophjoaa.PPaper.Paper) =>
  unPaper t_16 fun (t_16_id : Int) (t_16_thick : Int) (t_16_tint : Int) (t_16_mark : ByteArray) (t_16_laid : Bool) =>
  Option.bind (idx out_3l0 (k0 : Int)) fun (yt_17 : Go.Proofs.Ytdgbigkcophjoaa.PPaper.Paper) =>
  unPaper yt_17 fun (t_17_id : Int) (t_17_thick : Int) (t_17_tint : Int) (t_17_mark : ByteArray) (t_17_laid : Bool) =>
  letK (out_3l0.set k0 (Go.Proofs.Ytdgbigkcophjoaa.PPaper.Paper.mk t_16_id t_16_thick t_16_tint t_16_mark t_16_laid)) fun (l18_18 : (List Go.Proofs.Ytdgbigkcophjoaa.PPaper.Paper)) =>
  appK nx0 (l18_18)

def e0  (s : (List Go.Proofs.Ytdgbigkcophjoaa.PPaper.Paper)) : Option ((List Go.Proofs.Ytdgbigkcophjoaa.PPaper.Paper)) :=
  letK s fun out_3l0 =>
  some out_3l0

def P (a : (List Go.Proofs.Ytdgbigkcophjoaa.PPaper.Paper)) : Option ((List Go.Proofs.Ytdgbigkcophjoaa.PPaper.Paper)) :=
  guardK (0 ≤ (a.length : Int) ∧ (a.length : Int) ≤ 1099511627776) <|
  letK (List.replicate a.length (Go.Proofs.Ytdgbigkcophjoaa.PPaper.Paper.mk 0 0 0 ByteArray.empty false)) fun (t_3 : (List Go.Proofs.Ytdgbigkcophjoaa.PPaper.Paper)) =>
  cntK (l0 a) (a.length) 0 (t_3) (e0 )

set_option maxRecDepth 100000 in
set_option maxHeartbeats 2000000 in
theorem C (a : (List Go.Proofs.Ytdgbigkcophjoaa.PPaper.Paper)) (A0 : Option Addr) (c0 : Nat)  (w : World) (M0 : Hid (Cells w 5 A0 a.length (Go.Proofs.Ytdgbigkcophjoaa.PPaper.flat a))) (N0 : Hid (a.length ≤ 9223372036854775807))  {r : (List Go.Proofs.Ytdgbigkcophjoaa.PPaper.Paper)} (H : Hid (P a = some r)) :
    Calls Try.prog 36 #[.slice A0 a.length c0] w (fun e w' => ∃ A_r c_r, e = .returned (.slice A_r r.length c_r) ∧ w'.ownsRow w.heap.size 90 5 (.slice A_r r.length c_r) r.length (Go.Proofs.Ytdgbigkcophjoaa.PPaper.flat r) ∧ Below w.heap.size w w') := by
  have HB := Lib.hid (Below.refl w.heap.size w)
  unfold P at H
  have N0o := N0.out
  obtain ⟨i0_90, hi_90, hz0_90, hz1_90, hz2_90⟩ := Aid.info_parts (P := Try.prog) (T := 90) (z := .agg #[.int .i64 0, .int .i64 0, .int .i64 0, .string ByteArray.empty, .bool false]) (s := 5) (b := 48) (by kernel_rfl)
  go_enter Try.func36, Try.ntmps36
  replace H := guard_hid H
  obtain ⟨hnt_3, H⟩ := H
  replace H := let_hid H
  obtain ⟨t_3, ht_3, H⟩ := H
  have hst_3 := HB.out.size
  have hlt_3 : t_3.length = a.length := by rw [← ht_3]; simp
  have hht_3 := Lib.hid ht_3
  clear ht_3
  go_wp2_with (at_make; refine wpList_make_full _ rfl _ _ 45 rfl w.heap.size 90 i0_90 (.agg #[.int .i64 0, .int .i64 0, .int .i64 0, .string ByteArray.empty, .bool false]) 5 Try.underlying45 hi_90 hz0_90 hz1_90 .i64 .i64 _ _ a.length rfl rfl (by omega) (by omega) (by rw [hz2_90]; omega) (by unfold maxLen; omega) hst_3 ?_; intro wt_3 ot_3 gt_3; have Qt_3 := Lib.hid ot_3; have Gt_3 := Lib.hid gt_3; clear ot_3 gt_3; refine stop_in ?_)
  refine stop_out ?_
  have hv_ : (Value.slice (some ⟨w.heap.size, 0, none⟩) a.length a.length : Value) = Value.slice (some ⟨w.heap.size, 0, none⟩) t_3.length a.length := by rw [hlt_3]
  rw [hv_]
  clear hv_
  have Et_3 : (Go.Proofs.Ytdgbigkcophjoaa.PPaper.flat t_3) = (madeCells (.agg #[.int .i64 0, .int .i64 0, .int .i64 0, .string ByteArray.empty, .bool false] : Value).cells (a.length * 5)).toList := by
    rw [made_flat Go.Proofs.Ytdgbigkcophjoaa.PPaper.Paper.cells (Go.Proofs.Ytdgbigkcophjoaa.PPaper.Paper.mk 0 0 0 ByteArray.empty false) _ 5 _ rfl rfl (by decide), ← hht_3.out]
    rfl
  have Pt_3 : Hid (wt_3.ownsRow w.heap.size 90 5 (.slice (some ⟨w.heap.size, 0, none⟩) a.length a.length) a.length (Go.Proofs.Ytdgbigkcophjoaa.PPaper.flat t_3)) := Lib.hid (by rw [Et_3]; exact Qt_3.out)
  clear Et_3
  replace hlt_3 := Lib.hid hlt_3
  clear Qt_3 hst_3
  have bt_3 : Below w.heap.size w wt_3 := (Below.refl _ _).grown Gt_3.out (Nat.le_refl _) (by simp)
  clear Gt_3
  have HBwt_3 := Lib.hid (Below.step HB.out bt_3)
  clear bt_3
  replace Pt_3 := Lib.hid (own_len hlt_3.out Pt_3.out)
  go_wp2_with fail
  go_wp2_with fail
  go_loopg [4] (a.length) (fun m_ v4_ wr => ∃ (k0 : Nat) (out_3l0 : (List Go.Proofs.Ytdgbigkcophjoaa.PPaper.Paper)), k0 + m_ = a.length ∧ v4_ = .int .i64 (k0 : Int) ∧ Hid (cntK (l0 a) m_ k0 (out_3l0) (e0 ) = some r) ∧ Hid (Below w.heap.size w wr) ∧ Hid (wr.ownsRow w.heap.size 90 5 (.slice (some ⟨w.heap.size, 0, none⟩) t_3.length a.length) t_3.length (Go.Proofs.Ytdgbigkcophjoaa.PPaper.flat out_3l0)) ∧ Hid (out_3l0.length = t_3.length))
  case atStart => exact ⟨0, _, by omega, rfl, H, HBwt_3, Pt_3, Lib.hid (rfl)⟩
  case round =>
    obtain ⟨k0, out_3l0, hkm0, rfl, H, HBwr0, Oout_3l0, hnout_3l0⟩ := hrel
    rename World => wr0
    cases gk with
    | zero =>
      obtain rfl : k0 = a.length := by omega
      have hc0 : decide (((a.length : Nat) : Int) < ((a.length : Nat) : Int)) = false := by simp
      replace H := cnt_zero H
      unfold e0 at H
      replace H := let_hid H
      obtain ⟨_, rfl, H⟩ := H
      obtain rfl := ret_hid H
      go_wp2_with fail
      go_ret
      have hr_0 := hnout_3l0.out
      replace Oout_3l0 := Lib.hid (own_len hr_0 Oout_3l0.out)
      exact ⟨(some ⟨w.heap.size, 0, none⟩), a.length, (by first | (rw [hr_0]; done) | (rw [hr_0]; rfl)), Oout_3l0.out, HBwr0.out⟩
    | succ m0 =>
      have hlt0 : k0 < a.length := by omega
      have hc0 : decide ((k0 : Int) < ((a.length : Nat) : Int)) = true := by simp; omega
      replace H := cnt_succ H
      unfold l0 at H
      replace H := let_hid H
      obtain ⟨_, rfl, H⟩ := H
      replace H := idx_hid H
      obtain ⟨nt_14, yt_14, et_14, lt_14, gt_14, H⟩ := H
      obtain rfl : k0 = nt_14 := by omega
      clear et_14
      obtain ⟨t_14_id, t_14_thick, t_14_tint, t_14_mark, t_14_laid⟩ := yt_14
      replace H := unPaper_hid H
      obtain ⟨ab_t_14, ao_t_14, zt_14, At_14, z_t_14, ct_14_0, ct_14_1, ct_14_2, ct_14_3, ct_14_4⟩ := Go.Proofs.Ytdgbigkcophjoaa.OPaper.at_ M0.out lt_14
      obtain rfl := Option.some.inj (gt_14.out.symm.trans z_t_14)
      subst At_14
      have ltt_14 := cell_lt ct_14_0
      replace ct_14_0 := cell_below HBwr0.out ct_14_0
      replace ct_14_1 := cell_below HBwr0.out ct_14_1
      replace ct_14_2 := cell_below HBwr0.out ct_14_2
      replace ct_14_3 := cell_below HBwr0.out ct_14_3
      replace ct_14_4 := cell_below HBwr0.out ct_14_4
      clear z_t_14
      have b0t_14 : (0 : Int) ≤ (k0 : Int) := by omega
      have b1t_14 : (k0 : Int) < ((a.length : Nat) : Int) := by omega
      have b2t_14 : ((k0 : Int)).toNat = k0 := by omega
      replace H := bind_hid H
      obtain ⟨t_16, qt_16, H⟩ := H
      obtain ⟨t_16_id, t_16_thick, t_16_tint, t_16_mark, t_16_laid⟩ := t_16
      replace H := unPaper_hid H
      go_wp2_with fail
      go_at_call 78
      refine (Go.Proofs.Ytdgbigkcophjoaa.GlToPaper.C ((Go.Proofs.Ytdgbigkcophjoaa.PPaper.Paper.mk t_14_id t_14_thick t_14_tint t_14_mark t_14_laid))  _    qt_16).mono ?_
      rintro e_t_16 wt_16 ⟨rfl, bt_16⟩
      unfold Go.Proofs.Ytdgbigkcophjoaa.PPaper.Paper.val
      have HBwt_16 := Lib.hid (Below.step HBwr0.out bt_16)
      replace ct_14_0 := cell_below bt_16 ct_14_0
      replace ct_14_1 := cell_below bt_16 ct_14_1
      replace ct_14_2 := cell_below bt_16 ct_14_2
      replace ct_14_3 := cell_below bt_16 ct_14_3
      replace ct_14_4 := cell_below bt_16 ct_14_4
      replace Oout_3l0 := Lib.hid (own_below Oout_3l0.out bt_16)
      clear bt_16
      replace H := idx_hid H
      obtain ⟨nt_17, yt_17, et_17, lt_17, gt_17, H⟩ := H
      obtain rfl : k0 = nt_17 := by omega
      clear et_17
      obtain ⟨t_17_id, t_17_thick, t_17_tint, t_17_mark, t_17_laid⟩ := yt_17
      replace H := unPaper_hid H
      have hqt_17 := hnout_3l0.out
      obtain ⟨ab_t_17, ao_t_17, zt_17, At_17, z_t_17, ct_17_0, ct_17_1, ct_17_2, ct_17_3, ct_17_4⟩ := Go.Proofs.Ytdgbigkcophjoaa.OPaper.at_ (own_cells Oout_3l0.out) (k := k0) (by omega)
      obtain rfl := Option.some.inj (gt_17.out.symm.trans z_t_17)
      simp only [Option.some.injEq, Addr.mk.injEq] at At_17
      obtain ⟨rfl, rfl, _⟩ := At_17
      clear z_t_17
      simp only [Nat.zero_add] at ct_17_0 ct_17_1 ct_17_2 ct_17_3 ct_17_4
      have b0t_17 : (0 : Int) ≤ (k0 : Int) := by omega
      have b1t_17 : (k0 : Int) < ((t_3.length : Nat) : Int) := by omega
      have b2t_17 : ((k0 : Int)).toNat = k0 := by omega
      clear hqt_17
      replace H := let_hid H
      obtain ⟨l18_18, hl18_18, H⟩ := H
      obtain ⟨wl18_18, hwl18_18⟩ : ∃ x, (((((wt_16).setCell ⟨w.heap.size, k0 * 5, none⟩ (.int .i64 t_16_id)).setCell ⟨w.heap.size, k0 * 5 + 1, none⟩ (.int .i64 t_16_thick)).setCell ⟨w.heap.size, k0 * 5 + 2, none⟩ (.int .i64 t_16_tint)).setCell ⟨w.heap.size, k0 * 5 + 3, none⟩ (.string t_16_mark)).setCell ⟨w.heap.size, k0 * 5 + 4, none⟩ (.bool t_16_laid) = x := ⟨_, rfl⟩
      have z0l18_18 := Oout_3l0.out.frozenAt (k0 * 5)
      have z1l18_18 := Oout_3l0.out.frozenAt (k0 * 5 + 1)
      have z2l18_18 := Oout_3l0.out.frozenAt (k0 * 5 + 2)
      have z3l18_18 := Oout_3l0.out.frozenAt (k0 * 5 + 3)
      have z4l18_18 := Oout_3l0.out.frozenAt (k0 * 5 + 4)
      have Sl18_18 := Lib.hid (own_stores [(k0 * 5, .int .i64 t_16_id), (k0 * 5 + 1, .int .i64 t_16_thick), (k0 * 5 + 2, .int .i64 t_16_tint), (k0 * 5 + 3, .string t_16_mark), (k0 * 5 + 4, .bool t_16_laid)] Oout_3l0.out)
      have nl18_18 : Hid (l18_18.length = t_3.length) := Lib.hid (by rw [← hl18_18, List.length_set]; exact hnout_3l0.out)
      have Pl18_18 : Hid (wl18_18.ownsRow w.heap.size 90 5 (.slice (some ⟨w.heap.size, 0, none⟩) t_3.length a.length) t_3.length (Go.Proofs.Ytdgbigkcophjoaa.PPaper.flat l18_18)) := Lib.hid (by have es_ := set_self gt_17.out; have e0_ := flat_set Go.Proofs.Ytdgbigkcophjoaa.PPaper.Paper.cells 5 (fun _ => rfl) out_3l0 (k0) 0 (Go.Proofs.Ytdgbigkcophjoaa.PPaper.Paper.mk t_17_id t_17_thick t_17_tint t_17_mark t_17_laid) (Go.Proofs.Ytdgbigkcophjoaa.PPaper.Paper.mk t_16_id t_17_thick t_17_tint t_17_mark t_17_laid) (.int .i64 t_16_id) lt_17 (by decide) rfl; have e1_ := flat_set Go.Proofs.Ytdgbigkcophjoaa.PPaper.Paper.cells 5 (fun _ => rfl) out_3l0 (k0) 1 (Go.Proofs.Ytdgbigkcophjoaa.PPaper.Paper.mk t_16_id t_17_thick t_17_tint t_17_mark t_17_laid) (Go.Proofs.Ytdgbigkcophjoaa.PPaper.Paper.mk t_16_id t_16_thick t_17_tint t_17_mark t_17_laid) (.int .i64 t_16_thick) lt_17 (by decide) rfl; have e2_ := flat_set Go.Proofs.Ytdgbigkcophjoaa.PPaper.Paper.cells 5 (fun _ => rfl) out_3l0 (k0) 2 (Go.Proofs.Ytdgbigkcophjoaa.PPaper.Paper.mk t_16_id t_16_thick t_17_tint t_17_mark t_17_laid) (Go.Proofs.Ytdgbigkcophjoaa.PPaper.Paper.mk t_16_id t_16_thick t_16_tint t_17_mark t_17_laid) (.int .i64 t_16_tint) lt_17 (by decide) rfl; have e3_ := flat_set Go.Proofs.Ytdgbigkcophjoaa.PPaper.Paper.cells 5 (fun _ => rfl) out_3l0 (k0) 3 (Go.Proofs.Ytdgbigkcophjoaa.PPaper.Paper.mk t_16_id t_16_thick t_16_tint t_17_mark t_17_laid) (Go.Proofs.Ytdgbigkcophjoaa.PPaper.Paper.mk t_16_id t_16_thick t_16_tint t_16_mark t_17_laid) (.string t_16_mark) lt_17 (by decide) rfl; have e4_ := flat_set Go.Proofs.Ytdgbigkcophjoaa.PPaper.Paper.cells 5 (fun _ => rfl) out_3l0 (k0) 4 (Go.Proofs.Ytdgbigkcophjoaa.PPaper.Paper.mk t_16_id t_16_thick t_16_tint t_16_mark t_17_laid) (Go.Proofs.Ytdgbigkcophjoaa.PPaper.Paper.mk t_16_id t_16_thick t_16_tint t_16_mark t_16_laid) (.bool t_16_laid) lt_17 (by decide) rfl; rw [es_] at e0_; have e_ : ([(k0 * 5, .int .i64 t_16_id), (k0 * 5 + 1, .int .i64 t_16_thick), (k0 * 5 + 2, .int .i64 t_16_tint), (k0 * 5 + 3, .string t_16_mark), (k0 * 5 + 4, .bool t_16_laid)] : List (Nat × Value)).foldl (fun xs p => xs.set p.1 p.2) (Go.Proofs.Ytdgbigkcophjoaa.PPaper.flat out_3l0) = (Go.Proofs.Ytdgbigkcophjoaa.PPaper.flat l18_18) := (by rw [← hl18_18]; show _ = List.flatMap Go.Proofs.Ytdgbigkcophjoaa.PPaper.Paper.cells _; rw [← e4_, ← e3_, ← e2_, ← e1_, ← e0_]; first | done | rfl); rw [← hwl18_18, ← e_]; exact Sl18_18.out.1)
      have Gl18_18 : Hid (wt_16.grownBy wl18_18 (Value.slice (some ⟨w.heap.size, 0, none⟩) t_3.length a.length).ownBlock) := Lib.hid (by rw [← hwl18_18]; exact Sl18_18.out.2)
      have HBwl18_18 := Lib.hid (HBwt_16.out.grown Gl18_18.out HBwt_16.out.size (fun q hq => (Oout_3l0.out.lt q hq).1))
      have hhl18_18 := Lib.hid hl18_18
      clear hl18_18 Sl18_18
      have ct_14_0__281 := cell_other ct_14_0 Gl18_18.out (apart_old Oout_3l0.out ltt_14)
      have ct_14_1__282 := cell_other ct_14_1 Gl18_18.out (apart_old Oout_3l0.out ltt_14)
      have ct_14_2__283 := cell_other ct_14_2 Gl18_18.out (apart_old Oout_3l0.out ltt_14)
      have ct_14_3__284 := cell_other ct_14_3 Gl18_18.out (apart_old Oout_3l0.out ltt_14)
      have ct_14_4__285 := cell_other ct_14_4 Gl18_18.out (apart_old Oout_3l0.out ltt_14)
      clear Oout_3l0 Gl18_18
      replace H := app_hid H
      go_wp2_with fail
      clear z0l18_18 z1l18_18 z2l18_18 z3l18_18 z4l18_18 ct_14_0 ct_14_1 ct_14_2 ct_14_3 ct_14_4 ct_17_0 ct_17_1 ct_17_2 ct_17_3 ct_17_4
      go_roundg m0
      case measure => omega
      case rel => exact ⟨k0 + 1, _, by omega, by go_num, H, HBwl18_18, Pl18_18, Lib.hid (nl18_18.out)⟩
end Go.Proofs.Ytdgbigkcophjoaa.GlToPaperS

/- The contracts of the laws' helpers on slices of ints: toIntS, eqIntS, markIntS, heldIntS. Condition: the slice reads as a list of ints. -/
namespace Go.Proofs.Ytdgbigkcophjoaa.HelpInt
set_option linter.unusedVariables false
open Go.RowKit
open Go.Proofs.Ytdgbigkcophjoaa.Rowed

/-- ints as values -/
def iv (l : List Int) : List Value := l.map (Value.int .i64)
theorem iv_len (l : List Int) : (iv l).length = l.length := by simp [iv]
theorem iv_at (l : List Int) (k : Nat) : (iv l)[k]? = (l[k]?).map (Value.int .i64) := by simp [iv]
theorem iv_snoc (l : List Int) (x : Int) : iv (l ++ [x]) = iv l ++ [.int .i64 x] := by simp [iv]
/-- the slice 'A, n' reads as the ints l -/
abbrev Ints (w : World) (A : Option Addr) (n : Nat) (l : List Int) : Prop := Cells w 1 A n (iv l)
theorem add_none (b o n : Nat) : (⟨b, o, none⟩ : Addr).add n = ⟨b, o + n, none⟩ := by
  unfold Addr.add; split
  · rename_i h; subst h; rfl
  · rfl
theorem Ints.at_ {w : World} {A : Option Addr} {n k : Nat} {l : List Int} (h : Ints w A n l) (hk : k < n) : ∃ (b o : Nat) (x : Int), A = some ⟨b, o, none⟩ ∧ l[k]? = some x ∧ w.cell? ⟨b, o + k, none⟩ = some (.int .i64 x) := by
  have hl : k < l.length := by have := h.1; rw [iv_len] at this; omega
  obtain ⟨⟨b, o, sp⟩, e, hc⟩ := h.2 (by rw [iv_len]; omega)
  have h0 := hc 0 _ (by rw [iv_at, List.getElem?_eq_getElem (show 0 < l.length by omega)]; rfl)
  obtain rfl : sp = none := cell_spot (b := b) (o := o) h0
  have hs := List.getElem?_eq_getElem hl
  have := hc k (.int .i64 l[k]) (by rw [iv_at, hs]; rfl)
  rw [add_none] at this
  exact ⟨b, o, l[k], e, hs, this⟩

set_option maxHeartbeats 800000 in
/-- eqIntS, where both slices hold the same ints -/
theorem eq_same (A B : Option Addr) (n c d : Nat) (l : List Int) (w : World) (h1 : Ints w A n l) (h2 : Ints w B n l) (hn : n ≤ 9223372036854775807) :
    Calls Try.prog 23 #[.slice A n c, .slice B n d] w fun e w' => e = .returned (.bool true) ∧ DrawnTo w w' := by
  have H1 := Lib.hid h1
  have H2 := Lib.hid h2
  clear h1 h2
  go_enter Try.func23, Try.ntmps23
  go_wp2
  go_loopw [5] (fun i wr => ∃ k : Nat, k ≤ n ∧ i = .int .i64 k ∧ DrawnTo w wr) (fun i _ => n - (intOf i).toNat)
  case atStart => exact ⟨0, Nat.zero_le _, rfl, 0, rfl⟩
  case round =>
    obtain ⟨k, hk, rfl, m, rfl⟩ := hrel
    by_cases hlt : k < n
    · obtain ⟨ab, ao, x, rfl, hx, hc1⟩ := Ints.at_ H1.out hlt
      obtain ⟨bb, bo, y, rfl, hy, hc2⟩ := Ints.at_ H2.out hlt
      obtain rfl : x = y := by rw [hx] at hy; exact Option.some.inj hy
      clear hx hy
      have hb1 : 0 ≤ (k : Int) := by omega
      have hb2 : (k : Int) < n := by omega
      go_wp2_with fail
      go_quiet (fail)
      go_wp2_with fail
      go_roundw
      case rel => exact ⟨k + 1, by omega, by go_num, _, rfl⟩
      case measure => simp [intOf]; omega
    · go_wp2
      go_ret
      exact ⟨rfl, m, rfl⟩

/-- the marks k, k + 1, .. -/
def imarks (k n : Nat) : List Value := (List.range n).map fun i => Value.int .i64 ((k + i : Nat) : Int)
theorem imarks_len (k n : Nat) : (imarks k n).length = n := by simp [imarks]
theorem imarks_at (k n i : Nat) (h : i < n) : (imarks k n)[i]? = some (.int .i64 ((k + i : Nat) : Int)) := by
  unfold imarks; rw [List.getElem?_map, List.getElem?_range h]; rfl
theorem grown_of {W W' : World} (h : Below W.heap.size W W') : W.grownBy W' none := ⟨h.os, h.tape, h.output, h.size, fun k hk _ => h.block k hk⟩
theorem grown_tr {a b c : World} {r : Option Nat} (h : a.grownBy b r) (k : b.grownBy c r) : a.grownBy c r :=
  ⟨k.os.trans h.os, k.tape.trans h.tape, k.output.trans h.output, Nat.le_trans h.size k.size, fun i hi hr => (k.block i (Nat.lt_of_lt_of_le hi h.size) hr).trans (h.block i hi hr)⟩
theorem grown_refl (w : World) (r : Option Nat) : w.grownBy w r := ⟨rfl, rfl, rfl, Nat.le_refl _, fun _ _ _ => rfl⟩

def MarkRel (w : World) (base n c k : Nat) (A : Option Addr) (xs : List Value) (i : Nat) (wr : World) : Prop :=
  wr.ownsRow base 3 1 (.slice A n c) n (fill (imarks k n) xs i) ∧ w.grownBy wr (Value.slice A n c).ownBlock

theorem mark_next {w wr : World} {base n c k i : Nat} {A : Option Addr} {xs : List Value} (h : MarkRel w base n c k A xs i wr) (hxs : xs.length = n) (hi : i < n) :
    ∃ g y, A = some ⟨g, 0, none⟩ ∧ wr.cell? ⟨g, i, none⟩ = some y ∧ wr.frozen? ⟨g, i, none⟩ = false ∧ MarkRel w base n c k A xs (i + 1) (wr.setCell ⟨g, i, none⟩ (.int .i64 ((k + i : Nat) : Int))) := by
  obtain ⟨g, rfl⟩ : ∃ g, A = some ⟨g, 0, none⟩ := by
    rcases h.1.2 with ⟨_, h0⟩ | ⟨g, cap, cur, hv, _⟩
    · omega
    · injection hv with h1 h2 h3; exact ⟨g, h1⟩
  have h1 := h.1
  have hlen : (fill (imarks k n) xs i).length = n := by rw [fill_len _ _ _ (by rw [imarks_len, hxs])]; exact hxs
  have hc := h1.cellAt i (by omega)
  rw [List.getElem?_eq_getElem (by omega)] at hc
  refine ⟨g, _, rfl, hc, h1.frozenAt i, ?_, ?_⟩
  · have := (h1.stored i (.int .i64 ((k + i : Nat) : Int))).1
    rw [fill_set _ _ _ _ (by omega) (imarks_at k n i hi)] at this
    exact this
  · exact grown_tr h.2 (h1.stored i (.int .i64 ((k + i : Nat) : Int))).2

def MarkPost (w : World) (base n c k : Nat) (A : Option Addr) (e : Ending) (w' : World) : Prop :=
  e = .returned (.int .i64 ((k + n : Nat) : Int)) ∧ w'.ownsRow base 3 1 (.slice A n c) n (imarks k n) ∧ w.grownBy w' (Value.slice A n c).ownBlock

set_option maxHeartbeats 1000000 in
theorem mark_any (w : World) (base n c k : Nat) (A : Option Addr) (xs : List Value) (h : w.ownsRow base 3 1 (.slice A n c) n xs) (hn : n ≤ 1048576) (hk2 : k ≤ 100000000000) :
    Calls Try.prog 25 #[.slice A n c, .int .i64 (k : Int)] w (MarkPost w base n c k A) := by
  have hxs : Hid (xs.length = n) := Lib.hid (by have := h.1; omega)
  have HR0 : Hid (MarkRel w base n c k A xs 0 w) := Lib.hid ⟨by rw [fill_zero]; exact h, grown_refl _ _⟩
  clear h
  go_enter Try.func25, Try.ntmps25
  go_wp2_with fail
  go_loopw [1, 5] (fun t i wr => ∃ j : Nat, j ≤ n ∧ i = .int .i64 j ∧ t = .int .i64 ((k + j : Nat) : Int) ∧ Hid (MarkRel w base n c k A xs j wr)) (fun _ i _ => n - (intOf i).toNat)
  case atStart => exact ⟨0, Nat.zero_le _, rfl, rfl, HR0⟩
  case round =>
    obtain ⟨j, hj, rfl, rfl, HR⟩ := hrel
    by_cases hlt : j < n
    · obtain ⟨g, y, rfl, hc, hf, hR1⟩ := mark_next HR.out hxs.out hlt
      have HR1 := Lib.hid hR1
      clear hR1
      go_wp2_with fail
      go_roundw
      case rel => exact ⟨j + 1, by omega, by go_num, by go_num, HR1⟩
      case measure => simp [intOf]; omega
    · obtain rfl : j = n := by omega
      have HF := Lib.hid HR.out.1
      go_wp2_with fail
      go_ret
      exact ⟨rfl, by rw [← fill_all (imarks k j) xs (by rw [imarks_len]; exact hxs.out), imarks_len]; exact HF.out, HR.out.2⟩

set_option maxHeartbeats 1000000 in
theorem held_any (w : World) (n c k : Nat) (A : Option Addr) (h : Cells w 1 A n (imarks k n)) (hn : n ≤ 1048576) (hk2 : k ≤ 100000000000) :
    Calls Try.prog 26 #[.slice A n c, .int .i64 (k : Int)] w fun e w' => e = .returned (.int .i64 ((k + n : Nat) : Int)) ∧ w = w' := by
  have HH : Hid (Ints w A n ((List.range n).map fun i => ((k + i : Nat) : Int))) := Lib.hid (by show Cells w 1 A n _; unfold iv; rw [List.map_map]; exact h)
  clear h
  go_enter Try.func26, Try.ntmps26
  go_wp2_with fail
  go_loop [1, 5] (fun t i => ∃ j : Nat, j ≤ n ∧ i = .int .i64 j ∧ t = .int .i64 ((k + j : Nat) : Int)) (fun _ i => n - (intOf i).toNat)
  case atStart => exact ⟨0, Nat.zero_le _, rfl, rfl⟩
  case round =>
    obtain ⟨j, hj, rfl, rfl⟩ := hrel
    by_cases hlt : j < n
    · obtain ⟨ab, ao, x, rfl, hx, hc⟩ := Ints.at_ HH.out hlt
      rw [List.getElem?_map, List.getElem?_range hlt] at hx
      obtain rfl : ((k + j : Nat) : Int) = x := by simpa using hx
      clear hx
      go_wp2_with fail
      go_round
      case rel => exact ⟨j + 1, by omega, by go_num, by go_num⟩
      case measure => simp [intOf]; omega
    · obtain rfl : j = n := by omega
      go_wp2_with fail
      go_ret
      exact ⟨rfl, rfl⟩

/-- a slice that is owned, as a slice that reads -/
theorem own_cells {w : World} {base n c size : Nat} {A : Option Addr} {e : TypeId} {xs : List Value} (h : w.ownsRow base e size (.slice A n c) n xs) : Cells w size A n xs := by
  rcases h.2 with ⟨hv, h0⟩ | ⟨g, cap, cur, hv, _⟩
  · subst h0
    have := h.1
    exact ⟨h.1, fun hn => by omega⟩
  · injection hv with h1 h2 h3
    subst h1
    exact Cells.of_own h
theorem own_base_le {w : World} {base n c size b : Nat} {A : Option Addr} {e : TypeId} {xs : List Value} (h : w.ownsRow base e size (.slice A n c) n xs) (hb : (Value.slice A n c).ownBlock = some b) : base ≤ b ∧ b < w.heap.size := h.lt b hb
theorem own_below {w w' : World} {base n c size : Nat} {A : Option Addr} {e : TypeId} {xs : List Value} (h : w.ownsRow base e size (.slice A n c) n xs) (hb : Below w.heap.size w w') : w'.ownsRow base e size (.slice A n c) n xs :=
  h.kept (grown_of hb) (by cases (Value.slice A n c).ownBlock <;> simp)
/-- what is written is another block -/
theorem own_grown {w w' : World} {base n c size : Nat} {A : Option Addr} {e : TypeId} {xs : List Value} {r : Option Nat} (h : w.ownsRow base e size (.slice A n c) n xs) (hg : w.grownBy w' r) (hne : ∀ b, (Value.slice A n c).ownBlock = some b → r ≠ some b) : w'.ownsRow base e size (.slice A n c) n xs := by
  refine h.kept hg ?_
  cases ho : (Value.slice A n c).ownBlock with
  | none => exact .inl rfl
  | some b => exact .inr (fun e => hne b ho e.symm)
theorem cells_grown {w w' : World} {size n : Nat} {A : Option Addr} {xs : List Value} {r : Option Nat} (h : Cells w size A n xs) (hg : w.grownBy w' r) (hne : ∀ a, A = some a → r ≠ some a.block) : Cells w' size A n xs :=
  ⟨h.1, fun hn => by
    obtain ⟨ad, rfl, hc⟩ := h.2 hn
    exact ⟨_, rfl, fun j u hu => hg.cell (hc j u hu) (by rw [add_block]; exact fun e => hne ad rfl e.symm)⟩⟩
end Go.Proofs.Ytdgbigkcophjoaa.HelpInt

/- loop.example/g01062/spec.l1In as a plain function, and the contract of the program's: where the plain one has an answer, the program has it. Conditions: slices read as lists. -/
namespace Go.Proofs.Ytdgbigkcophjoaa.GsL1In
set_option linter.unusedVariables false
set_option linter.unusedSimpArgs false
open Go.RowKit
open Go.Proofs.Ytdgbigkcophjoaa.Rowed Go.Proofs.Ytdgbigkcophjoaa.Turn Go.Proofs.Ytdgbigkcophjoaa.Aid Go.Proofs.Ytdgbigkcophjoaa.GoP Go.Proofs.Ytdgbigkcophjoaa.GoM

def P (x : Int) (a : Int) (b : Int) : Option (Bool) :=
  letK (decide (a ≤ x)) fun (t_3 : Bool) =>
  joinK (fun (t_8 : Bool) =>
  some t_8) fun jt_8 => iteK t_3 (letK (decide (x ≤ b)) fun (t_7 : Bool) =>
  appK jt_8 t_7) (appK jt_8 false)

set_option maxRecDepth 100000 in
set_option maxHeartbeats 2000000 in
theorem C (x : Int) (a : Int) (b : Int)   (w : World)   {r : Bool} (H : Hid (P x a b = some r)) :
    Calls Try.prog 67 #[.int .i64 x, .int .i64 a, .int .i64 b] w (Gives (.bool r) w) := by
  have HB := Lib.hid (Below.refl w.heap.size w)
  unfold P at H
  go_enter Try.func67, Try.ntmps67
  replace H := let_hid H
  obtain ⟨t_3, ht_3, H⟩ := H
  replace H := join_hid H
  cases t_3 with
  | false =>
    replace H := ite_f H
    replace H := app_hid H
    obtain rfl := ret_hid H
    go_wp2_with fail
    go_ret
    exact ⟨rfl, HB.out⟩
  | true =>
    replace H := ite_t H
    replace H := let_hid H
    obtain ⟨t_7, ht_7, H⟩ := H
    replace H := app_hid H
    obtain rfl := ret_hid H
    go_wp2_with fail
    go_ret
    exact ⟨rfl, HB.out⟩

set_option maxRecDepth 100000 in
set_option maxHeartbeats 2000000 in
theorem C0 (x : Int) (a : Int) (b : Int)   (w : World)   {r : Bool} (H : Hid (P x a b = some r)) :
    Calls Try.prog 67 #[.int .i64 x, .int .i64 a, .int .i64 b] w (fun e w'' => e = .returned (.bool r) ∧ w'' = w) := by
  have HB := Lib.hid (Below.refl w.heap.size w)
  unfold P at H
  go_enter Try.func67, Try.ntmps67
  replace H := let_hid H
  obtain ⟨t_3, ht_3, H⟩ := H
  replace H := join_hid H
  cases t_3 with
  | false =>
    replace H := ite_f H
    replace H := app_hid H
    obtain rfl := ret_hid H
    go_wp2_with fail
    go_ret
    exact ⟨rfl, rfl⟩
  | true =>
    replace H := ite_t H
    replace H := let_hid H
    obtain ⟨t_7, ht_7, H⟩ := H
    replace H := app_hid H
    obtain rfl := ret_hid H
    go_wp2_with fail
    go_ret
    exact ⟨rfl, rfl⟩
end Go.Proofs.Ytdgbigkcophjoaa.GsL1In

/- loop.example/g01062/spec.l2Word as a plain function, and the contract of the program's: where the plain one has an answer, the program has it. Conditions: slices read as lists. -/
namespace Go.Proofs.Ytdgbigkcophjoaa.GsL2Word
set_option linter.unusedVariables false
set_option linter.unusedSimpArgs false
open Go.RowKit
open Go.Proofs.Ytdgbigkcophjoaa.Rowed Go.Proofs.Ytdgbigkcophjoaa.Turn Go.Proofs.Ytdgbigkcophjoaa.Aid Go.Proofs.Ytdgbigkcophjoaa.GoP Go.Proofs.Ytdgbigkcophjoaa.GoM

def l0 (s_0 : ByteArray) (k0 : Nat) (s : Unit) (nx0 bk0 : Unit → Option (Bool)) : Option (Bool) :=
  
  Option.bind (idx s_0.toList (k0 : Int)) fun (yt_8 : UInt8) =>
  letK ((yt_8.toNat : Int)) fun (t_8 : Int) =>
  letK (decide (t_8 < 97)) fun (t_9 : Bool) =>
  joinK (fun (t_15 : Bool) =>
  iteK t_15
  (some false)
  (appK nx0 ())) fun jt_15 => iteK t_9 (appK jt_15 true) (Option.bind (idx s_0.toList (k0 : Int)) fun (yt_13 : UInt8) =>
  letK ((yt_13.toNat : Int)) fun (t_13 : Int) =>
  letK (decide (122 < t_13)) fun (t_14 : Bool) =>
  appK jt_15 t_14)

def e0 (s_0 : ByteArray) (s : Unit) : Option (Bool) :=
  
  Option.bind (Go.Proofs.Ytdgbigkcophjoaa.GsL1In.P (s_0.size : Int) 1 10) fun (t_22 : Bool) =>
  some t_22

def P (s_0 : ByteArray) : Option (Bool) :=
  guardK (s_0.size ≤ 9223372036854775807) <|
  cntK (l0 s_0) (s_0.size) 0 () (e0 s_0)

set_option maxRecDepth 100000 in
set_option maxHeartbeats 2000000 in
theorem C (s_0 : ByteArray)   (w : World)   {r : Bool} (H : Hid (P s_0 = some r)) :
    Calls Try.prog 87 #[.string s_0] w (Gives (.bool r) w) := by
  have HB := Lib.hid (Below.refl w.heap.size w)
  unfold P at H
  go_enter Try.func87, Try.ntmps87
  replace H := guard_hid H
  obtain ⟨hg0, H⟩ := H
  go_wp2_with fail
  go_loopg [3] (s_0.size) (fun m_ v3_ wr => ∃ (k0 : Nat) , k0 + m_ = s_0.size ∧ v3_ = .int .i64 (k0 : Int) ∧ Hid (cntK (l0 s_0) m_ k0 () (e0 s_0) = some r) ∧ Hid (Below w.heap.size w wr))
  case atStart => exact ⟨0, by omega, rfl, H, HB⟩
  case round =>
    obtain ⟨k0, hkm0, rfl, H, HBwr0⟩ := hrel
    rename World => wr0
    cases gk with
    | zero =>
      obtain rfl : k0 = s_0.size := by omega
      have hc0 : decide (((s_0.size : Nat) : Int) < ((s_0.size : Nat) : Int)) = false := by simp
      replace H := cnt_zero H
      unfold e0 at H
      replace H := bind_hid H
      obtain ⟨t_22, qt_22, H⟩ := H
      go_wp2_with fail
      go_at_call 67
      refine (Go.Proofs.Ytdgbigkcophjoaa.GsL1In.C ((s_0.size : Int)) (1) (10)  _    qt_22).mono ?_
      rintro e_t_22 wt_22 ⟨rfl, bt_22⟩
      have HBwt_22 := Lib.hid (Below.step HBwr0.out bt_22)
      clear bt_22
      obtain rfl := ret_hid H
      go_wp2_with fail
      go_ret
      exact ⟨rfl, HBwt_22.out⟩
    | succ m0 =>
      have hlt0 : k0 < s_0.size := by omega
      have hc0 : decide ((k0 : Int) < ((s_0.size : Nat) : Int)) = true := by simp; omega
      replace H := cnt_succ H
      unfold l0 at H
      replace H := idx_hid H
      obtain ⟨nt_8, yt_8, et_8, lt_8, gt_8, H⟩ := H
      obtain rfl : k0 = nt_8 := by omega
      clear et_8
      have rt_8 := byte_rule lt_8 gt_8.out
      have b0t_8 : (0 : Int) ≤ (k0 : Int) := by omega
      have b1t_8 : (k0 : Int) < (s_0.size : Int) := by have := size_list s_0; omega
      have b2t_8 : ((k0 : Int)).toNat = k0 := by omega
      have b3t_8 : k0 < s_0.size := by have := size_list s_0; omega
      replace H := let_hid H
      obtain ⟨t_8, ht_8, H⟩ := H
      replace H := let_hid H
      obtain ⟨t_9, ht_9, H⟩ := H
      replace H := join_hid H
      cases t_9 with
      | false =>
        replace H := ite_f H
        replace H := idx_hid H
        obtain ⟨nt_13, yt_13, et_13, lt_13, gt_13, H⟩ := H
        obtain rfl : k0 = nt_13 := by omega
        clear et_13
        obtain rfl := Option.some.inj (gt_8.out.symm.trans gt_13.out)
        clear gt_13 lt_13
        replace H := let_hid H
        obtain ⟨t_13, ht_13, H⟩ := H
        obtain rfl := ht_8.symm.trans ht_13
        replace H := let_hid H
        obtain ⟨t_14, ht_14, H⟩ := H
        replace H := app_hid H
        cases t_14 with
        | false =>
          replace H := ite_f H
          replace H := app_hid H
          go_wp2_with fail
          go_roundg m0
          case measure => omega
          case rel => exact ⟨k0 + 1, by omega, by go_num, H, HBwr0⟩
        | true =>
          replace H := ite_t H
          obtain rfl := ret_hid H
          go_wp2_with fail
          go_ret
          exact ⟨rfl, HBwr0.out⟩
      | true =>
        replace H := ite_t H
        replace H := app_hid H
        replace H := ite_t H
        obtain rfl := ret_hid H
        go_wp2_with fail
        go_ret
        exact ⟨rfl, HBwr0.out⟩
end Go.Proofs.Ytdgbigkcophjoaa.GsL2Word

/- loop.example/g01062/spec.l3One as a plain function, and the contract of the program's: where the plain one has an answer, the program has it. Conditions: slices read as lists. -/
namespace Go.Proofs.Ytdgbigkcophjoaa.GsL3One
set_option linter.unusedVariables false
set_option linter.unusedSimpArgs false
open Go.RowKit
open Go.Proofs.Ytdgbigkcophjoaa.Rowed Go.Proofs.Ytdgbigkcophjoaa.Turn Go.Proofs.Ytdgbigkcophjoaa.Aid Go.Proofs.Ytdgbigkcophjoaa.GoP Go.Proofs.Ytdgbigkcophjoaa.GoM

def P (p : Go.Proofs.Ytdgbigkcophjoaa.PPaper.Paper) : Option (Bool) :=
  unPaper p fun (p_id : Int) (p_thick : Int) (p_tint : Int) (p_mark : ByteArray) (p_laid : Bool) =>
  Option.bind (Go.Proofs.Ytdgbigkcophjoaa.GsL1In.P p_id 1 99) fun (t_4 : Bool) =>
  joinK (fun (t_9 : Bool) =>
  joinK (fun (t_14 : Bool) =>
  joinK (fun (t_24 : Bool) =>
  some t_24) fun jt_24 => iteK t_14 (letK (p_mark.toList.isEmpty) fun (t_18 : Bool) =>
  joinK (fun (t_23 : Bool) =>
  appK jt_24 t_23) fun jt_23 => iteK t_18 (appK jt_23 true) (Option.bind (Go.Proofs.Ytdgbigkcophjoaa.GsL2Word.P p_mark) fun (t_22 : Bool) =>
  appK jt_23 t_22)) (appK jt_24 false)) fun jt_14 => iteK t_9 (Option.bind (Go.Proofs.Ytdgbigkcophjoaa.GsL1In.P p_tint 0 9) fun (t_13 : Bool) =>
  appK jt_14 t_13) (appK jt_14 false)) fun jt_9 => iteK t_4 (Option.bind (Go.Proofs.Ytdgbigkcophjoaa.GsL1In.P p_thick 1 300) fun (t_8 : Bool) =>
  appK jt_9 t_8) (appK jt_9 false)

set_option maxRecDepth 100000 in
set_option maxHeartbeats 2000000 in
theorem C (p : Go.Proofs.Ytdgbigkcophjoaa.PPaper.Paper)   (w : World)   {r : Bool} (H : Hid (P p = some r)) :
    Calls Try.prog 109 #[p.val] w (Gives (.bool r) w) := by
  have HB := Lib.hid (Below.refl w.heap.size w)
  unfold P at H
  obtain ⟨p_id, p_thick, p_tint, p_mark, p_laid⟩ := p
  replace H := unPaper_hid H
  unfold Go.Proofs.Ytdgbigkcophjoaa.PPaper.Paper.val
  go_enter Try.func109, Try.ntmps109
  obtain ⟨w_p_0, hw_p_0⟩ : ∃ x, w.alloc (.cells #[.int .i64 p_id, .int .i64 p_thick, .int .i64 p_tint, .string p_mark, .bool p_laid] 90) = x := ⟨_, rfl⟩
  have bw_p_0 : Below w.heap.size w w_p_0 := by rw [← hw_p_0]; exact (Below.refl _ _).alloc (Nat.le_refl _) _
  have HBw_p_0 := Lib.hid (Below.step HB.out bw_p_0)
  clear bw_p_0
  have kp_0_0 : w_p_0.cell? ⟨w.heap.size, 0, none⟩ = some (.int .i64 p_id) := by rw [← hw_p_0]; exact box_new _ _ _ 0 _ rfl
  have kp_0_1 : w_p_0.cell? ⟨w.heap.size, 1, none⟩ = some (.int .i64 p_thick) := by rw [← hw_p_0]; exact box_new _ _ _ 1 _ rfl
  have kp_0_2 : w_p_0.cell? ⟨w.heap.size, 2, none⟩ = some (.int .i64 p_tint) := by rw [← hw_p_0]; exact box_new _ _ _ 2 _ rfl
  have kp_0_3 : w_p_0.cell? ⟨w.heap.size, 3, none⟩ = some (.string p_mark) := by rw [← hw_p_0]; exact box_new _ _ _ 3 _ rfl
  have kp_0_4 : w_p_0.cell? ⟨w.heap.size, 4, none⟩ = some (.bool p_laid) := by rw [← hw_p_0]; exact box_new _ _ _ 4 _ rfl
  replace H := bind_hid H
  obtain ⟨t_4, qt_4, H⟩ := H
  go_wp2_with fail
  go_at_call 67
  refine (Go.Proofs.Ytdgbigkcophjoaa.GsL1In.C (p_id) (1) (99)  _    qt_4).mono ?_
  rintro e_t_4 wt_4 ⟨rfl, bt_4⟩
  have HBwt_4 := Lib.hid (Below.step HBw_p_0.out bt_4)
  replace kp_0_0 := cell_below bt_4 kp_0_0
  replace kp_0_1 := cell_below bt_4 kp_0_1
  replace kp_0_2 := cell_below bt_4 kp_0_2
  replace kp_0_3 := cell_below bt_4 kp_0_3
  replace kp_0_4 := cell_below bt_4 kp_0_4
  clear bt_4
  replace H := join_hid H
  cases t_4 with
  | false =>
    replace H := ite_f H
    replace H := app_hid H
    replace H := join_hid H
    replace H := ite_f H
    replace H := app_hid H
    replace H := join_hid H
    replace H := ite_f H
    replace H := app_hid H
    obtain rfl := ret_hid H
    go_wp2_with fail
    go_ret
    exact ⟨rfl, HBwt_4.out⟩
  | true =>
    replace H := ite_t H
    replace H := bind_hid H
    obtain ⟨t_8, qt_8, H⟩ := H
    go_wp2_with fail
    go_at_call 67
    refine (Go.Proofs.Ytdgbigkcophjoaa.GsL1In.C (p_thick) (1) (300)  _    qt_8).mono ?_
    rintro e_t_8 wt_8 ⟨rfl, bt_8⟩
    have HBwt_8 := Lib.hid (Below.step HBwt_4.out bt_8)
    replace kp_0_0 := cell_below bt_8 kp_0_0
    replace kp_0_1 := cell_below bt_8 kp_0_1
    replace kp_0_2 := cell_below bt_8 kp_0_2
    replace kp_0_3 := cell_below bt_8 kp_0_3
    replace kp_0_4 := cell_below bt_8 kp_0_4
    clear bt_8
    replace H := app_hid H
    replace H := join_hid H
    cases t_8 with
    | false =>
      replace H := ite_f H
      replace H := app_hid H
      replace H := join_hid H
      replace H := ite_f H
      replace H := app_hid H
      obtain rfl := ret_hid H
      go_wp2_with fail
      go_ret
      exact ⟨rfl, HBwt_8.out⟩
    | true =>
      replace H := ite_t H
      replace H := bind_hid H
      obtain ⟨t_13, qt_13, H⟩ := H
      go_wp2_with fail
      go_at_call 67
      refine (Go.Proofs.Ytdgbigkcophjoaa.GsL1In.C (p_tint) (0) (9)  _    qt_13).mono ?_
      rintro e_t_13 wt_13 ⟨rfl, bt_13⟩
      have HBwt_13 := Lib.hid (Below.step HBwt_8.out bt_13)
      replace kp_0_0 := cell_below bt_13 kp_0_0
      replace kp_0_1 := cell_below bt_13 kp_0_1
      replace kp_0_2 := cell_below bt_13 kp_0_2
      replace kp_0_3 := cell_below bt_13 kp_0_3
      replace kp_0_4 := cell_below bt_13 kp_0_4
      clear bt_13
      replace H := app_hid H
      replace H := join_hid H
      cases t_13 with
      | false =>
        replace H := ite_f H
        replace H := app_hid H
        obtain rfl := ret_hid H
        go_wp2_with fail
        go_ret
        exact ⟨rfl, HBwt_13.out⟩
      | true =>
        replace H := ite_t H
        replace H := let_hid H
        obtain ⟨t_18, ht_18, H⟩ := H
        replace H := join_hid H
        cases t_18 with
        | false =>
          replace H := ite_f H
          replace H := bind_hid H
          obtain ⟨t_22, qt_22, H⟩ := H
          go_wp2_with fail
          go_at_call 87
          refine (Go.Proofs.Ytdgbigkcophjoaa.GsL2Word.C (p_mark)  _    qt_22).mono ?_
          rintro e_t_22 wt_22 ⟨rfl, bt_22⟩
          have HBwt_22 := Lib.hid (Below.step HBwt_13.out bt_22)
          replace kp_0_0 := cell_below bt_22 kp_0_0
          replace kp_0_1 := cell_below bt_22 kp_0_1
          replace kp_0_2 := cell_below bt_22 kp_0_2
          replace kp_0_3 := cell_below bt_22 kp_0_3
          replace kp_0_4 := cell_below bt_22 kp_0_4
          clear bt_22
          replace H := app_hid H
          replace H := app_hid H
          obtain rfl := ret_hid H
          go_wp2_with fail
          go_ret
          exact ⟨rfl, HBwt_22.out⟩
        | true =>
          replace H := ite_t H
          replace H := app_hid H
          replace H := app_hid H
          obtain rfl := ret_hid H
          go_wp2_with fail
          go_ret
          exact ⟨rfl, HBwt_13.out⟩
end Go.Proofs.Ytdgbigkcophjoaa.GsL3One

/- loop.example/g01062/spec.l3Good as a plain function, and the contract of the program's: where the plain one has an answer, the program has it. Conditions: slices read as lists. -/
namespace Go.Proofs.Ytdgbigkcophjoaa.GsL3Good
set_option linter.unusedVariables false
set_option linter.unusedSimpArgs false
open Go.RowKit
open Go.Proofs.Ytdgbigkcophjoaa.Rowed Go.Proofs.Ytdgbigkcophjoaa.Turn Go.Proofs.Ytdgbigkcophjoaa.Aid Go.Proofs.Ytdgbigkcophjoaa.GoP Go.Proofs.Ytdgbigkcophjoaa.GoM

def l0 (list : (List Go.Proofs.Ytdgbigkcophjoaa.PPaper.Paper)) (k0 : Nat) (s : Unit) (nx0 bk0 : Unit → Option (Bool)) : Option (Bool) :=
  
  Option.bind (idx list (k0 : Int)) fun (yt_8 : Go.Proofs.Ytdgbigkcophjoaa.PPaper.Paper) =>
  unPaper yt_8 fun (t_8_id : Int) (t_8_thick : Int) (t_8_tint : Int) (t_8_mark : ByteArray) (t_8_laid : Bool) =>
  Option.bind (Go.Proofs.Ytdgbigkcophjoaa.GsL3One.P (Go.Proofs.Ytdgbigkcophjoaa.PPaper.Paper.mk t_8_id t_8_thick t_8_tint t_8_mark t_8_laid)) fun (t_10 : Bool) =>
  letK (!t_10) fun (t_11 : Bool) =>
  joinK (fun (t_29 : Bool) =>
  iteK t_29
  (some false)
  (appK nx0 ())) fun jt_29 => iteK t_11 (appK jt_29 true) (letK (decide (0 < (k0 : Int))) fun (t_14 : Bool) =>
  joinK (fun (t_28 : Bool) =>
  appK jt_29 t_28) fun jt_28 => iteK t_14 (letK (IntKind.i64.wrap ((k0 : Int) - 1)) fun (t_18 : Int) =>
  Option.bind (idx list t_18) fun (yt_19 : Go.Proofs.Ytdgbigkcophjoaa.PPaper.Paper) =>
  unPaper yt_19 fun (t_19_id : Int) (t_19_thick : Int) (t_19_tint : Int) (t_19_mark : ByteArray) (t_19_laid : Bool) =>
  Option.bind (idx list (k0 : Int)) fun (yt_24 : Go.Proofs.Ytdgbigkcophjoaa.PPaper.Paper) =>
  unPaper yt_24 fun (t_24_id : Int) (t_24_thick : Int) (t_24_tint : Int) (t_24_mark : ByteArray) (t_24_laid : Bool) =>
  letK (decide (t_24_id ≤ t_19_id)) fun (t_27 : Bool) =>
  appK jt_28 t_27) (appK jt_28 false))

def e0 (list : (List Go.Proofs.Ytdgbigkcophjoaa.PPaper.Paper)) (s : Unit) : Option (Bool) :=
  
  letK (decide ((list.length : Int) ≤ 10)) fun (t_36 : Bool) =>
  some t_36

def P (list : (List Go.Proofs.Ytdgbigkcophjoaa.PPaper.Paper)) : Option (Bool) :=
  cntK (l0 list) (list.length) 0 () (e0 list)

set_option maxRecDepth 100000 in
set_option maxHeartbeats 2000000 in
theorem C (list : (List Go.Proofs.Ytdgbigkcophjoaa.PPaper.Paper)) (A0 : Option Addr) (c0 : Nat)  (w : World) (M0 : Hid (Cells w 5 A0 list.length (Go.Proofs.Ytdgbigkcophjoaa.PPaper.flat list))) (N0 : Hid (list.length ≤ 9223372036854775807))  {r : Bool} (H : Hid (P list = some r)) :
    Calls Try.prog 77 #[.slice A0 list.length c0] w (Gives (.bool r) w) := by
  have HB := Lib.hid (Below.refl w.heap.size w)
  unfold P at H
  have N0o := N0.out
  go_enter Try.func77, Try.ntmps77
  go_wp2_with fail
  go_loopg [3] (list.length) (fun m_ v3_ wr => ∃ (k0 : Nat) , k0 + m_ = list.length ∧ v3_ = .int .i64 (k0 : Int) ∧ Hid (cntK (l0 list) m_ k0 () (e0 list) = some r) ∧ Hid (Below w.heap.size w wr))
  case atStart => exact ⟨0, by omega, rfl, H, HB⟩
  case round =>
    obtain ⟨k0, hkm0, rfl, H, HBwr0⟩ := hrel
    rename World => wr0
    cases gk with
    | zero =>
      obtain rfl : k0 = list.length := by omega
      have hc0 : decide (((list.length : Nat) : Int) < ((list.length : Nat) : Int)) = false := by simp
      replace H := cnt_zero H
      unfold e0 at H
      replace H := let_hid H
      obtain ⟨t_36, ht_36, H⟩ := H
      obtain rfl := ret_hid H
      go_wp2_with fail
      go_ret
      exact ⟨rfl, HBwr0.out⟩
    | succ m0 =>
      have hlt0 : k0 < list.length := by omega
      have hc0 : decide ((k0 : Int) < ((list.length : Nat) : Int)) = true := by simp; omega
      replace H := cnt_succ H
      unfold l0 at H
      go_wp2_with fail
      replace H := idx_hid H
      obtain ⟨nt_8, yt_8, et_8, lt_8, gt_8, H⟩ := H
      obtain rfl : k0 = nt_8 := by omega
      clear et_8
      obtain ⟨t_8_id, t_8_thick, t_8_tint, t_8_mark, t_8_laid⟩ := yt_8
      replace H := unPaper_hid H
      obtain ⟨ab_t_8, ao_t_8, zt_8, At_8, z_t_8, ct_8_0, ct_8_1, ct_8_2, ct_8_3, ct_8_4⟩ := Go.Proofs.Ytdgbigkcophjoaa.OPaper.at_ M0.out lt_8
      obtain rfl := Option.some.inj (gt_8.out.symm.trans z_t_8)
      subst At_8
      have ltt_8 := cell_lt ct_8_0
      replace ct_8_0 := cell_below HBwr0.out ct_8_0
      replace ct_8_1 := cell_below HBwr0.out ct_8_1
      replace ct_8_2 := cell_below HBwr0.out ct_8_2
      replace ct_8_3 := cell_below HBwr0.out ct_8_3
      replace ct_8_4 := cell_below HBwr0.out ct_8_4
      clear z_t_8
      have b0t_8 : (0 : Int) ≤ (k0 : Int) := by omega
      have b1t_8 : (k0 : Int) < ((list.length : Nat) : Int) := by omega
      have b2t_8 : ((k0 : Int)).toNat = k0 := by omega
      have Hct_8_0 := Lib.hid ct_8_0
      replace ct_8_0 := cell_regrown ct_8_0
      have Hct_8_1 := Lib.hid ct_8_1
      replace ct_8_1 := cell_regrown ct_8_1
      have Hct_8_2 := Lib.hid ct_8_2
      replace ct_8_2 := cell_regrown ct_8_2
      have Hct_8_3 := Lib.hid ct_8_3
      replace ct_8_3 := cell_regrown ct_8_3
      have Hct_8_4 := Lib.hid ct_8_4
      replace ct_8_4 := cell_regrown ct_8_4
      replace H := bind_hid H
      obtain ⟨t_10, qt_10, H⟩ := H
      have nt_10 : ∀ d os, Calls Try.prog 109 #[.agg #[.int .i64 t_8_id, .int .i64 t_8_thick, .int .i64 t_8_tint, .string t_8_mark, .bool t_8_laid]] (Go.Sort.grow (redrawn wr0 d) os) fun e w'' => e = .returned (.bool t_10) ∧ ∃ p : Regrown, w'' = Go.Sort.grow (redrawn wr0 p.d) p.os := fun d os => Calls.regrown_of (Go.Proofs.Ytdgbigkcophjoaa.GsL3One.C ((Go.Proofs.Ytdgbigkcophjoaa.PPaper.Paper.mk t_8_id t_8_thick t_8_tint t_8_mark t_8_laid))  _    qt_10)
      cases t_10 with
      | false =>
        replace H := let_hid H
        obtain ⟨t_11, ht_11, H⟩ := H
        obtain rfl : t_11 = true := ht_11.symm
        replace H := join_hid H
        replace H := ite_t H
        replace H := app_hid H
        refine wp_region_quiet_below (by kernel_rfl) (by kernel_rfl) ?_
        repeat (go_big_quiet_step (first | (go_at_call 109; exact nt_10 _ _)))
        refine wpQuiet_nil ?_
        intro Y4 hY4
        replace hY4 := below_class hY4
        clear nt_10
        replace ct_8_0 := Hct_8_0.out
        clear Hct_8_0
        replace ct_8_1 := Hct_8_1.out
        clear Hct_8_1
        replace ct_8_2 := Hct_8_2.out
        clear Hct_8_2
        replace ct_8_3 := Hct_8_3.out
        clear Hct_8_3
        replace ct_8_4 := Hct_8_4.out
        clear Hct_8_4
        have HBY4 := Lib.hid (Below.step HBwr0.out hY4)
        replace ct_8_0 := cell_below hY4 ct_8_0
        replace ct_8_1 := cell_below hY4 ct_8_1
        replace ct_8_2 := cell_below hY4 ct_8_2
        replace ct_8_3 := cell_below hY4 ct_8_3
        replace ct_8_4 := cell_below hY4 ct_8_4
        clear hY4
        replace H := ite_t H
        obtain rfl := ret_hid H
        go_wp2_with fail
        go_ret
        exact ⟨rfl, HBY4.out⟩
      | true =>
        replace H := let_hid H
        obtain ⟨t_11, ht_11, H⟩ := H
        obtain rfl : t_11 = false := ht_11.symm
        replace H := join_hid H
        replace H := ite_f H
        replace H := let_hid H
        obtain ⟨t_14, ht_14, H⟩ := H
        replace H := join_hid H
        cases t_14 with
        | false =>
          have nht_14 : ¬ (0 < k0) := by have := of_decide_eq_false ht_14; omega
          replace H := ite_f H
          replace H := app_hid H
          replace H := app_hid H
          refine wp_region_quiet_below (by kernel_rfl) (by kernel_rfl) ?_
          repeat (go_big_quiet_step (first | (go_at_call 109; exact nt_10 _ _)))
          refine wpQuiet_nil ?_
          intro Y4 hY4
          replace hY4 := below_class hY4
          clear nt_10
          replace ct_8_0 := Hct_8_0.out
          clear Hct_8_0
          replace ct_8_1 := Hct_8_1.out
          clear Hct_8_1
          replace ct_8_2 := Hct_8_2.out
          clear Hct_8_2
          replace ct_8_3 := Hct_8_3.out
          clear Hct_8_3
          replace ct_8_4 := Hct_8_4.out
          clear Hct_8_4
          have HBY4 := Lib.hid (Below.step HBwr0.out hY4)
          replace ct_8_0 := cell_below hY4 ct_8_0
          replace ct_8_1 := cell_below hY4 ct_8_1
          replace ct_8_2 := cell_below hY4 ct_8_2
          replace ct_8_3 := cell_below hY4 ct_8_3
          replace ct_8_4 := cell_below hY4 ct_8_4
          clear hY4
          replace H := ite_f H
          replace H := app_hid H
          go_wp2_with fail
          go_roundg m0
          case measure => omega
          case rel => exact ⟨k0 + 1, by omega, by go_num, H, HBY4⟩
        | true =>
          have nht_14 : 0 < k0 := by have := of_decide_eq_true ht_14; omega
          replace H := ite_t H
          replace H := let_hid H
          obtain ⟨t_18, ht_18, H⟩ := H
          replace H := idx_hid H
          obtain ⟨nt_19, yt_19, et_19, lt_19, gt_19, H⟩ := H
          subst et_19
          obtain ⟨t_19_id, t_19_thick, t_19_tint, t_19_mark, t_19_laid⟩ := yt_19
          replace H := unPaper_hid H
          obtain ⟨ab_t_19, ao_t_19, zt_19, At_19, z_t_19, ct_19_0, ct_19_1, ct_19_2, ct_19_3, ct_19_4⟩ := Go.Proofs.Ytdgbigkcophjoaa.OPaper.at_ M0.out lt_19
          obtain rfl := Option.some.inj (gt_19.out.symm.trans z_t_19)
          simp only [Option.some.injEq, Addr.mk.injEq] at At_19
          obtain ⟨rfl, rfl, _⟩ := At_19
          have ltt_19 := cell_lt ct_19_0
          replace ct_19_0 := cell_below HBwr0.out ct_19_0
          replace ct_19_1 := cell_below HBwr0.out ct_19_1
          replace ct_19_2 := cell_below HBwr0.out ct_19_2
          replace ct_19_3 := cell_below HBwr0.out ct_19_3
          replace ct_19_4 := cell_below HBwr0.out ct_19_4
          clear z_t_19
          have b0t_19 : (0 : Int) ≤ (nt_19 : Int) := by omega
          have b1t_19 : (nt_19 : Int) < ((list.length : Nat) : Int) := by omega
          have b2t_19 : ((nt_19 : Int)).toNat = nt_19 := by omega
          have Hct_19_0 := Lib.hid ct_19_0
          replace ct_19_0 := cell_regrown ct_19_0
          have Hct_19_1 := Lib.hid ct_19_1
          replace ct_19_1 := cell_regrown ct_19_1
          have Hct_19_2 := Lib.hid ct_19_2
          replace ct_19_2 := cell_regrown ct_19_2
          have Hct_19_3 := Lib.hid ct_19_3
          replace ct_19_3 := cell_regrown ct_19_3
          have Hct_19_4 := Lib.hid ct_19_4
          replace ct_19_4 := cell_regrown ct_19_4
          replace H := idx_hid H
          obtain ⟨nt_24, yt_24, et_24, lt_24, gt_24, H⟩ := H
          obtain rfl : k0 = nt_24 := by omega
          clear et_24
          obtain rfl := Option.some.inj (gt_8.out.symm.trans gt_24.out)
          clear gt_24 lt_24
          replace H := unPaper_hid H
          replace H := let_hid H
          obtain ⟨t_27, ht_27, H⟩ := H
          replace H := app_hid H
          replace H := app_hid H
          refine wp_region_quiet_below (by kernel_rfl) (by kernel_rfl) ?_
          repeat (go_big_quiet_step (first | (go_at_call 109; exact nt_10 _ _)))
          refine wpQuiet_nil ?_
          intro Y4 hY4
          replace hY4 := below_class hY4
          clear nt_10
          replace ct_8_0 := Hct_8_0.out
          clear Hct_8_0
          replace ct_8_1 := Hct_8_1.out
          clear Hct_8_1
          replace ct_8_2 := Hct_8_2.out
          clear Hct_8_2
          replace ct_8_3 := Hct_8_3.out
          clear Hct_8_3
          replace ct_8_4 := Hct_8_4.out
          clear Hct_8_4
          replace ct_19_0 := Hct_19_0.out
          clear Hct_19_0
          replace ct_19_1 := Hct_19_1.out
          clear Hct_19_1
          replace ct_19_2 := Hct_19_2.out
          clear Hct_19_2
          replace ct_19_3 := Hct_19_3.out
          clear Hct_19_3
          replace ct_19_4 := Hct_19_4.out
          clear Hct_19_4
          have HBY4 := Lib.hid (Below.step HBwr0.out hY4)
          replace ct_8_0 := cell_below hY4 ct_8_0
          replace ct_8_1 := cell_below hY4 ct_8_1
          replace ct_8_2 := cell_below hY4 ct_8_2
          replace ct_8_3 := cell_below hY4 ct_8_3
          replace ct_8_4 := cell_below hY4 ct_8_4
          replace ct_19_0 := cell_below hY4 ct_19_0
          replace ct_19_1 := cell_below hY4 ct_19_1
          replace ct_19_2 := cell_below hY4 ct_19_2
          replace ct_19_3 := cell_below hY4 ct_19_3
          replace ct_19_4 := cell_below hY4 ct_19_4
          clear hY4
          cases t_27 with
          | false =>
            replace H := ite_f H
            replace H := app_hid H
            go_wp2_with fail
            go_roundg m0
            case measure => omega
            case rel => exact ⟨k0 + 1, by omega, by go_num, H, HBY4⟩
          | true =>
            replace H := ite_t H
            obtain rfl := ret_hid H
            go_wp2_with fail
            go_ret
            exact ⟨rfl, HBY4.out⟩
end Go.Proofs.Ytdgbigkcophjoaa.GsL3Good

/- loop.example/g01062/spec.PapersWith as a plain function, and the contract of the program's: where the plain one has an answer, the program has it. Conditions: slices read as lists. -/
namespace Go.Proofs.Ytdgbigkcophjoaa.GsPapersWith
set_option linter.unusedVariables false
set_option linter.unusedSimpArgs false
open Go.RowKit
open Go.Proofs.Ytdgbigkcophjoaa.Rowed Go.Proofs.Ytdgbigkcophjoaa.Turn Go.Proofs.Ytdgbigkcophjoaa.Aid Go.Proofs.Ytdgbigkcophjoaa.GoP Go.Proofs.Ytdgbigkcophjoaa.GoM

def l0 (list : (List Go.Proofs.Ytdgbigkcophjoaa.PPaper.Paper)) (mark : ByteArray) (k0 : Nat) (s : (List Int)) (nx0 bk0 : (List Int) → Option ((List Int) × Bool)) : Option ((List Int) × Bool) :=
  letK s fun out_6l0 =>
  Option.bind (idx list (k0 : Int)) fun (yt_26 : Go.Proofs.Ytdgbigkcophjoaa.PPaper.Paper) =>
  unPaper yt_26 fun (t_26_id : Int) (t_26_thick : Int) (t_26_tint : Int) (t_26_mark : ByteArray) (t_26_laid : Bool) =>
  letK (t_26_mark.toList == mark.toList) fun (t_30 : Bool) =>
  iteK t_30
  (Option.bind (idx list (k0 : Int)) fun (yt_34 : Go.Proofs.Ytdgbigkcophjoaa.PPaper.Paper) =>
  unPaper yt_34 fun (t_34_id : Int) (t_34_thick : Int) (t_34_tint : Int) (t_34_mark : ByteArray) (t_34_laid : Bool) =>
  guardK (out_6l0.length ≤ 1099511627776) <|
  letK (out_6l0 ++ [t_34_id]) fun (t_38 : (List Int)) =>
  appK nx0 (t_38))
  (appK nx0 (out_6l0))

def e0  (s : (List Int)) : Option ((List Int) × Bool) :=
  letK s fun out_6l0 =>
  some (out_6l0, true)

def P (list : (List Go.Proofs.Ytdgbigkcophjoaa.PPaper.Paper)) (mark : ByteArray) : Option ((List Int) × Bool) :=
  Option.bind (Go.Proofs.Ytdgbigkcophjoaa.GsL3Good.P list) fun (t_5 : Bool) =>
  letK (!t_5) fun (t_6 : Bool) =>
  joinK (fun (t_15 : Bool) =>
  iteK t_15
  (some (([] : List Int), false))
  (cntK (l0 list mark) (list.length) 0 (([] : List Int)) (e0 ))) fun jt_15 => iteK t_6 (appK jt_15 true) (letK (!mark.toList.isEmpty) fun (t_9 : Bool) =>
  joinK (fun (t_14 : Bool) =>
  appK jt_15 t_14) fun jt_14 => iteK t_9 (Option.bind (Go.Proofs.Ytdgbigkcophjoaa.GsL2Word.P mark) fun (t_12 : Bool) =>
  letK (!t_12) fun (t_13 : Bool) =>
  appK jt_14 t_13) (appK jt_14 false))

set_option maxRecDepth 100000 in
set_option maxHeartbeats 2000000 in
theorem C (list : (List Go.Proofs.Ytdgbigkcophjoaa.PPaper.Paper)) (mark : ByteArray) (A0 : Option Addr) (c0 : Nat)  (w : World) (M0 : Hid (Cells w 5 A0 list.length (Go.Proofs.Ytdgbigkcophjoaa.PPaper.flat list))) (N0 : Hid (list.length ≤ 9223372036854775807))  {r0 : (List Int)} {r1 : Bool} (H : Hid (P list mark = some (r0, r1))) :
    Calls Try.prog 44 #[.slice A0 list.length c0, .string mark] w (fun e w' => ∃ A_r0 c_r0, e = .returned (.tuple #[.slice A_r0 r0.length c_r0, .bool r1]) ∧ w'.ownsRow w.heap.size 3 1 (.slice A_r0 r0.length c_r0) r0.length (Go.Proofs.Ytdgbigkcophjoaa.HelpInt.iv r0) ∧ Below w.heap.size w w') := by
  have HB := Lib.hid (Below.refl w.heap.size w)
  unfold P at H
  have N0o := N0.out
  obtain ⟨i0_3, hi_3, hz0_3, hz1_3, hz2_3⟩ := Aid.info_parts (P := Try.prog) (T := 3) (z := .int .i64 0) (s := 1) (b := 8) (by kernel_rfl)
  go_enter Try.func44, Try.ntmps44
  obtain ⟨w_t_2, hw_t_2⟩ : ∃ x, w.alloc (.cells #[] 3) = x := ⟨_, rfl⟩
  have bw_t_2 : Below w.heap.size w w_t_2 := by rw [← hw_t_2]; exact (Below.refl _ _).alloc (Nat.le_refl _) _
  have Ot_2 : Hid (w_t_2.ownsRow w.heap.size 3 1 (.slice (some ⟨w.heap.size, 0, none⟩) 0 0) 0 []) := Lib.hid (by rw [← hw_t_2]; exact own_empty HB.out.size)
  have HBw_t_2 := Lib.hid (Below.step HB.out bw_t_2)
  clear bw_t_2
  replace H := bind_hid H
  obtain ⟨t_5, qt_5, H⟩ := H
  go_wp2_with fail
  go_at_call 77
  refine (Go.Proofs.Ytdgbigkcophjoaa.GsL3Good.C (list) A0 c0 _   (Lib.hid (Cells.below M0.out HBw_t_2.out)) N0 qt_5).mono ?_
  rintro e_t_5 wt_5 ⟨rfl, bt_5⟩
  have HBwt_5 := Lib.hid (Below.step HBw_t_2.out bt_5)
  replace Ot_2 := Lib.hid (own_below Ot_2.out bt_5)
  clear bt_5
  cases t_5 with
  | false =>
    replace H := let_hid H
    obtain ⟨t_6, ht_6, H⟩ := H
    obtain rfl : t_6 = true := ht_6.symm
    replace H := join_hid H
    replace H := ite_t H
    replace H := app_hid H
    replace H := ite_t H
    cases ret_hid H
    go_wp2_with fail
    go_ret2
    exact ⟨(some ⟨w.heap.size, 0, none⟩), 0, rfl, Ot_2.out, HBwt_5.out⟩
  | true =>
    replace H := let_hid H
    obtain ⟨t_6, ht_6, H⟩ := H
    obtain rfl : t_6 = false := ht_6.symm
    replace H := join_hid H
    replace H := ite_f H
    replace H := let_hid H
    obtain ⟨t_9, ht_9, H⟩ := H
    replace H := join_hid H
    cases t_9 with
    | false =>
      replace H := ite_f H
      replace H := app_hid H
      replace H := app_hid H
      replace H := ite_f H
      go_wp2_with fail
      go_loopg [7, 6] (list.length) (fun m_ v7_ v6_ wr => ∃ (k0 : Nat) (out_6l0 : (List Int)) (Aout_6l0 : Option Addr) (cout_6l0 : Nat), k0 + m_ = list.length ∧ v7_ = .int .i64 (k0 : Int) ∧ v6_ = .slice Aout_6l0 out_6l0.length cout_6l0 ∧ Hid (cntK (l0 list mark) m_ k0 (out_6l0) (e0 ) = some (r0, r1)) ∧ Hid (Below w.heap.size w wr) ∧ Hid (wr.ownsRow w.heap.size 3 1 (.slice Aout_6l0 out_6l0.length cout_6l0) out_6l0.length (Go.Proofs.Ytdgbigkcophjoaa.HelpInt.iv out_6l0)))
      case atStart => exact ⟨0, _, _, _, by omega, rfl, rfl, H, HBwt_5, Ot_2⟩
      case round =>
        obtain ⟨k0, out_6l0, Aout_6l0, cout_6l0, hkm0, rfl, rfl, H, HBwr0, Oout_6l0⟩ := hrel
        rename World => wr0
        cases gk with
        | zero =>
          obtain rfl : k0 = list.length := by omega
          have hc0 : decide (((list.length : Nat) : Int) < ((list.length : Nat) : Int)) = false := by simp
          replace H := cnt_zero H
          unfold e0 at H
          replace H := let_hid H
          obtain ⟨_, rfl, H⟩ := H
          cases ret_hid H
          go_wp2_with fail
          go_ret2
          exact ⟨Aout_6l0, cout_6l0, rfl, Oout_6l0.out, HBwr0.out⟩
        | succ m0 =>
          have hlt0 : k0 < list.length := by omega
          have hc0 : decide ((k0 : Int) < ((list.length : Nat) : Int)) = true := by simp; omega
          replace H := cnt_succ H
          unfold l0 at H
          replace H := let_hid H
          obtain ⟨_, rfl, H⟩ := H
          replace H := idx_hid H
          obtain ⟨nt_26, yt_26, et_26, lt_26, gt_26, H⟩ := H
          obtain rfl : k0 = nt_26 := by omega
          clear et_26
          obtain ⟨t_26_id, t_26_thick, t_26_tint, t_26_mark, t_26_laid⟩ := yt_26
          replace H := unPaper_hid H
          obtain ⟨ab_t_26, ao_t_26, zt_26, At_26, z_t_26, ct_26_0, ct_26_1, ct_26_2, ct_26_3, ct_26_4⟩ := Go.Proofs.Ytdgbigkcophjoaa.OPaper.at_ M0.out lt_26
          obtain rfl := Option.some.inj (gt_26.out.symm.trans z_t_26)
          subst At_26
          have ltt_26 := cell_lt ct_26_0
          replace ct_26_0 := cell_below HBwr0.out ct_26_0
          replace ct_26_1 := cell_below HBwr0.out ct_26_1
          replace ct_26_2 := cell_below HBwr0.out ct_26_2
          replace ct_26_3 := cell_below HBwr0.out ct_26_3
          replace ct_26_4 := cell_below HBwr0.out ct_26_4
          clear z_t_26
          have b0t_26 : (0 : Int) ≤ (k0 : Int) := by omega
          have b1t_26 : (k0 : Int) < ((list.length : Nat) : Int) := by omega
          have b2t_26 : ((k0 : Int)).toNat = k0 := by omega
          replace H := let_hid H
          obtain ⟨t_30, ht_30, H⟩ := H
          cases t_30 with
          | false =>
            replace H := ite_f H
            replace H := app_hid H
            go_wp2_with fail
            go_roundg m0
            case measure => omega
            case rel => exact ⟨k0 + 1, _, _, _, by omega, by go_num, rfl, H, HBwr0, Oout_6l0⟩
          | true =>
            replace H := ite_t H
            replace H := idx_hid H
            obtain ⟨nt_34, yt_34, et_34, lt_34, gt_34, H⟩ := H
            obtain rfl : k0 = nt_34 := by omega
            clear et_34
            obtain rfl := Option.some.inj (gt_26.out.symm.trans gt_34.out)
            clear gt_34 lt_34
            replace H := unPaper_hid H
            obtain ⟨w_t_37, hw_t_37⟩ : ∃ x, wr0.alloc (.cells #[.int .i64 t_26_id] 3) = x := ⟨_, rfl⟩
            have bw_t_37 : Below wr0.heap.size wr0 w_t_37 := by rw [← hw_t_37]; exact (Below.refl _ _).alloc (Nat.le_refl _) _
            have HBw_t_37 := Lib.hid (Below.step HBwr0.out bw_t_37)
            have ct_26_0__353 := cell_below bw_t_37 ct_26_0
            have ct_26_1__354 := cell_below bw_t_37 ct_26_1
            have ct_26_2__355 := cell_below bw_t_37 ct_26_2
            have ct_26_3__356 := cell_below bw_t_37 ct_26_3
            have ct_26_4__357 := cell_below bw_t_37 ct_26_4
            replace Oout_6l0 := Lib.hid (own_below Oout_6l0.out bw_t_37)
            clear bw_t_37
            replace H := guard_hid H
            obtain ⟨hlt_38, H⟩ := H
            replace H := let_hid H
            obtain ⟨t_38, ht_38, H⟩ := H
            have hht_38 := Lib.hid ht_38
            clear ht_38
            have hst_38 := HBw_t_37.out.size
            go_wp2_with (at_builtin; refine wpList_append_own_at _ rfl _ _ 29 rfl w.heap.size 3 i0_3 (.int .i64 0) 1 8 Try.underlying29 hi_3 hz0_3 hz1_3 hz2_3 rfl (by decide) _ _ _ rfl Oout_6l0.out ⟨wr0.heap.size, 0, none⟩ 1 1 [.int .i64 t_26_id] rfl rfl (news_new hw_t_37) (one_cells rfl) (by unfold maxLen; omega) (by omega) hst_38 ?_; intro vt_38 wt_38 ot_38 gt_38 zt_38 yt_38; clear zt_38; obtain ⟨qt_38, ct_38, rfl, pt_38⟩ := own_push hht_38.out (Go.Proofs.Ytdgbigkcophjoaa.HelpInt.iv_snoc _ _) rfl ot_38; have Pt_38 := Lib.hid pt_38; have Yt_38 := Lib.hid yt_38; have Gt_38 := Lib.hid gt_38; clear ot_38 gt_38 pt_38 yt_38; refine stop_in ?_)
            refine stop_out ?_
            have HBwt_38 := Lib.hid (HBw_t_37.out.grown Gt_38.out hst_38 (fun q hq => (Oout_6l0.out.lt q hq).1))
            clear hst_38
            replace ct_26_0__353 := cell_other ct_26_0__353 Gt_38.out (apart_old Oout_6l0.out ltt_26)
            replace ct_26_1__354 := cell_other ct_26_1__354 Gt_38.out (apart_old Oout_6l0.out ltt_26)
            replace ct_26_2__355 := cell_other ct_26_2__355 Gt_38.out (apart_old Oout_6l0.out ltt_26)
            replace ct_26_3__356 := cell_other ct_26_3__356 Gt_38.out (apart_old Oout_6l0.out ltt_26)
            replace ct_26_4__357 := cell_other ct_26_4__357 Gt_38.out (apart_old Oout_6l0.out ltt_26)
            clear ct_26_0 ct_26_1 ct_26_2 ct_26_3 ct_26_4
            clear Oout_6l0 Yt_38 Gt_38
            replace H := app_hid H
            go_wp2_with fail
            go_roundg m0
            case measure => omega
            case rel => exact ⟨k0 + 1, _, _, _, by omega, by go_num, rfl, H, HBwt_38, Pt_38⟩
    | true =>
      replace H := ite_t H
      replace H := bind_hid H
      obtain ⟨t_12, qt_12, H⟩ := H
      go_wp2_with fail
      go_at_call 87
      refine (Go.Proofs.Ytdgbigkcophjoaa.GsL2Word.C (mark)  _    qt_12).mono ?_
      rintro e_t_12 wt_12 ⟨rfl, bt_12⟩
      have HBwt_12 := Lib.hid (Below.step HBwt_5.out bt_12)
      replace Ot_2 := Lib.hid (own_below Ot_2.out bt_12)
      clear bt_12
      cases t_12 with
      | false =>
        replace H := let_hid H
        obtain ⟨t_13, ht_13, H⟩ := H
        obtain rfl : t_13 = true := ht_13.symm
        replace H := app_hid H
        replace H := app_hid H
        replace H := ite_t H
        cases ret_hid H
        go_wp2_with fail
        go_ret2
        exact ⟨(some ⟨w.heap.size, 0, none⟩), 0, rfl, Ot_2.out, HBwt_12.out⟩
      | true =>
        replace H := let_hid H
        obtain ⟨t_13, ht_13, H⟩ := H
        obtain rfl : t_13 = false := ht_13.symm
        replace H := app_hid H
        replace H := app_hid H
        replace H := ite_f H
        go_wp2_with fail
        go_loopg [7, 6] (list.length) (fun m_ v7_ v6_ wr => ∃ (k0 : Nat) (out_6l0 : (List Int)) (Aout_6l0 : Option Addr) (cout_6l0 : Nat), k0 + m_ = list.length ∧ v7_ = .int .i64 (k0 : Int) ∧ v6_ = .slice Aout_6l0 out_6l0.length cout_6l0 ∧ Hid (cntK (l0 list mark) m_ k0 (out_6l0) (e0 ) = some (r0, r1)) ∧ Hid (Below w.heap.size w wr) ∧ Hid (wr.ownsRow w.heap.size 3 1 (.slice Aout_6l0 out_6l0.length cout_6l0) out_6l0.length (Go.Proofs.Ytdgbigkcophjoaa.HelpInt.iv out_6l0)))
        case atStart => exact ⟨0, _, _, _, by omega, rfl, rfl, H, HBwt_12, Ot_2⟩
        case round =>
          obtain ⟨k0, out_6l0, Aout_6l0, cout_6l0, hkm0, rfl, rfl, H, HBwr0, Oout_6l0⟩ := hrel
          rename World => wr0
          cases gk with
          | zero =>
            obtain rfl : k0 = list.length := by omega
            have hc0 : decide (((list.length : Nat) : Int) < ((list.length : Nat) : Int)) = false := by simp
            replace H := cnt_zero H
            unfold e0 at H
            replace H := let_hid H
            obtain ⟨_, rfl, H⟩ := H
            cases ret_hid H
            go_wp2_with fail
            go_ret2
            exact ⟨Aout_6l0, cout_6l0, rfl, Oout_6l0.out, HBwr0.out⟩
          | succ m0 =>
            have hlt0 : k0 < list.length := by omega
            have hc0 : decide ((k0 : Int) < ((list.length : Nat) : Int)) = true := by simp; omega
            replace H := cnt_succ H
            unfold l0 at H
            replace H := let_hid H
            obtain ⟨_, rfl, H⟩ := H
            replace H := idx_hid H
            obtain ⟨nt_26, yt_26, et_26, lt_26, gt_26, H⟩ := H
            obtain rfl : k0 = nt_26 := by omega
            clear et_26
            obtain ⟨t_26_id, t_26_thick, t_26_tint, t_26_mark, t_26_laid⟩ := yt_26
            replace H := unPaper_hid H
            obtain ⟨ab_t_26, ao_t_26, zt_26, At_26, z_t_26, ct_26_0, ct_26_1, ct_26_2, ct_26_3, ct_26_4⟩ := Go.Proofs.Ytdgbigkcophjoaa.OPaper.at_ M0.out lt_26
            obtain rfl := Option.some.inj (gt_26.out.symm.trans z_t_26)
            subst At_26
            have ltt_26 := cell_lt ct_26_0
            replace ct_26_0 := cell_below HBwr0.out ct_26_0
            replace ct_26_1 := cell_below HBwr0.out ct_26_1
            replace ct_26_2 := cell_below HBwr0.out ct_26_2
            replace ct_26_3 := cell_below HBwr0.out ct_26_3
            replace ct_26_4 := cell_below HBwr0.out ct_26_4
            clear z_t_26
            have b0t_26 : (0 : Int) ≤ (k0 : Int) := by omega
            have b1t_26 : (k0 : Int) < ((list.length : Nat) : Int) := by omega
            have b2t_26 : ((k0 : Int)).toNat = k0 := by omega
            replace H := let_hid H
            obtain ⟨t_30, ht_30, H⟩ := H
            cases t_30 with
            | false =>
              replace H := ite_f H
              replace H := app_hid H
              go_wp2_with fail
              go_roundg m0
              case measure => omega
              case rel => exact ⟨k0 + 1, _, _, _, by omega, by go_num, rfl, H, HBwr0, Oout_6l0⟩
            | true =>
              replace H := ite_t H
              replace H := idx_hid H
              obtain ⟨nt_34, yt_34, et_34, lt_34, gt_34, H⟩ := H
              obtain rfl : k0 = nt_34 := by omega
              clear et_34
              obtain rfl := Option.some.inj (gt_26.out.symm.trans gt_34.out)
              clear gt_34 lt_34
              replace H := unPaper_hid H
              obtain ⟨w_t_37, hw_t_37⟩ : ∃ x, wr0.alloc (.cells #[.int .i64 t_26_id] 3) = x := ⟨_, rfl⟩
              have bw_t_37 : Below wr0.heap.size wr0 w_t_37 := by rw [← hw_t_37]; exact (Below.refl _ _).alloc (Nat.le_refl _) _
              have HBw_t_37 := Lib.hid (Below.step HBwr0.out bw_t_37)
              have ct_26_0__358 := cell_below bw_t_37 ct_26_0
              have ct_26_1__359 := cell_below bw_t_37 ct_26_1
              have ct_26_2__360 := cell_below bw_t_37 ct_26_2
              have ct_26_3__361 := cell_below bw_t_37 ct_26_3
              have ct_26_4__362 := cell_below bw_t_37 ct_26_4
              replace Oout_6l0 := Lib.hid (own_below Oout_6l0.out bw_t_37)
              clear bw_t_37
              replace H := guard_hid H
              obtain ⟨hlt_38, H⟩ := H
              replace H := let_hid H
              obtain ⟨t_38, ht_38, H⟩ := H
              have hht_38 := Lib.hid ht_38
              clear ht_38
              have hst_38 := HBw_t_37.out.size
              go_wp2_with (at_builtin; refine wpList_append_own_at _ rfl _ _ 29 rfl w.heap.size 3 i0_3 (.int .i64 0) 1 8 Try.underlying29 hi_3 hz0_3 hz1_3 hz2_3 rfl (by decide) _ _ _ rfl Oout_6l0.out ⟨wr0.heap.size, 0, none⟩ 1 1 [.int .i64 t_26_id] rfl rfl (news_new hw_t_37) (one_cells rfl) (by unfold maxLen; omega) (by omega) hst_38 ?_; intro vt_38 wt_38 ot_38 gt_38 zt_38 yt_38; clear zt_38; obtain ⟨qt_38, ct_38, rfl, pt_38⟩ := own_push hht_38.out (Go.Proofs.Ytdgbigkcophjoaa.HelpInt.iv_snoc _ _) rfl ot_38; have Pt_38 := Lib.hid pt_38; have Yt_38 := Lib.hid yt_38; have Gt_38 := Lib.hid gt_38; clear ot_38 gt_38 pt_38 yt_38; refine stop_in ?_)
              refine stop_out ?_
              have HBwt_38 := Lib.hid (HBw_t_37.out.grown Gt_38.out hst_38 (fun q hq => (Oout_6l0.out.lt q hq).1))
              clear hst_38
              replace ct_26_0__358 := cell_other ct_26_0__358 Gt_38.out (apart_old Oout_6l0.out ltt_26)
              replace ct_26_1__359 := cell_other ct_26_1__359 Gt_38.out (apart_old Oout_6l0.out ltt_26)
              replace ct_26_2__360 := cell_other ct_26_2__360 Gt_38.out (apart_old Oout_6l0.out ltt_26)
              replace ct_26_3__361 := cell_other ct_26_3__361 Gt_38.out (apart_old Oout_6l0.out ltt_26)
              replace ct_26_4__362 := cell_other ct_26_4__362 Gt_38.out (apart_old Oout_6l0.out ltt_26)
              clear ct_26_0 ct_26_1 ct_26_2 ct_26_3 ct_26_4
              clear Oout_6l0 Yt_38 Gt_38
              replace H := app_hid H
              go_wp2_with fail
              go_roundg m0
              case measure => omega
              case rel => exact ⟨k0 + 1, _, _, _, by omega, by go_num, rfl, H, HBwt_38, Pt_38⟩
end Go.Proofs.Ytdgbigkcophjoaa.GsPapersWith

/- loop.example/g01062/impl.within as a plain function, and the contract of the program's: where the plain one has an answer, the program has it. Conditions: slices read as lists. -/
namespace Go.Proofs.Ytdgbigkcophjoaa.GiWithin
set_option linter.unusedVariables false
set_option linter.unusedSimpArgs false
open Go.RowKit
open Go.Proofs.Ytdgbigkcophjoaa.Rowed Go.Proofs.Ytdgbigkcophjoaa.Turn Go.Proofs.Ytdgbigkcophjoaa.Aid Go.Proofs.Ytdgbigkcophjoaa.GoP Go.Proofs.Ytdgbigkcophjoaa.GoM

def P (n_0 : Int) (low : Int) (high : Int) : Option (Bool) :=
  letK (decide (low ≤ n_0)) fun (t_3 : Bool) =>
  joinK (fun (t_8 : Bool) =>
  some t_8) fun jt_8 => iteK t_3 (letK (decide (n_0 ≤ high)) fun (t_7 : Bool) =>
  appK jt_8 t_7) (appK jt_8 false)

set_option maxRecDepth 100000 in
set_option maxHeartbeats 2000000 in
theorem C (n_0 : Int) (low : Int) (high : Int)   (w : World)   {r : Bool} (H : Hid (P n_0 low high = some r)) :
    Calls Try.prog 71 #[.int .i64 n_0, .int .i64 low, .int .i64 high] w (Gives (.bool r) w) := by
  have HB := Lib.hid (Below.refl w.heap.size w)
  unfold P at H
  go_enter Try.func71, Try.ntmps71
  replace H := let_hid H
  obtain ⟨t_3, ht_3, H⟩ := H
  replace H := join_hid H
  cases t_3 with
  | false =>
    replace H := ite_f H
    replace H := app_hid H
    obtain rfl := ret_hid H
    go_wp2_with fail
    go_ret
    exact ⟨rfl, HB.out⟩
  | true =>
    replace H := ite_t H
    replace H := let_hid H
    obtain ⟨t_7, ht_7, H⟩ := H
    replace H := app_hid H
    obtain rfl := ret_hid H
    go_wp2_with fail
    go_ret
    exact ⟨rfl, HB.out⟩

set_option maxRecDepth 100000 in
set_option maxHeartbeats 2000000 in
theorem C0 (n_0 : Int) (low : Int) (high : Int)   (w : World)   {r : Bool} (H : Hid (P n_0 low high = some r)) :
    Calls Try.prog 71 #[.int .i64 n_0, .int .i64 low, .int .i64 high] w (fun e w'' => e = .returned (.bool r) ∧ w'' = w) := by
  have HB := Lib.hid (Below.refl w.heap.size w)
  unfold P at H
  go_enter Try.func71, Try.ntmps71
  replace H := let_hid H
  obtain ⟨t_3, ht_3, H⟩ := H
  replace H := join_hid H
  cases t_3 with
  | false =>
    replace H := ite_f H
    replace H := app_hid H
    obtain rfl := ret_hid H
    go_wp2_with fail
    go_ret
    exact ⟨rfl, rfl⟩
  | true =>
    replace H := ite_t H
    replace H := let_hid H
    obtain ⟨t_7, ht_7, H⟩ := H
    replace H := app_hid H
    obtain rfl := ret_hid H
    go_wp2_with fail
    go_ret
    exact ⟨rfl, rfl⟩
end Go.Proofs.Ytdgbigkcophjoaa.GiWithin

/- loop.example/g01062/impl.isLetter as a plain function, and the contract of the program's: where the plain one has an answer, the program has it. Conditions: slices read as lists. -/
namespace Go.Proofs.Ytdgbigkcophjoaa.GiIsLetter
set_option linter.unusedVariables false
set_option linter.unusedSimpArgs false
open Go.RowKit
open Go.Proofs.Ytdgbigkcophjoaa.Rowed Go.Proofs.Ytdgbigkcophjoaa.Turn Go.Proofs.Ytdgbigkcophjoaa.Aid Go.Proofs.Ytdgbigkcophjoaa.GoP Go.Proofs.Ytdgbigkcophjoaa.GoM

def P (c : Int) : Option (Bool) :=
  letK (decide (97 ≤ c)) fun (t_2 : Bool) =>
  joinK (fun (t_6 : Bool) =>
  some t_6) fun jt_6 => iteK t_2 (letK (decide (c ≤ 122)) fun (t_5 : Bool) =>
  appK jt_6 t_5) (appK jt_6 false)

set_option maxRecDepth 100000 in
set_option maxHeartbeats 2000000 in
theorem C (c : Int)   (w : World)   {r : Bool} (H : Hid (P c = some r)) :
    Calls Try.prog 118 #[.int .u8 c] w (Gives (.bool r) w) := by
  have HB := Lib.hid (Below.refl w.heap.size w)
  unfold P at H
  go_enter Try.func118, Try.ntmps118
  replace H := let_hid H
  obtain ⟨t_2, ht_2, H⟩ := H
  replace H := join_hid H
  cases t_2 with
  | false =>
    replace H := ite_f H
    replace H := app_hid H
    obtain rfl := ret_hid H
    go_wp2_with fail
    go_ret
    exact ⟨rfl, HB.out⟩
  | true =>
    replace H := ite_t H
    replace H := let_hid H
    obtain ⟨t_5, ht_5, H⟩ := H
    replace H := app_hid H
    obtain rfl := ret_hid H
    go_wp2_with fail
    go_ret
    exact ⟨rfl, HB.out⟩

set_option maxRecDepth 100000 in
set_option maxHeartbeats 2000000 in
theorem C0 (c : Int)   (w : World)   {r : Bool} (H : Hid (P c = some r)) :
    Calls Try.prog 118 #[.int .u8 c] w (fun e w'' => e = .returned (.bool r) ∧ w'' = w) := by
  have HB := Lib.hid (Below.refl w.heap.size w)
  unfold P at H
  go_enter Try.func118, Try.ntmps118
  replace H := let_hid H
  obtain ⟨t_2, ht_2, H⟩ := H
  replace H := join_hid H
  cases t_2 with
  | false =>
    replace H := ite_f H
    replace H := app_hid H
    obtain rfl := ret_hid H
    go_wp2_with fail
    go_ret
    exact ⟨rfl, rfl⟩
  | true =>
    replace H := ite_t H
    replace H := let_hid H
    obtain ⟨t_5, ht_5, H⟩ := H
    replace H := app_hid H
    obtain rfl := ret_hid H
    go_wp2_with fail
    go_ret
    exact ⟨rfl, rfl⟩
end Go.Proofs.Ytdgbigkcophjoaa.GiIsLetter

/- loop.example/g01062/impl.isWord as a plain function, and the contract of the program's: where the plain one has an answer, the program has it. Conditions: slices read as lists. -/
namespace Go.Proofs.Ytdgbigkcophjoaa.GiIsWord
set_option linter.unusedVariables false
set_option linter.unusedSimpArgs false
open Go.RowKit
open Go.Proofs.Ytdgbigkcophjoaa.Rowed Go.Proofs.Ytdgbigkcophjoaa.Turn Go.Proofs.Ytdgbigkcophjoaa.Aid Go.Proofs.Ytdgbigkcophjoaa.GoP Go.Proofs.Ytdgbigkcophjoaa.GoM

def l0 (s_0 : ByteArray) (k0 : Nat) (s : Unit) (nx0 bk0 : Unit → Option (Bool)) : Option (Bool) :=
  
  Option.bind (idx s_0.toList (k0 : Int)) fun (yt_14 : UInt8) =>
  letK ((yt_14.toNat : Int)) fun (t_14 : Int) =>
  Option.bind (Go.Proofs.Ytdgbigkcophjoaa.GiIsLetter.P t_14) fun (t_15 : Bool) =>
  letK (!t_15) fun (t_16 : Bool) =>
  iteK t_16
  (some false)
  (appK nx0 ())

def e0  (s : Unit) : Option (Bool) :=
  
  some true

def P (s_0 : ByteArray) : Option (Bool) :=
  Option.bind (Go.Proofs.Ytdgbigkcophjoaa.GiWithin.P (s_0.size : Int) 1 10) fun (t_3 : Bool) =>
  letK (!t_3) fun (t_4 : Bool) =>
  iteK t_4
  (some false)
  (guardK (s_0.size ≤ 9223372036854775807) <|
  cntK (l0 s_0) (s_0.size) 0 () (e0 ))

set_option maxRecDepth 100000 in
set_option maxHeartbeats 2000000 in
theorem C (s_0 : ByteArray)   (w : World)   {r : Bool} (H : Hid (P s_0 = some r)) :
    Calls Try.prog 110 #[.string s_0] w (Gives (.bool r) w) := by
  have HB := Lib.hid (Below.refl w.heap.size w)
  unfold P at H
  go_enter Try.func110, Try.ntmps110
  replace H := bind_hid H
  obtain ⟨t_3, qt_3, H⟩ := H
  go_wp2_with fail
  go_at_call 71
  refine (Go.Proofs.Ytdgbigkcophjoaa.GiWithin.C ((s_0.size : Int)) (1) (10)  _    qt_3).mono ?_
  rintro e_t_3 wt_3 ⟨rfl, bt_3⟩
  have HBwt_3 := Lib.hid (Below.step HB.out bt_3)
  clear bt_3
  cases t_3 with
  | false =>
    replace H := let_hid H
    obtain ⟨t_4, ht_4, H⟩ := H
    obtain rfl : t_4 = true := ht_4.symm
    replace H := ite_t H
    obtain rfl := ret_hid H
    go_wp2_with fail
    go_ret
    exact ⟨rfl, HBwt_3.out⟩
  | true =>
    replace H := let_hid H
    obtain ⟨t_4, ht_4, H⟩ := H
    obtain rfl : t_4 = false := ht_4.symm
    replace H := ite_f H
    replace H := guard_hid H
    obtain ⟨hg0, H⟩ := H
    go_wp2_with fail
    go_loopg [10] (s_0.size) (fun m_ v10_ wr => ∃ (k0 : Nat) , k0 + m_ = s_0.size ∧ v10_ = .int .i64 (k0 : Int) ∧ Hid (cntK (l0 s_0) m_ k0 () (e0 ) = some r) ∧ Hid (Below w.heap.size w wr))
    case atStart => exact ⟨0, by omega, rfl, H, HBwt_3⟩
    case round =>
      obtain ⟨k0, hkm0, rfl, H, HBwr0⟩ := hrel
      rename World => wr0
      cases gk with
      | zero =>
        obtain rfl : k0 = s_0.size := by omega
        have hc0 : decide (((s_0.size : Nat) : Int) < ((s_0.size : Nat) : Int)) = false := by simp
        replace H := cnt_zero H
        unfold e0 at H
        obtain rfl := ret_hid H
        go_wp2_with fail
        go_ret
        exact ⟨rfl, HBwr0.out⟩
      | succ m0 =>
        have hlt0 : k0 < s_0.size := by omega
        have hc0 : decide ((k0 : Int) < ((s_0.size : Nat) : Int)) = true := by simp; omega
        replace H := cnt_succ H
        unfold l0 at H
        replace H := idx_hid H
        obtain ⟨nt_14, yt_14, et_14, lt_14, gt_14, H⟩ := H
        obtain rfl : k0 = nt_14 := by omega
        clear et_14
        have rt_14 := byte_rule lt_14 gt_14.out
        have b0t_14 : (0 : Int) ≤ (k0 : Int) := by omega
        have b1t_14 : (k0 : Int) < (s_0.size : Int) := by have := size_list s_0; omega
        have b2t_14 : ((k0 : Int)).toNat = k0 := by omega
        have b3t_14 : k0 < s_0.size := by have := size_list s_0; omega
        replace H := let_hid H
        obtain ⟨t_14, ht_14, H⟩ := H
        replace H := bind_hid H
        obtain ⟨t_15, qt_15, H⟩ := H
        go_wp2_with fail
        go_at_call 118
        refine (Go.Proofs.Ytdgbigkcophjoaa.GiIsLetter.C (t_14)  _    qt_15).mono ?_
        rintro e_t_15 wt_15 ⟨rfl, bt_15⟩
        have HBwt_15 := Lib.hid (Below.step HBwr0.out bt_15)
        clear bt_15
        cases t_15 with
        | false =>
          replace H := let_hid H
          obtain ⟨t_16, ht_16, H⟩ := H
          obtain rfl : t_16 = true := ht_16.symm
          replace H := ite_t H
          obtain rfl := ret_hid H
          go_wp2_with fail
          go_ret
          exact ⟨rfl, HBwt_15.out⟩
        | true =>
          replace H := let_hid H
          obtain ⟨t_16, ht_16, H⟩ := H
          obtain rfl : t_16 = false := ht_16.symm
          replace H := ite_f H
          replace H := app_hid H
          go_wp2_with fail
          go_roundg m0
          case measure => omega
          case rel => exact ⟨k0 + 1, by omega, by go_num, H, HBwt_15⟩
end Go.Proofs.Ytdgbigkcophjoaa.GiIsWord

/- loop.example/g01062/impl.isMark as a plain function, and the contract of the program's: where the plain one has an answer, the program has it. Conditions: slices read as lists. -/
namespace Go.Proofs.Ytdgbigkcophjoaa.GiIsMark
set_option linter.unusedVariables false
set_option linter.unusedSimpArgs false
open Go.RowKit
open Go.Proofs.Ytdgbigkcophjoaa.Rowed Go.Proofs.Ytdgbigkcophjoaa.Turn Go.Proofs.Ytdgbigkcophjoaa.Aid Go.Proofs.Ytdgbigkcophjoaa.GoP Go.Proofs.Ytdgbigkcophjoaa.GoM

def P (s_0 : ByteArray) : Option (Bool) :=
  letK (s_0.toList.isEmpty) fun (t_2 : Bool) =>
  joinK (fun (t_6 : Bool) =>
  some t_6) fun jt_6 => iteK t_2 (appK jt_6 true) (Option.bind (Go.Proofs.Ytdgbigkcophjoaa.GiIsWord.P s_0) fun (t_5 : Bool) =>
  appK jt_6 t_5)

set_option maxRecDepth 100000 in
set_option maxHeartbeats 2000000 in
theorem C (s_0 : ByteArray)   (w : World)   {r : Bool} (H : Hid (P s_0 = some r)) :
    Calls Try.prog 88 #[.string s_0] w (Gives (.bool r) w) := by
  have HB := Lib.hid (Below.refl w.heap.size w)
  unfold P at H
  go_enter Try.func88, Try.ntmps88
  replace H := let_hid H
  obtain ⟨t_2, ht_2, H⟩ := H
  replace H := join_hid H
  cases t_2 with
  | false =>
    replace H := ite_f H
    replace H := bind_hid H
    obtain ⟨t_5, qt_5, H⟩ := H
    go_wp2_with fail
    go_at_call 110
    refine (Go.Proofs.Ytdgbigkcophjoaa.GiIsWord.C (s_0)  _    qt_5).mono ?_
    rintro e_t_5 wt_5 ⟨rfl, bt_5⟩
    have HBwt_5 := Lib.hid (Below.step HB.out bt_5)
    clear bt_5
    replace H := app_hid H
    obtain rfl := ret_hid H
    go_wp2_with fail
    go_ret
    exact ⟨rfl, HBwt_5.out⟩
  | true =>
    replace H := ite_t H
    replace H := app_hid H
    obtain rfl := ret_hid H
    go_wp2_with fail
    go_ret
    exact ⟨rfl, HB.out⟩
end Go.Proofs.Ytdgbigkcophjoaa.GiIsMark

/- loop.example/g01062/impl.IsPaper as a plain function, and the contract of the program's: where the plain one has an answer, the program has it. Conditions: slices read as lists. -/
namespace Go.Proofs.Ytdgbigkcophjoaa.GiIsPaper
set_option linter.unusedVariables false
set_option linter.unusedSimpArgs false
open Go.RowKit
open Go.Proofs.Ytdgbigkcophjoaa.Rowed Go.Proofs.Ytdgbigkcophjoaa.Turn Go.Proofs.Ytdgbigkcophjoaa.Aid Go.Proofs.Ytdgbigkcophjoaa.GoP Go.Proofs.Ytdgbigkcophjoaa.GoM

def P (p : Go.Proofs.Ytdgbigkcophjoaa.PPaper.Paper) : Option (Bool) :=
  unPaper p fun (p_id : Int) (p_thick : Int) (p_tint : Int) (p_mark : ByteArray) (p_laid : Bool) =>
  Option.bind (Go.Proofs.Ytdgbigkcophjoaa.GiWithin.P p_id 1 99) fun (t_4 : Bool) =>
  joinK (fun (t_9 : Bool) =>
  joinK (fun (t_14 : Bool) =>
  joinK (fun (t_19 : Bool) =>
  some t_19) fun jt_19 => iteK t_14 (Option.bind (Go.Proofs.Ytdgbigkcophjoaa.GiIsMark.P p_mark) fun (t_18 : Bool) =>
  appK jt_19 t_18) (appK jt_19 false)) fun jt_14 => iteK t_9 (Option.bind (Go.Proofs.Ytdgbigkcophjoaa.GiWithin.P p_tint 0 9) fun (t_13 : Bool) =>
  appK jt_14 t_13) (appK jt_14 false)) fun jt_9 => iteK t_4 (Option.bind (Go.Proofs.Ytdgbigkcophjoaa.GiWithin.P p_thick 1 300) fun (t_8 : Bool) =>
  appK jt_9 t_8) (appK jt_9 false)

set_option maxRecDepth 100000 in
set_option maxHeartbeats 2000000 in
theorem C (p : Go.Proofs.Ytdgbigkcophjoaa.PPaper.Paper)   (w : World)   {r : Bool} (H : Hid (P p = some r)) :
    Calls Try.prog 80 #[p.val] w (Gives (.bool r) w) := by
  have HB := Lib.hid (Below.refl w.heap.size w)
  unfold P at H
  obtain ⟨p_id, p_thick, p_tint, p_mark, p_laid⟩ := p
  replace H := unPaper_hid H
  unfold Go.Proofs.Ytdgbigkcophjoaa.PPaper.Paper.val
  go_enter Try.func80, Try.ntmps80
  obtain ⟨w_p_0, hw_p_0⟩ : ∃ x, w.alloc (.cells #[.int .i64 p_id, .int .i64 p_thick, .int .i64 p_tint, .string p_mark, .bool p_laid] 90) = x := ⟨_, rfl⟩
  have bw_p_0 : Below w.heap.size w w_p_0 := by rw [← hw_p_0]; exact (Below.refl _ _).alloc (Nat.le_refl _) _
  have HBw_p_0 := Lib.hid (Below.step HB.out bw_p_0)
  clear bw_p_0
  have kp_0_0 : w_p_0.cell? ⟨w.heap.size, 0, none⟩ = some (.int .i64 p_id) := by rw [← hw_p_0]; exact box_new _ _ _ 0 _ rfl
  have kp_0_1 : w_p_0.cell? ⟨w.heap.size, 1, none⟩ = some (.int .i64 p_thick) := by rw [← hw_p_0]; exact box_new _ _ _ 1 _ rfl
  have kp_0_2 : w_p_0.cell? ⟨w.heap.size, 2, none⟩ = some (.int .i64 p_tint) := by rw [← hw_p_0]; exact box_new _ _ _ 2 _ rfl
  have kp_0_3 : w_p_0.cell? ⟨w.heap.size, 3, none⟩ = some (.string p_mark) := by rw [← hw_p_0]; exact box_new _ _ _ 3 _ rfl
  have kp_0_4 : w_p_0.cell? ⟨w.heap.size, 4, none⟩ = some (.bool p_laid) := by rw [← hw_p_0]; exact box_new _ _ _ 4 _ rfl
  replace H := bind_hid H
  obtain ⟨t_4, qt_4, H⟩ := H
  go_wp2_with fail
  go_at_call 71
  refine (Go.Proofs.Ytdgbigkcophjoaa.GiWithin.C (p_id) (1) (99)  _    qt_4).mono ?_
  rintro e_t_4 wt_4 ⟨rfl, bt_4⟩
  have HBwt_4 := Lib.hid (Below.step HBw_p_0.out bt_4)
  replace kp_0_0 := cell_below bt_4 kp_0_0
  replace kp_0_1 := cell_below bt_4 kp_0_1
  replace kp_0_2 := cell_below bt_4 kp_0_2
  replace kp_0_3 := cell_below bt_4 kp_0_3
  replace kp_0_4 := cell_below bt_4 kp_0_4
  clear bt_4
  replace H := join_hid H
  cases t_4 with
  | false =>
    replace H := ite_f H
    replace H := app_hid H
    replace H := join_hid H
    replace H := ite_f H
    replace H := app_hid H
    replace H := join_hid H
    replace H := ite_f H
    replace H := app_hid H
    obtain rfl := ret_hid H
    go_wp2_with fail
    go_ret
    exact ⟨rfl, HBwt_4.out⟩
  | true =>
    replace H := ite_t H
    replace H := bind_hid H
    obtain ⟨t_8, qt_8, H⟩ := H
    go_wp2_with fail
    go_at_call 71
    refine (Go.Proofs.Ytdgbigkcophjoaa.GiWithin.C (p_thick) (1) (300)  _    qt_8).mono ?_
    rintro e_t_8 wt_8 ⟨rfl, bt_8⟩
    have HBwt_8 := Lib.hid (Below.step HBwt_4.out bt_8)
    replace kp_0_0 := cell_below bt_8 kp_0_0
    replace kp_0_1 := cell_below bt_8 kp_0_1
    replace kp_0_2 := cell_below bt_8 kp_0_2
    replace kp_0_3 := cell_below bt_8 kp_0_3
    replace kp_0_4 := cell_below bt_8 kp_0_4
    clear bt_8
    replace H := app_hid H
    replace H := join_hid H
    cases t_8 with
    | false =>
      replace H := ite_f H
      replace H := app_hid H
      replace H := join_hid H
      replace H := ite_f H
      replace H := app_hid H
      obtain rfl := ret_hid H
      go_wp2_with fail
      go_ret
      exact ⟨rfl, HBwt_8.out⟩
    | true =>
      replace H := ite_t H
      replace H := bind_hid H
      obtain ⟨t_13, qt_13, H⟩ := H
      go_wp2_with fail
      go_at_call 71
      refine (Go.Proofs.Ytdgbigkcophjoaa.GiWithin.C (p_tint) (0) (9)  _    qt_13).mono ?_
      rintro e_t_13 wt_13 ⟨rfl, bt_13⟩
      have HBwt_13 := Lib.hid (Below.step HBwt_8.out bt_13)
      replace kp_0_0 := cell_below bt_13 kp_0_0
      replace kp_0_1 := cell_below bt_13 kp_0_1
      replace kp_0_2 := cell_below bt_13 kp_0_2
      replace kp_0_3 := cell_below bt_13 kp_0_3
      replace kp_0_4 := cell_below bt_13 kp_0_4
      clear bt_13
      replace H := app_hid H
      replace H := join_hid H
      cases t_13 with
      | false =>
        replace H := ite_f H
        replace H := app_hid H
        obtain rfl := ret_hid H
        go_wp2_with fail
        go_ret
        exact ⟨rfl, HBwt_13.out⟩
      | true =>
        replace H := ite_t H
        replace H := bind_hid H
        obtain ⟨t_18, qt_18, H⟩ := H
        go_wp2_with fail
        go_at_call 88
        refine (Go.Proofs.Ytdgbigkcophjoaa.GiIsMark.C (p_mark)  _    qt_18).mono ?_
        rintro e_t_18 wt_18 ⟨rfl, bt_18⟩
        have HBwt_18 := Lib.hid (Below.step HBwt_13.out bt_18)
        replace kp_0_0 := cell_below bt_18 kp_0_0
        replace kp_0_1 := cell_below bt_18 kp_0_1
        replace kp_0_2 := cell_below bt_18 kp_0_2
        replace kp_0_3 := cell_below bt_18 kp_0_3
        replace kp_0_4 := cell_below bt_18 kp_0_4
        clear bt_18
        replace H := app_hid H
        obtain rfl := ret_hid H
        go_wp2_with fail
        go_ret
        exact ⟨rfl, HBwt_18.out⟩
end Go.Proofs.Ytdgbigkcophjoaa.GiIsPaper

/- loop.example/g01062/impl.idOfPaper as a plain function, and the contract of the program's: where the plain one has an answer, the program has it. Conditions: slices read as lists. -/
namespace Go.Proofs.Ytdgbigkcophjoaa.GiIdOfPaper
set_option linter.unusedVariables false
set_option linter.unusedSimpArgs false
open Go.RowKit
open Go.Proofs.Ytdgbigkcophjoaa.Rowed Go.Proofs.Ytdgbigkcophjoaa.Turn Go.Proofs.Ytdgbigkcophjoaa.Aid Go.Proofs.Ytdgbigkcophjoaa.GoP Go.Proofs.Ytdgbigkcophjoaa.GoM

def P (p : Go.Proofs.Ytdgbigkcophjoaa.PPaper.Paper) : Option (Int) :=
  unPaper p fun (p_id : Int) (p_thick : Int) (p_tint : Int) (p_mark : ByteArray) (p_laid : Bool) =>
  some p_id

set_option maxRecDepth 100000 in
set_option maxHeartbeats 2000000 in
theorem C (p : Go.Proofs.Ytdgbigkcophjoaa.PPaper.Paper)   (w : World)   {r : Int} (H : Hid (P p = some r)) :
    Calls Try.prog 81 #[p.val] w (Gives (.int .i64 r) w) := by
  have HB := Lib.hid (Below.refl w.heap.size w)
  unfold P at H
  obtain ⟨p_id, p_thick, p_tint, p_mark, p_laid⟩ := p
  replace H := unPaper_hid H
  unfold Go.Proofs.Ytdgbigkcophjoaa.PPaper.Paper.val
  go_enter Try.func81, Try.ntmps81
  obtain ⟨w_p_0, hw_p_0⟩ : ∃ x, w.alloc (.cells #[.int .i64 p_id, .int .i64 p_thick, .int .i64 p_tint, .string p_mark, .bool p_laid] 90) = x := ⟨_, rfl⟩
  have bw_p_0 : Below w.heap.size w w_p_0 := by rw [← hw_p_0]; exact (Below.refl _ _).alloc (Nat.le_refl _) _
  have HBw_p_0 := Lib.hid (Below.step HB.out bw_p_0)
  clear bw_p_0
  have kp_0_0 : w_p_0.cell? ⟨w.heap.size, 0, none⟩ = some (.int .i64 p_id) := by rw [← hw_p_0]; exact box_new _ _ _ 0 _ rfl
  have kp_0_1 : w_p_0.cell? ⟨w.heap.size, 1, none⟩ = some (.int .i64 p_thick) := by rw [← hw_p_0]; exact box_new _ _ _ 1 _ rfl
  have kp_0_2 : w_p_0.cell? ⟨w.heap.size, 2, none⟩ = some (.int .i64 p_tint) := by rw [← hw_p_0]; exact box_new _ _ _ 2 _ rfl
  have kp_0_3 : w_p_0.cell? ⟨w.heap.size, 3, none⟩ = some (.string p_mark) := by rw [← hw_p_0]; exact box_new _ _ _ 3 _ rfl
  have kp_0_4 : w_p_0.cell? ⟨w.heap.size, 4, none⟩ = some (.bool p_laid) := by rw [← hw_p_0]; exact box_new _ _ _ 4 _ rfl
  obtain rfl := ret_hid H
  go_wp2_with fail
  go_ret
  exact ⟨rfl, HBw_p_0.out⟩
end Go.Proofs.Ytdgbigkcophjoaa.GiIdOfPaper

/- loop.example/g01062/impl.areByKey[loop.example/g01062/impl.Paper,int] as a plain function, and the contract of the program's: where the plain one has an answer, the program has it. Conditions: slices read as lists. -/
namespace Go.Proofs.Ytdgbigkcophjoaa.GiAreByKeyPaperIntiIsPaperiIdOfPaper
set_option linter.unusedVariables false
set_option linter.unusedSimpArgs false
open Go.RowKit
open Go.Proofs.Ytdgbigkcophjoaa.Rowed Go.Proofs.Ytdgbigkcophjoaa.Turn Go.Proofs.Ytdgbigkcophjoaa.Aid Go.Proofs.Ytdgbigkcophjoaa.GoP Go.Proofs.Ytdgbigkcophjoaa.GoM

def l0 (list : (List Go.Proofs.Ytdgbigkcophjoaa.PPaper.Paper)) (k0 : Nat) (s : Unit) (nx0 bk0 : Unit → Option (Bool)) : Option (Bool) :=
  
  Option.bind (idx list (k0 : Int)) fun (yt_11 : Go.Proofs.Ytdgbigkcophjoaa.PPaper.Paper) =>
  unPaper yt_11 fun (t_11_id : Int) (t_11_thick : Int) (t_11_tint : Int) (t_11_mark : ByteArray) (t_11_laid : Bool) =>
  Option.bind (Go.Proofs.Ytdgbigkcophjoaa.GiIsPaper.P (Go.Proofs.Ytdgbigkcophjoaa.PPaper.Paper.mk t_11_id t_11_thick t_11_tint t_11_mark t_11_laid)) fun (t_18 : Bool) =>
  letK (!t_18) fun (t_19 : Bool) =>
  joinK (fun (t_36 : Bool) =>
  iteK t_36
  (some false)
  (appK nx0 ())) fun jt_36 => iteK t_19 (appK jt_36 true) (letK (decide (0 < (k0 : Int))) fun (t_22 : Bool) =>
  joinK (fun (t_35 : Bool) =>
  appK jt_36 t_35) fun jt_35 => iteK t_22 (Option.bind (Go.Proofs.Ytdgbigkcophjoaa.GiIdOfPaper.P (Go.Proofs.Ytdgbigkcophjoaa.PPaper.Paper.mk t_11_id t_11_thick t_11_tint t_11_mark t_11_laid)) fun (t_26 : Int) =>
  letK (IntKind.i64.wrap ((k0 : Int) - 1)) fun (t_30 : Int) =>
  Option.bind (idx list t_30) fun (yt_31 : Go.Proofs.Ytdgbigkcophjoaa.PPaper.Paper) =>
  unPaper yt_31 fun (t_31_id : Int) (t_31_thick : Int) (t_31_tint : Int) (t_31_mark : ByteArray) (t_31_laid : Bool) =>
  Option.bind (Go.Proofs.Ytdgbigkcophjoaa.GiIdOfPaper.P (Go.Proofs.Ytdgbigkcophjoaa.PPaper.Paper.mk t_31_id t_31_thick t_31_tint t_31_mark t_31_laid)) fun (t_33 : Int) =>
  letK (decide (t_26 ≤ t_33)) fun (t_34 : Bool) =>
  appK jt_35 t_34) (appK jt_35 false))

def e0  (s : Unit) : Option (Bool) :=
  
  some true

def P (list : (List Go.Proofs.Ytdgbigkcophjoaa.PPaper.Paper)) (most : Int) : Option (Bool) :=
  letK (decide (most < (list.length : Int))) fun (t_4 : Bool) =>
  iteK t_4
  (some false)
  (cntK (l0 list) (list.length) 0 () (e0 ))

set_option maxRecDepth 100000 in
set_option maxHeartbeats 2000000 in
theorem C (list : (List Go.Proofs.Ytdgbigkcophjoaa.PPaper.Paper)) (most : Int) (A0 : Option Addr) (c0 : Nat)  (w : World) (M0 : Hid (Cells w 5 A0 list.length (Go.Proofs.Ytdgbigkcophjoaa.PPaper.flat list))) (N0 : Hid (list.length ≤ 9223372036854775807))  {r : Bool} (H : Hid (P list most = some r)) :
    Calls Try.prog 79 #[.slice A0 list.length c0, .int .i64 most, .func (.func 80) #[] #[], .func (.func 81) #[] #[]] w (Gives (.bool r) w) := by
  have HB := Lib.hid (Below.refl w.heap.size w)
  unfold P at H
  have N0o := N0.out
  go_enter Try.func79, Try.ntmps79
  replace H := let_hid H
  obtain ⟨t_4, ht_4, H⟩ := H
  cases t_4 with
  | false =>
    replace H := ite_f H
    go_wp2_with fail
    go_loopg [17] (list.length) (fun m_ v17_ wr => ∃ (k0 : Nat) , k0 + m_ = list.length ∧ v17_ = .int .i64 (k0 : Int) ∧ Hid (cntK (l0 list) m_ k0 () (e0 ) = some r) ∧ Hid (Below w.heap.size w wr))
    case atStart => exact ⟨0, by omega, rfl, H, HB⟩
    case round =>
      obtain ⟨k0, hkm0, rfl, H, HBwr0⟩ := hrel
      rename World => wr0
      cases gk with
      | zero =>
        obtain rfl : k0 = list.length := by omega
        have hc0 : decide (((list.length : Nat) : Int) < ((list.length : Nat) : Int)) = false := by simp
        replace H := cnt_zero H
        unfold e0 at H
        obtain rfl := ret_hid H
        go_wp2_with fail
        go_ret
        exact ⟨rfl, HBwr0.out⟩
      | succ m0 =>
        have hlt0 : k0 < list.length := by omega
        have hc0 : decide ((k0 : Int) < ((list.length : Nat) : Int)) = true := by simp; omega
        replace H := cnt_succ H
        unfold l0 at H
        replace H := idx_hid H
        obtain ⟨nt_11, yt_11, et_11, lt_11, gt_11, H⟩ := H
        obtain rfl : k0 = nt_11 := by omega
        clear et_11
        obtain ⟨t_11_id, t_11_thick, t_11_tint, t_11_mark, t_11_laid⟩ := yt_11
        replace H := unPaper_hid H
        obtain ⟨ab_t_11, ao_t_11, zt_11, At_11, z_t_11, ct_11_0, ct_11_1, ct_11_2, ct_11_3, ct_11_4⟩ := Go.Proofs.Ytdgbigkcophjoaa.OPaper.at_ M0.out lt_11
        obtain rfl := Option.some.inj (gt_11.out.symm.trans z_t_11)
        subst At_11
        have ltt_11 := cell_lt ct_11_0
        replace ct_11_0 := cell_below HBwr0.out ct_11_0
        replace ct_11_1 := cell_below HBwr0.out ct_11_1
        replace ct_11_2 := cell_below HBwr0.out ct_11_2
        replace ct_11_3 := cell_below HBwr0.out ct_11_3
        replace ct_11_4 := cell_below HBwr0.out ct_11_4
        clear z_t_11
        have b0t_11 : (0 : Int) ≤ (k0 : Int) := by omega
        have b1t_11 : (k0 : Int) < ((list.length : Nat) : Int) := by omega
        have b2t_11 : ((k0 : Int)).toNat = k0 := by omega
        obtain ⟨w_e_13, hw_e_13⟩ : ∃ x, wr0.alloc (.cells #[.int .i64 t_11_id, .int .i64 t_11_thick, .int .i64 t_11_tint, .string t_11_mark, .bool t_11_laid] 90) = x := ⟨_, rfl⟩
        have bw_e_13 : Below wr0.heap.size wr0 w_e_13 := by rw [← hw_e_13]; exact (Below.refl _ _).alloc (Nat.le_refl _) _
        have HBw_e_13 := Lib.hid (Below.step HBwr0.out bw_e_13)
        have ct_11_0__286 := cell_below bw_e_13 ct_11_0
        have ct_11_1__287 := cell_below bw_e_13 ct_11_1
        have ct_11_2__288 := cell_below bw_e_13 ct_11_2
        have ct_11_3__289 := cell_below bw_e_13 ct_11_3
        have ct_11_4__290 := cell_below bw_e_13 ct_11_4
        clear bw_e_13
        have ke_13_0 : w_e_13.cell? ⟨wr0.heap.size, 0, none⟩ = some (.int .i64 t_11_id) := by rw [← hw_e_13]; exact box_new _ _ _ 0 _ rfl
        have ke_13_1 : w_e_13.cell? ⟨wr0.heap.size, 1, none⟩ = some (.int .i64 t_11_thick) := by rw [← hw_e_13]; exact box_new _ _ _ 1 _ rfl
        have ke_13_2 : w_e_13.cell? ⟨wr0.heap.size, 2, none⟩ = some (.int .i64 t_11_tint) := by rw [← hw_e_13]; exact box_new _ _ _ 2 _ rfl
        have ke_13_3 : w_e_13.cell? ⟨wr0.heap.size, 3, none⟩ = some (.string t_11_mark) := by rw [← hw_e_13]; exact box_new _ _ _ 3 _ rfl
        have ke_13_4 : w_e_13.cell? ⟨wr0.heap.size, 4, none⟩ = some (.bool t_11_laid) := by rw [← hw_e_13]; exact box_new _ _ _ 4 _ rfl
        go_wp2_with fail
        clear ct_11_0 ct_11_1 ct_11_2 ct_11_3 ct_11_4
        have Hct_11_0__286 := Lib.hid ct_11_0__286
        replace ct_11_0__286 := cell_regrown ct_11_0__286
        have Hct_11_1__287 := Lib.hid ct_11_1__287
        replace ct_11_1__287 := cell_regrown ct_11_1__287
        have Hct_11_2__288 := Lib.hid ct_11_2__288
        replace ct_11_2__288 := cell_regrown ct_11_2__288
        have Hct_11_3__289 := Lib.hid ct_11_3__289
        replace ct_11_3__289 := cell_regrown ct_11_3__289
        have Hct_11_4__290 := Lib.hid ct_11_4__290
        replace ct_11_4__290 := cell_regrown ct_11_4__290
        have Hke_13_0 := Lib.hid ke_13_0
        replace ke_13_0 := cell_regrown ke_13_0
        have Hke_13_1 := Lib.hid ke_13_1
        replace ke_13_1 := cell_regrown ke_13_1
        have Hke_13_2 := Lib.hid ke_13_2
        replace ke_13_2 := cell_regrown ke_13_2
        have Hke_13_3 := Lib.hid ke_13_3
        replace ke_13_3 := cell_regrown ke_13_3
        have Hke_13_4 := Lib.hid ke_13_4
        replace ke_13_4 := cell_regrown ke_13_4
        replace H := bind_hid H
        obtain ⟨t_18, qt_18, H⟩ := H
        have nt_18 : ∀ d os, Calls Try.prog 80 #[.agg #[.int .i64 t_11_id, .int .i64 t_11_thick, .int .i64 t_11_tint, .string t_11_mark, .bool t_11_laid]] (Go.Sort.grow (redrawn w_e_13 d) os) fun e w'' => e = .returned (.bool t_18) ∧ ∃ p : Regrown, w'' = Go.Sort.grow (redrawn w_e_13 p.d) p.os := fun d os => Calls.regrown_of (Go.Proofs.Ytdgbigkcophjoaa.GiIsPaper.C ((Go.Proofs.Ytdgbigkcophjoaa.PPaper.Paper.mk t_11_id t_11_thick t_11_tint t_11_mark t_11_laid))  _    qt_18)
        cases t_18 with
        | false =>
          replace H := let_hid H
          obtain ⟨t_19, ht_19, H⟩ := H
          obtain rfl : t_19 = true := ht_19.symm
          replace H := join_hid H
          replace H := ite_t H
          replace H := app_hid H
          refine wp_region_quiet_below (by kernel_rfl) (by kernel_rfl) ?_
          repeat (go_big_quiet_step (first | (go_at_call 80; exact nt_18 _ _)))
          refine wpQuiet_nil ?_
          intro Y6 hY6
          replace hY6 := below_class hY6
          clear nt_18
          replace ct_11_0__286 := Hct_11_0__286.out
          clear Hct_11_0__286
          replace ct_11_1__287 := Hct_11_1__287.out
          clear Hct_11_1__287
          replace ct_11_2__288 := Hct_11_2__288.out
          clear Hct_11_2__288
          replace ct_11_3__289 := Hct_11_3__289.out
          clear Hct_11_3__289
          replace ct_11_4__290 := Hct_11_4__290.out
          clear Hct_11_4__290
          replace ke_13_0 := Hke_13_0.out
          clear Hke_13_0
          replace ke_13_1 := Hke_13_1.out
          clear Hke_13_1
          replace ke_13_2 := Hke_13_2.out
          clear Hke_13_2
          replace ke_13_3 := Hke_13_3.out
          clear Hke_13_3
          replace ke_13_4 := Hke_13_4.out
          clear Hke_13_4
          have HBY6 := Lib.hid (Below.step HBw_e_13.out hY6)
          replace ct_11_0__286 := cell_below hY6 ct_11_0__286
          replace ct_11_1__287 := cell_below hY6 ct_11_1__287
          replace ct_11_2__288 := cell_below hY6 ct_11_2__288
          replace ct_11_3__289 := cell_below hY6 ct_11_3__289
          replace ct_11_4__290 := cell_below hY6 ct_11_4__290
          replace ke_13_0 := cell_below hY6 ke_13_0
          replace ke_13_1 := cell_below hY6 ke_13_1
          replace ke_13_2 := cell_below hY6 ke_13_2
          replace ke_13_3 := cell_below hY6 ke_13_3
          replace ke_13_4 := cell_below hY6 ke_13_4
          clear hY6
          replace H := ite_t H
          obtain rfl := ret_hid H
          go_wp2_with fail
          go_ret
          exact ⟨rfl, HBY6.out⟩
        | true =>
          replace H := let_hid H
          obtain ⟨t_19, ht_19, H⟩ := H
          obtain rfl : t_19 = false := ht_19.symm
          replace H := join_hid H
          replace H := ite_f H
          replace H := let_hid H
          obtain ⟨t_22, ht_22, H⟩ := H
          replace H := join_hid H
          cases t_22 with
          | false =>
            have nht_22 : ¬ (0 < k0) := by have := of_decide_eq_false ht_22; omega
            replace H := ite_f H
            replace H := app_hid H
            replace H := app_hid H
            refine wp_region_quiet_below (by kernel_rfl) (by kernel_rfl) ?_
            repeat (go_big_quiet_step (first | (go_at_call 80; exact nt_18 _ _)))
            refine wpQuiet_nil ?_
            intro Y6 hY6
            replace hY6 := below_class hY6
            clear nt_18
            replace ct_11_0__286 := Hct_11_0__286.out
            clear Hct_11_0__286
            replace ct_11_1__287 := Hct_11_1__287.out
            clear Hct_11_1__287
            replace ct_11_2__288 := Hct_11_2__288.out
            clear Hct_11_2__288
            replace ct_11_3__289 := Hct_11_3__289.out
            clear Hct_11_3__289
            replace ct_11_4__290 := Hct_11_4__290.out
            clear Hct_11_4__290
            replace ke_13_0 := Hke_13_0.out
            clear Hke_13_0
            replace ke_13_1 := Hke_13_1.out
            clear Hke_13_1
            replace ke_13_2 := Hke_13_2.out
            clear Hke_13_2
            replace ke_13_3 := Hke_13_3.out
            clear Hke_13_3
            replace ke_13_4 := Hke_13_4.out
            clear Hke_13_4
            have HBY6 := Lib.hid (Below.step HBw_e_13.out hY6)
            replace ct_11_0__286 := cell_below hY6 ct_11_0__286
            replace ct_11_1__287 := cell_below hY6 ct_11_1__287
            replace ct_11_2__288 := cell_below hY6 ct_11_2__288
            replace ct_11_3__289 := cell_below hY6 ct_11_3__289
            replace ct_11_4__290 := cell_below hY6 ct_11_4__290
            replace ke_13_0 := cell_below hY6 ke_13_0
            replace ke_13_1 := cell_below hY6 ke_13_1
            replace ke_13_2 := cell_below hY6 ke_13_2
            replace ke_13_3 := cell_below hY6 ke_13_3
            replace ke_13_4 := cell_below hY6 ke_13_4
            clear hY6
            replace H := ite_f H
            replace H := app_hid H
            go_wp2_with fail
            go_roundg m0
            case measure => omega
            case rel => exact ⟨k0 + 1, by omega, by go_num, H, HBY6⟩
          | true =>
            have nht_22 : 0 < k0 := by have := of_decide_eq_true ht_22; omega
            replace H := ite_t H
            replace H := bind_hid H
            obtain ⟨t_26, qt_26, H⟩ := H
            have nt_26 : ∀ d os, Calls Try.prog 81 #[.agg #[.int .i64 t_11_id, .int .i64 t_11_thick, .int .i64 t_11_tint, .string t_11_mark, .bool t_11_laid]] (Go.Sort.grow (redrawn w_e_13 d) os) fun e w'' => e = .returned (.int .i64 t_26) ∧ ∃ p : Regrown, w'' = Go.Sort.grow (redrawn w_e_13 p.d) p.os := fun d os => Calls.regrown_of (Go.Proofs.Ytdgbigkcophjoaa.GiIdOfPaper.C ((Go.Proofs.Ytdgbigkcophjoaa.PPaper.Paper.mk t_11_id t_11_thick t_11_tint t_11_mark t_11_laid))  _    qt_26)
            replace H := let_hid H
            obtain ⟨t_30, ht_30, H⟩ := H
            replace H := idx_hid H
            obtain ⟨nt_31, yt_31, et_31, lt_31, gt_31, H⟩ := H
            subst et_31
            obtain ⟨t_31_id, t_31_thick, t_31_tint, t_31_mark, t_31_laid⟩ := yt_31
            replace H := unPaper_hid H
            obtain ⟨ab_t_31, ao_t_31, zt_31, At_31, z_t_31, ct_31_0, ct_31_1, ct_31_2, ct_31_3, ct_31_4⟩ := Go.Proofs.Ytdgbigkcophjoaa.OPaper.at_ M0.out lt_31
            obtain rfl := Option.some.inj (gt_31.out.symm.trans z_t_31)
            simp only [Option.some.injEq, Addr.mk.injEq] at At_31
            obtain ⟨rfl, rfl, _⟩ := At_31
            have ltt_31 := cell_lt ct_31_0
            replace ct_31_0 := cell_below HBw_e_13.out ct_31_0
            replace ct_31_1 := cell_below HBw_e_13.out ct_31_1
            replace ct_31_2 := cell_below HBw_e_13.out ct_31_2
            replace ct_31_3 := cell_below HBw_e_13.out ct_31_3
            replace ct_31_4 := cell_below HBw_e_13.out ct_31_4
            clear z_t_31
            have b0t_31 : (0 : Int) ≤ (nt_31 : Int) := by omega
            have b1t_31 : (nt_31 : Int) < ((list.length : Nat) : Int) := by omega
            have b2t_31 : ((nt_31 : Int)).toNat = nt_31 := by omega
            have Hct_31_0 := Lib.hid ct_31_0
            replace ct_31_0 := cell_regrown ct_31_0
            have Hct_31_1 := Lib.hid ct_31_1
            replace ct_31_1 := cell_regrown ct_31_1
            have Hct_31_2 := Lib.hid ct_31_2
            replace ct_31_2 := cell_regrown ct_31_2
            have Hct_31_3 := Lib.hid ct_31_3
            replace ct_31_3 := cell_regrown ct_31_3
            have Hct_31_4 := Lib.hid ct_31_4
            replace ct_31_4 := cell_regrown ct_31_4
            replace H := bind_hid H
            obtain ⟨t_33, qt_33, H⟩ := H
            have nt_33 : ∀ d os, Calls Try.prog 81 #[.agg #[.int .i64 t_31_id, .int .i64 t_31_thick, .int .i64 t_31_tint, .string t_31_mark, .bool t_31_laid]] (Go.Sort.grow (redrawn w_e_13 d) os) fun e w'' => e = .returned (.int .i64 t_33) ∧ ∃ p : Regrown, w'' = Go.Sort.grow (redrawn w_e_13 p.d) p.os := fun d os => Calls.regrown_of (Go.Proofs.Ytdgbigkcophjoaa.GiIdOfPaper.C ((Go.Proofs.Ytdgbigkcophjoaa.PPaper.Paper.mk t_31_id t_31_thick t_31_tint t_31_mark t_31_laid))  _    qt_33)
            replace H := let_hid H
            obtain ⟨t_34, ht_34, H⟩ := H
            replace H := app_hid H
            replace H := app_hid H
            refine wp_region_quiet_below (by kernel_rfl) (by kernel_rfl) ?_
            repeat (go_big_quiet_step (first | (go_at_call 81; with_reducible exact nt_26 _ _) | (go_at_call 81; with_reducible exact nt_33 _ _) | (go_at_call 80; exact nt_18 _ _) | (go_at_call 81; exact nt_26 _ _) | (go_at_call 81; exact nt_33 _ _)))
            refine wpQuiet_nil ?_
            intro Y6 hY6
            replace hY6 := below_class hY6
            clear nt_18 nt_26 nt_33
            replace ct_11_0__286 := Hct_11_0__286.out
            clear Hct_11_0__286
            replace ct_11_1__287 := Hct_11_1__287.out
            clear Hct_11_1__287
            replace ct_11_2__288 := Hct_11_2__288.out
            clear Hct_11_2__288
            replace ct_11_3__289 := Hct_11_3__289.out
            clear Hct_11_3__289
            replace ct_11_4__290 := Hct_11_4__290.out
            clear Hct_11_4__290
            replace ke_13_0 := Hke_13_0.out
            clear Hke_13_0
            replace ke_13_1 := Hke_13_1.out
            clear Hke_13_1
            replace ke_13_2 := Hke_13_2.out
            clear Hke_13_2
            replace ke_13_3 := Hke_13_3.out
            clear Hke_13_3
            replace ke_13_4 := Hke_13_4.out
            clear Hke_13_4
            replace ct_31_0 := Hct_31_0.out
            clear Hct_31_0
            replace ct_31_1 := Hct_31_1.out
            clear Hct_31_1
            replace ct_31_2 := Hct_31_2.out
            clear Hct_31_2
            replace ct_31_3 := Hct_31_3.out
            clear Hct_31_3
            replace ct_31_4 := Hct_31_4.out
            clear Hct_31_4
            have HBY6 := Lib.hid (Below.step HBw_e_13.out hY6)
            replace ct_11_0__286 := cell_below hY6 ct_11_0__286
            replace ct_11_1__287 := cell_below hY6 ct_11_1__287
            replace ct_11_2__288 := cell_below hY6 ct_11_2__288
            replace ct_11_3__289 := cell_below hY6 ct_11_3__289
            replace ct_11_4__290 := cell_below hY6 ct_11_4__290
            replace ke_13_0 := cell_below hY6 ke_13_0
            replace ke_13_1 := cell_below hY6 ke_13_1
            replace ke_13_2 := cell_below hY6 ke_13_2
            replace ke_13_3 := cell_below hY6 ke_13_3
            replace ke_13_4 := cell_below hY6 ke_13_4
            replace ct_31_0 := cell_below hY6 ct_31_0
            replace ct_31_1 := cell_below hY6 ct_31_1
            replace ct_31_2 := cell_below hY6 ct_31_2
            replace ct_31_3 := cell_below hY6 ct_31_3
            replace ct_31_4 := cell_below hY6 ct_31_4
            clear hY6
            cases t_34 with
            | false =>
              replace H := ite_f H
              replace H := app_hid H
              go_wp2_with fail
              go_roundg m0
              case measure => omega
              case rel => exact ⟨k0 + 1, by omega, by go_num, H, HBY6⟩
            | true =>
              replace H := ite_t H
              obtain rfl := ret_hid H
              go_wp2_with fail
              go_ret
              exact ⟨rfl, HBY6.out⟩
  | true =>
    replace H := ite_t H
    obtain rfl := ret_hid H
    go_wp2_with fail
    go_ret
    exact ⟨rfl, HB.out⟩
end Go.Proofs.Ytdgbigkcophjoaa.GiAreByKeyPaperIntiIsPaperiIdOfPaper

/- loop.example/g01062/impl.ArePapers as a plain function, and the contract of the program's: where the plain one has an answer, the program has it. Conditions: slices read as lists. -/
namespace Go.Proofs.Ytdgbigkcophjoaa.GiArePapers
set_option linter.unusedVariables false
set_option linter.unusedSimpArgs false
open Go.RowKit
open Go.Proofs.Ytdgbigkcophjoaa.Rowed Go.Proofs.Ytdgbigkcophjoaa.Turn Go.Proofs.Ytdgbigkcophjoaa.Aid Go.Proofs.Ytdgbigkcophjoaa.GoP Go.Proofs.Ytdgbigkcophjoaa.GoM

def P (list : (List Go.Proofs.Ytdgbigkcophjoaa.PPaper.Paper)) : Option (Bool) :=
  Option.bind (Go.Proofs.Ytdgbigkcophjoaa.GiAreByKeyPaperIntiIsPaperiIdOfPaper.P list 10) fun (t_2 : Bool) =>
  some t_2

set_option maxRecDepth 100000 in
set_option maxHeartbeats 2000000 in
theorem C (list : (List Go.Proofs.Ytdgbigkcophjoaa.PPaper.Paper)) (A0 : Option Addr) (c0 : Nat)  (w : World) (M0 : Hid (Cells w 5 A0 list.length (Go.Proofs.Ytdgbigkcophjoaa.PPaper.flat list))) (N0 : Hid (list.length ≤ 9223372036854775807))  {r : Bool} (H : Hid (P list = some r)) :
    Calls Try.prog 37 #[.slice A0 list.length c0] w (Gives (.bool r) w) := by
  have HB := Lib.hid (Below.refl w.heap.size w)
  unfold P at H
  have N0o := N0.out
  go_enter Try.func37, Try.ntmps37
  replace H := bind_hid H
  obtain ⟨t_2, qt_2, H⟩ := H
  go_wp2_with fail
  go_at_call 79
  refine (Go.Proofs.Ytdgbigkcophjoaa.GiAreByKeyPaperIntiIsPaperiIdOfPaper.C (list) (10) A0 c0 _   (Lib.hid (Cells.below M0.out HB.out)) N0 qt_2).mono ?_
  rintro e_t_2 wt_2 ⟨rfl, bt_2⟩
  have HBwt_2 := Lib.hid (Below.step HB.out bt_2)
  clear bt_2
  obtain rfl := ret_hid H
  go_wp2_with fail
  go_ret
  exact ⟨rfl, HBwt_2.out⟩
end Go.Proofs.Ytdgbigkcophjoaa.GiArePapers

/- loop.example/g01062/impl.PapersWith$1 as a plain function, and the contract of the program's: where the plain one has an answer, the program has it. Conditions: slices read as lists. -/
namespace Go.Proofs.Ytdgbigkcophjoaa.GiPapersWith1
set_option linter.unusedVariables false
set_option linter.unusedSimpArgs false
open Go.RowKit
open Go.Proofs.Ytdgbigkcophjoaa.Rowed Go.Proofs.Ytdgbigkcophjoaa.Turn Go.Proofs.Ytdgbigkcophjoaa.Aid Go.Proofs.Ytdgbigkcophjoaa.GoP Go.Proofs.Ytdgbigkcophjoaa.GoM

def P (p : Go.Proofs.Ytdgbigkcophjoaa.PPaper.Paper) (hq0 : ByteArray) : Option (Bool) :=
  unPaper p fun (p_id : Int) (p_thick : Int) (p_tint : Int) (p_mark : ByteArray) (p_laid : Bool) =>
  letK (p_mark.toList == hq0.toList) fun (t_5 : Bool) =>
  some t_5

set_option maxRecDepth 100000 in
set_option maxHeartbeats 2000000 in
theorem C (p : Go.Proofs.Ytdgbigkcophjoaa.PPaper.Paper) (hq0 : ByteArray)  (gq0 : Nat) (w : World)  (Fq0h : Hid (w.cell? ⟨gq0, 0, none⟩ = some (.string hq0))) {r : Bool} (H : Hid (P p hq0 = some r)) :
    Calls Try.prog 89 #[p.val, .pointer (some ⟨gq0, 0, none⟩)] w (Gives (.bool r) w) := by
  have HB := Lib.hid (Below.refl w.heap.size w)
  unfold P at H
  obtain ⟨p_id, p_thick, p_tint, p_mark, p_laid⟩ := p
  replace H := unPaper_hid H
  unfold Go.Proofs.Ytdgbigkcophjoaa.PPaper.Paper.val
  have Fq0 := Fq0h.out
  go_enter Try.func89, Try.ntmps89
  obtain ⟨w_p_0, hw_p_0⟩ : ∃ x, w.alloc (.cells #[.int .i64 p_id, .int .i64 p_thick, .int .i64 p_tint, .string p_mark, .bool p_laid] 90) = x := ⟨_, rfl⟩
  have bw_p_0 : Below w.heap.size w w_p_0 := by rw [← hw_p_0]; exact (Below.refl _ _).alloc (Nat.le_refl _) _
  have HBw_p_0 := Lib.hid (Below.step HB.out bw_p_0)
  have Fq0__363 := cell_below bw_p_0 Fq0
  clear bw_p_0
  have kp_0_0 : w_p_0.cell? ⟨w.heap.size, 0, none⟩ = some (.int .i64 p_id) := by rw [← hw_p_0]; exact box_new _ _ _ 0 _ rfl
  have kp_0_1 : w_p_0.cell? ⟨w.heap.size, 1, none⟩ = some (.int .i64 p_thick) := by rw [← hw_p_0]; exact box_new _ _ _ 1 _ rfl
  have kp_0_2 : w_p_0.cell? ⟨w.heap.size, 2, none⟩ = some (.int .i64 p_tint) := by rw [← hw_p_0]; exact box_new _ _ _ 2 _ rfl
  have kp_0_3 : w_p_0.cell? ⟨w.heap.size, 3, none⟩ = some (.string p_mark) := by rw [← hw_p_0]; exact box_new _ _ _ 3 _ rfl
  have kp_0_4 : w_p_0.cell? ⟨w.heap.size, 4, none⟩ = some (.bool p_laid) := by rw [← hw_p_0]; exact box_new _ _ _ 4 _ rfl
  replace H := let_hid H
  obtain ⟨t_5, ht_5, H⟩ := H
  obtain rfl := ret_hid H
  go_wp2_with fail
  go_ret
  exact ⟨rfl, HBw_p_0.out⟩
end Go.Proofs.Ytdgbigkcophjoaa.GiPapersWith1

/- loop.example/g01062/impl.keysWhere[loop.example/g01062/impl.Paper,int] as a plain function, and the contract of the program's: where the plain one has an answer, the program has it. Conditions: slices read as lists. -/
namespace Go.Proofs.Ytdgbigkcophjoaa.GiKeysWherePaperIntiIdOfPaperiPapersWith1
set_option linter.unusedVariables false
set_option linter.unusedSimpArgs false
open Go.RowKit
open Go.Proofs.Ytdgbigkcophjoaa.Rowed Go.Proofs.Ytdgbigkcophjoaa.Turn Go.Proofs.Ytdgbigkcophjoaa.Aid Go.Proofs.Ytdgbigkcophjoaa.GoP Go.Proofs.Ytdgbigkcophjoaa.GoM

def l0 (list : (List Go.Proofs.Ytdgbigkcophjoaa.PPaper.Paper)) (hf2_0 : ByteArray) (k0 : Nat) (s : (List Int)) (nx0 bk0 : (List Int) → Option ((List Int))) : Option ((List Int)) :=
  letK s fun keys_7l0 =>
  Option.bind (idx list (k0 : Int)) fun (yt_7 : Go.Proofs.Ytdgbigkcophjoaa.PPaper.Paper) =>
  unPaper yt_7 fun (t_7_id : Int) (t_7_thick : Int) (t_7_tint : Int) (t_7_mark : ByteArray) (t_7_laid : Bool) =>
  Option.bind (Go.Proofs.Ytdgbigkcophjoaa.GiPapersWith1.P (Go.Proofs.Ytdgbigkcophjoaa.PPaper.Paper.mk t_7_id t_7_thick t_7_tint t_7_mark t_7_laid) hf2_0) fun (t_13 : Bool) =>
  iteK t_13
  (Option.bind (Go.Proofs.Ytdgbigkcophjoaa.GiIdOfPaper.P (Go.Proofs.Ytdgbigkcophjoaa.PPaper.Paper.mk t_7_id t_7_thick t_7_tint t_7_mark t_7_laid)) fun (t_17 : Int) =>
  guardK (keys_7l0.length ≤ 1099511627776) <|
  letK (keys_7l0 ++ [t_17]) fun (t_19 : (List Int)) =>
  appK nx0 (t_19))
  (appK nx0 (keys_7l0))

def e0  (s : (List Int)) : Option ((List Int)) :=
  letK s fun keys_7l0 =>
  some keys_7l0

def P (list : (List Go.Proofs.Ytdgbigkcophjoaa.PPaper.Paper)) (hf2_0 : ByteArray) : Option ((List Int)) :=
  cntK (l0 list hf2_0) (list.length) 0 (([] : List Int)) (e0 )

set_option maxRecDepth 100000 in
set_option maxHeartbeats 2000000 in
theorem C (list : (List Go.Proofs.Ytdgbigkcophjoaa.PPaper.Paper)) (hf2_0 : ByteArray) (A0 : Option Addr) (c0 : Nat) (gf2_0 : Nat) (w : World) (M0 : Hid (Cells w 5 A0 list.length (Go.Proofs.Ytdgbigkcophjoaa.PPaper.flat list))) (N0 : Hid (list.length ≤ 9223372036854775807)) (Ff2_0h : Hid (w.cell? ⟨gf2_0, 0, none⟩ = some (.string hf2_0))) {r : (List Int)} (H : Hid (P list hf2_0 = some r)) :
    Calls Try.prog 84 #[.slice A0 list.length c0, .func (.func 81) #[] #[], .func (.func 89) #[] #[.pointer (some ⟨gf2_0, 0, none⟩)]] w (fun e w' => ∃ A_r c_r, e = .returned (.slice A_r r.length c_r) ∧ w'.ownsRow w.heap.size 3 1 (.slice A_r r.length c_r) r.length (Go.Proofs.Ytdgbigkcophjoaa.HelpInt.iv r) ∧ Below w.heap.size w w') := by
  have HB := Lib.hid (Below.refl w.heap.size w)
  unfold P at H
  have N0o := N0.out
  have Ff2_0 := Ff2_0h.out
  obtain ⟨i0_3, hi_3, hz0_3, hz1_3, hz2_3⟩ := Aid.info_parts (P := Try.prog) (T := 3) (z := .int .i64 0) (s := 1) (b := 8) (by kernel_rfl)
  go_enter Try.func84, Try.ntmps84
  obtain ⟨w_t_1, hw_t_1⟩ : ∃ x, w.alloc (.cells #[] 3) = x := ⟨_, rfl⟩
  have bw_t_1 : Below w.heap.size w w_t_1 := by rw [← hw_t_1]; exact (Below.refl _ _).alloc (Nat.le_refl _) _
  have Ot_1 : Hid (w_t_1.ownsRow w.heap.size 3 1 (.slice (some ⟨w.heap.size, 0, none⟩) 0 0) 0 []) := Lib.hid (by rw [← hw_t_1]; exact own_empty HB.out.size)
  have HBw_t_1 := Lib.hid (Below.step HB.out bw_t_1)
  have Ff2_0__364 := cell_below bw_t_1 Ff2_0
  clear bw_t_1
  go_wp2_with fail
  clear Ff2_0
  go_loopg [13, 7] (list.length) (fun m_ v13_ v7_ wr => ∃ (k0 : Nat) (keys_7l0 : (List Int)) (Akeys_7l0 : Option Addr) (ckeys_7l0 : Nat), k0 + m_ = list.length ∧ v13_ = .int .i64 (k0 : Int) ∧ v7_ = .slice Akeys_7l0 keys_7l0.length ckeys_7l0 ∧ Hid (cntK (l0 list hf2_0) m_ k0 (keys_7l0) (e0 ) = some r) ∧ Hid (Below w.heap.size w wr) ∧ wr.cell? ⟨gf2_0, 0, none⟩ = some (.string hf2_0) ∧ Hid (wr.ownsRow w.heap.size 3 1 (.slice Akeys_7l0 keys_7l0.length ckeys_7l0) keys_7l0.length (Go.Proofs.Ytdgbigkcophjoaa.HelpInt.iv keys_7l0)))
  case atStart => exact ⟨0, _, _, _, by omega, rfl, rfl, H, HBw_t_1, Ff2_0__364, Ot_1⟩
  case round =>
    obtain ⟨k0, keys_7l0, Akeys_7l0, ckeys_7l0, hkm0, rfl, rfl, H, HBwr0, Ff2_0__364, Okeys_7l0⟩ := hrel
    rename World => wr0
    cases gk with
    | zero =>
      obtain rfl : k0 = list.length := by omega
      have hc0 : decide (((list.length : Nat) : Int) < ((list.length : Nat) : Int)) = false := by simp
      replace H := cnt_zero H
      unfold e0 at H
      replace H := let_hid H
      obtain ⟨_, rfl, H⟩ := H
      obtain rfl := ret_hid H
      go_wp2_with fail
      go_ret
      exact ⟨Akeys_7l0, ckeys_7l0, rfl, Okeys_7l0.out, HBwr0.out⟩
    | succ m0 =>
      have hlt0 : k0 < list.length := by omega
      have hc0 : decide ((k0 : Int) < ((list.length : Nat) : Int)) = true := by simp; omega
      replace H := cnt_succ H
      unfold l0 at H
      replace H := let_hid H
      obtain ⟨_, rfl, H⟩ := H
      replace H := idx_hid H
      obtain ⟨nt_7, yt_7, et_7, lt_7, gt_7, H⟩ := H
      obtain rfl : k0 = nt_7 := by omega
      clear et_7
      obtain ⟨t_7_id, t_7_thick, t_7_tint, t_7_mark, t_7_laid⟩ := yt_7
      replace H := unPaper_hid H
      obtain ⟨ab_t_7, ao_t_7, zt_7, At_7, z_t_7, ct_7_0, ct_7_1, ct_7_2, ct_7_3, ct_7_4⟩ := Go.Proofs.Ytdgbigkcophjoaa.OPaper.at_ M0.out lt_7
      obtain rfl := Option.some.inj (gt_7.out.symm.trans z_t_7)
      subst At_7
      have ltt_7 := cell_lt ct_7_0
      replace ct_7_0 := cell_below HBwr0.out ct_7_0
      replace ct_7_1 := cell_below HBwr0.out ct_7_1
      replace ct_7_2 := cell_below HBwr0.out ct_7_2
      replace ct_7_3 := cell_below HBwr0.out ct_7_3
      replace ct_7_4 := cell_below HBwr0.out ct_7_4
      clear z_t_7
      have b0t_7 : (0 : Int) ≤ (k0 : Int) := by omega
      have b1t_7 : (k0 : Int) < ((list.length : Nat) : Int) := by omega
      have b2t_7 : ((k0 : Int)).toNat = k0 := by omega
      obtain ⟨w_e_9, hw_e_9⟩ : ∃ x, wr0.alloc (.cells #[.int .i64 t_7_id, .int .i64 t_7_thick, .int .i64 t_7_tint, .string t_7_mark, .bool t_7_laid] 90) = x := ⟨_, rfl⟩
      have bw_e_9 : Below wr0.heap.size wr0 w_e_9 := by rw [← hw_e_9]; exact (Below.refl _ _).alloc (Nat.le_refl _) _
      have De_9_keys_7l0 := Lib.hid (apart_fresh Okeys_7l0.out)
      have HBw_e_9 := Lib.hid (Below.step HBwr0.out bw_e_9)
      have Ff2_0__365 := cell_below bw_e_9 Ff2_0__364
      have ct_7_0__366 := cell_below bw_e_9 ct_7_0
      have ct_7_1__367 := cell_below bw_e_9 ct_7_1
      have ct_7_2__368 := cell_below bw_e_9 ct_7_2
      have ct_7_3__369 := cell_below bw_e_9 ct_7_3
      have ct_7_4__370 := cell_below bw_e_9 ct_7_4
      replace Okeys_7l0 := Lib.hid (own_below Okeys_7l0.out bw_e_9)
      clear bw_e_9
      have ke_9_0 : w_e_9.cell? ⟨wr0.heap.size, 0, none⟩ = some (.int .i64 t_7_id) := by rw [← hw_e_9]; exact box_new _ _ _ 0 _ rfl
      have ke_9_1 : w_e_9.cell? ⟨wr0.heap.size, 1, none⟩ = some (.int .i64 t_7_thick) := by rw [← hw_e_9]; exact box_new _ _ _ 1 _ rfl
      have ke_9_2 : w_e_9.cell? ⟨wr0.heap.size, 2, none⟩ = some (.int .i64 t_7_tint) := by rw [← hw_e_9]; exact box_new _ _ _ 2 _ rfl
      have ke_9_3 : w_e_9.cell? ⟨wr0.heap.size, 3, none⟩ = some (.string t_7_mark) := by rw [← hw_e_9]; exact box_new _ _ _ 3 _ rfl
      have ke_9_4 : w_e_9.cell? ⟨wr0.heap.size, 4, none⟩ = some (.bool t_7_laid) := by rw [← hw_e_9]; exact box_new _ _ _ 4 _ rfl
      replace H := bind_hid H
      obtain ⟨t_13, qt_13, H⟩ := H
      go_wp2_with fail
      clear Ff2_0__364 ct_7_0 ct_7_1 ct_7_2 ct_7_3 ct_7_4
      go_at_call 89
      refine (Go.Proofs.Ytdgbigkcophjoaa.GiPapersWith1.C ((Go.Proofs.Ytdgbigkcophjoaa.PPaper.Paper.mk t_7_id t_7_thick t_7_tint t_7_mark t_7_laid)) (hf2_0) (gf2_0) _   (Lib.hid Ff2_0__365) qt_13).mono ?_
      rintro e_t_13 wt_13 ⟨rfl, bt_13⟩
      have HBwt_13 := Lib.hid (Below.step HBw_e_9.out bt_13)
      replace Ff2_0__365 := cell_below bt_13 Ff2_0__365
      replace ct_7_0__366 := cell_below bt_13 ct_7_0__366
      replace ct_7_1__367 := cell_below bt_13 ct_7_1__367
      replace ct_7_2__368 := cell_below bt_13 ct_7_2__368
      replace ct_7_3__369 := cell_below bt_13 ct_7_3__369
      replace ct_7_4__370 := cell_below bt_13 ct_7_4__370
      replace ke_9_0 := cell_below bt_13 ke_9_0
      replace ke_9_1 := cell_below bt_13 ke_9_1
      replace ke_9_2 := cell_below bt_13 ke_9_2
      replace ke_9_3 := cell_below bt_13 ke_9_3
      replace ke_9_4 := cell_below bt_13 ke_9_4
      replace Okeys_7l0 := Lib.hid (own_below Okeys_7l0.out bt_13)
      clear bt_13
      cases t_13 with
      | false =>
        replace H := ite_f H
        replace H := app_hid H
        go_wp2_with fail
        go_roundg m0
        case measure => omega
        case rel => exact ⟨k0 + 1, _, _, _, by omega, by go_num, rfl, H, HBwt_13, Ff2_0__365, Okeys_7l0⟩
      | true =>
        replace H := ite_t H
        replace H := bind_hid H
        obtain ⟨t_17, qt_17, H⟩ := H
        go_wp2_with fail
        go_at_call 81
        refine (Go.Proofs.Ytdgbigkcophjoaa.GiIdOfPaper.C ((Go.Proofs.Ytdgbigkcophjoaa.PPaper.Paper.mk t_7_id t_7_thick t_7_tint t_7_mark t_7_laid))  _    qt_17).mono ?_
        rintro e_t_17 wt_17 ⟨rfl, bt_17⟩
        have HBwt_17 := Lib.hid (Below.step HBwt_13.out bt_17)
        replace Ff2_0__365 := cell_below bt_17 Ff2_0__365
        replace ct_7_0__366 := cell_below bt_17 ct_7_0__366
        replace ct_7_1__367 := cell_below bt_17 ct_7_1__367
        replace ct_7_2__368 := cell_below bt_17 ct_7_2__368
        replace ct_7_3__369 := cell_below bt_17 ct_7_3__369
        replace ct_7_4__370 := cell_below bt_17 ct_7_4__370
        replace ke_9_0 := cell_below bt_17 ke_9_0
        replace ke_9_1 := cell_below bt_17 ke_9_1
        replace ke_9_2 := cell_below bt_17 ke_9_2
        replace ke_9_3 := cell_below bt_17 ke_9_3
        replace ke_9_4 := cell_below bt_17 ke_9_4
        replace Okeys_7l0 := Lib.hid (own_below Okeys_7l0.out bt_17)
        clear bt_17
        obtain ⟨w_t_18, hw_t_18⟩ : ∃ x, wt_17.alloc (.cells #[.int .i64 t_17] 3) = x := ⟨_, rfl⟩
        have bw_t_18 : Below wt_17.heap.size wt_17 w_t_18 := by rw [← hw_t_18]; exact (Below.refl _ _).alloc (Nat.le_refl _) _
        have HBw_t_18 := Lib.hid (Below.step HBwt_17.out bw_t_18)
        have Ff2_0__371 := cell_below bw_t_18 Ff2_0__365
        have ct_7_0__372 := cell_below bw_t_18 ct_7_0__366
        have ct_7_1__373 := cell_below bw_t_18 ct_7_1__367
        have ct_7_2__374 := cell_below bw_t_18 ct_7_2__368
        have ct_7_3__375 := cell_below bw_t_18 ct_7_3__369
        have ct_7_4__376 := cell_below bw_t_18 ct_7_4__370
        have ke_9_0__377 := cell_below bw_t_18 ke_9_0
        have ke_9_1__378 := cell_below bw_t_18 ke_9_1
        have ke_9_2__379 := cell_below bw_t_18 ke_9_2
        have ke_9_3__380 := cell_below bw_t_18 ke_9_3
        have ke_9_4__381 := cell_below bw_t_18 ke_9_4
        replace Okeys_7l0 := Lib.hid (own_below Okeys_7l0.out bw_t_18)
        clear bw_t_18
        replace H := guard_hid H
        obtain ⟨hlt_19, H⟩ := H
        replace H := let_hid H
        obtain ⟨t_19, ht_19, H⟩ := H
        have hht_19 := Lib.hid ht_19
        clear ht_19
        have hst_19 := HBw_t_18.out.size
        go_wp2_with (at_builtin; refine wpList_append_own_at _ rfl _ _ 29 rfl w.heap.size 3 i0_3 (.int .i64 0) 1 8 Try.underlying29 hi_3 hz0_3 hz1_3 hz2_3 rfl (by decide) _ _ _ rfl Okeys_7l0.out ⟨wt_17.heap.size, 0, none⟩ 1 1 [.int .i64 t_17] rfl rfl (news_new hw_t_18) (one_cells rfl) (by unfold maxLen; omega) (by omega) hst_19 ?_; intro vt_19 wt_19 ot_19 gt_19 zt_19 yt_19; clear zt_19; obtain ⟨qt_19, ct_19, rfl, pt_19⟩ := own_push hht_19.out (Go.Proofs.Ytdgbigkcophjoaa.HelpInt.iv_snoc _ _) rfl ot_19; have Pt_19 := Lib.hid pt_19; have Yt_19 := Lib.hid yt_19; have Gt_19 := Lib.hid gt_19; clear ot_19 gt_19 pt_19 yt_19; refine stop_in ?_)
        refine stop_out ?_
        have HBwt_19 := Lib.hid (HBw_t_18.out.grown Gt_19.out hst_19 (fun q hq => (Okeys_7l0.out.lt q hq).1))
        clear hst_19
        have Dt_19_e_9 : Hid (Apart (some ⟨qt_19, 0, none⟩) _) := Lib.hid (apart_app (Apart.symm De_9_keys_7l0.out) (fun a_ ha_ => by cases ha_; exact cell_lt ke_9_0__377) Yt_19.out)
        replace Ff2_0__371 := cell_below HBwt_19.out Ff2_0h.out
        replace ct_7_0__372 := cell_other ct_7_0__372 Gt_19.out (apart_old Okeys_7l0.out ltt_7)
        replace ct_7_1__373 := cell_other ct_7_1__373 Gt_19.out (apart_old Okeys_7l0.out ltt_7)
        replace ct_7_2__374 := cell_other ct_7_2__374 Gt_19.out (apart_old Okeys_7l0.out ltt_7)
        replace ct_7_3__375 := cell_other ct_7_3__375 Gt_19.out (apart_old Okeys_7l0.out ltt_7)
        replace ct_7_4__376 := cell_other ct_7_4__376 Gt_19.out (apart_old Okeys_7l0.out ltt_7)
        replace ke_9_0__377 := cell_other ke_9_0__377 Gt_19.out (Apart.symm De_9_keys_7l0.out)
        replace ke_9_1__378 := cell_other ke_9_1__378 Gt_19.out (Apart.symm De_9_keys_7l0.out)
        replace ke_9_2__379 := cell_other ke_9_2__379 Gt_19.out (Apart.symm De_9_keys_7l0.out)
        replace ke_9_3__380 := cell_other ke_9_3__380 Gt_19.out (Apart.symm De_9_keys_7l0.out)
        replace ke_9_4__381 := cell_other ke_9_4__381 Gt_19.out (Apart.symm De_9_keys_7l0.out)
        clear Ff2_0__365 ct_7_0__366 ct_7_1__367 ct_7_2__368 ct_7_3__369 ct_7_4__370 ke_9_0 ke_9_1 ke_9_2 ke_9_3 ke_9_4
        clear Okeys_7l0 Yt_19 Gt_19
        replace H := app_hid H
        go_wp2_with fail
        go_roundg m0
        case measure => omega
        case rel => exact ⟨k0 + 1, _, _, _, by omega, by go_num, rfl, H, HBwt_19, Ff2_0__371, Pt_19⟩
end Go.Proofs.Ytdgbigkcophjoaa.GiKeysWherePaperIntiIdOfPaperiPapersWith1

/- loop.example/g01062/impl.PapersWith as a plain function, and the contract of the program's: where the plain one has an answer, the program has it. Conditions: slices read as lists. -/
namespace Go.Proofs.Ytdgbigkcophjoaa.GiPapersWith
set_option linter.unusedVariables false
set_option linter.unusedSimpArgs false
open Go.RowKit
open Go.Proofs.Ytdgbigkcophjoaa.Rowed Go.Proofs.Ytdgbigkcophjoaa.Turn Go.Proofs.Ytdgbigkcophjoaa.Aid Go.Proofs.Ytdgbigkcophjoaa.GoP Go.Proofs.Ytdgbigkcophjoaa.GoM

def P (list : (List Go.Proofs.Ytdgbigkcophjoaa.PPaper.Paper)) (mark : ByteArray) : Option ((List Int) × Bool) :=
  Option.bind (Go.Proofs.Ytdgbigkcophjoaa.GiArePapers.P list) fun (t_4 : Bool) =>
  letK (!t_4) fun (t_5 : Bool) =>
  joinK (fun (t_10 : Bool) =>
  iteK t_10
  (some (([] : List Int), false))
  (Option.bind (Go.Proofs.Ytdgbigkcophjoaa.GiKeysWherePaperIntiIdOfPaperiPapersWith1.P list mark) fun (t_16 : (List Int)) =>
  some (t_16, true))) fun jt_10 => iteK t_5 (appK jt_10 true) (Option.bind (Go.Proofs.Ytdgbigkcophjoaa.GiIsMark.P mark) fun (t_8 : Bool) =>
  letK (!t_8) fun (t_9 : Bool) =>
  appK jt_10 t_9)

set_option maxRecDepth 100000 in
set_option maxHeartbeats 2000000 in
theorem C (list : (List Go.Proofs.Ytdgbigkcophjoaa.PPaper.Paper)) (mark : ByteArray) (A0 : Option Addr) (c0 : Nat)  (w : World) (M0 : Hid (Cells w 5 A0 list.length (Go.Proofs.Ytdgbigkcophjoaa.PPaper.flat list))) (N0 : Hid (list.length ≤ 9223372036854775807))  {r0 : (List Int)} {r1 : Bool} (H : Hid (P list mark = some (r0, r1))) :
    Calls Try.prog 45 #[.slice A0 list.length c0, .string mark] w (fun e w' => ∃ A_r0 c_r0, e = .returned (.tuple #[.slice A_r0 r0.length c_r0, .bool r1]) ∧ w'.ownsRow w.heap.size 3 1 (.slice A_r0 r0.length c_r0) r0.length (Go.Proofs.Ytdgbigkcophjoaa.HelpInt.iv r0) ∧ Below w.heap.size w w') := by
  have HB := Lib.hid (Below.refl w.heap.size w)
  unfold P at H
  have N0o := N0.out
  go_enter Try.func45, Try.ntmps45
  obtain ⟨w_mark_0, hw_mark_0⟩ : ∃ x, w.alloc (.cells #[.string mark] 9) = x := ⟨_, rfl⟩
  have bw_mark_0 : Below w.heap.size w w_mark_0 := by rw [← hw_mark_0]; exact (Below.refl _ _).alloc (Nat.le_refl _) _
  have HBw_mark_0 := Lib.hid (Below.step HB.out bw_mark_0)
  clear bw_mark_0
  have kmark_0_0 : w_mark_0.cell? ⟨w.heap.size, 0, none⟩ = some (.string mark) := by rw [← hw_mark_0]; exact box_new _ _ _ 0 _ rfl
  replace H := bind_hid H
  obtain ⟨t_4, qt_4, H⟩ := H
  go_wp2_with fail
  go_at_call 37
  refine (Go.Proofs.Ytdgbigkcophjoaa.GiArePapers.C (list) A0 c0 _   (Lib.hid (Cells.below M0.out HBw_mark_0.out)) N0 qt_4).mono ?_
  rintro e_t_4 wt_4 ⟨rfl, bt_4⟩
  have HBwt_4 := Lib.hid (Below.step HBw_mark_0.out bt_4)
  replace kmark_0_0 := cell_below bt_4 kmark_0_0
  clear bt_4
  cases t_4 with
  | false =>
    replace H := let_hid H
    obtain ⟨t_5, ht_5, H⟩ := H
    obtain rfl : t_5 = true := ht_5.symm
    replace H := join_hid H
    replace H := ite_t H
    replace H := app_hid H
    replace H := ite_t H
    obtain ⟨w_t_11, hw_t_11⟩ : ∃ x, wt_4.alloc (.cells #[] 3) = x := ⟨_, rfl⟩
    have bw_t_11 : Below wt_4.heap.size wt_4 w_t_11 := by rw [← hw_t_11]; exact (Below.refl _ _).alloc (Nat.le_refl _) _
    have Ot_11 : Hid (w_t_11.ownsRow w.heap.size 3 1 (.slice (some ⟨wt_4.heap.size, 0, none⟩) 0 0) 0 []) := Lib.hid (by rw [← hw_t_11]; exact own_empty HBwt_4.out.size)
    have Dt_11_mark_0 := Lib.hid (apart_box kmark_0_0)
    have HBw_t_11 := Lib.hid (Below.step HBwt_4.out bw_t_11)
    have kmark_0_0__382 := cell_below bw_t_11 kmark_0_0
    clear bw_t_11
    cases ret_hid H
    go_wp2_with fail
    go_ret2
    exact ⟨(some ⟨wt_4.heap.size, 0, none⟩), 0, rfl, Ot_11.out, HBw_t_11.out⟩
  | true =>
    replace H := let_hid H
    obtain ⟨t_5, ht_5, H⟩ := H
    obtain rfl : t_5 = false := ht_5.symm
    replace H := join_hid H
    replace H := ite_f H
    replace H := bind_hid H
    obtain ⟨t_8, qt_8, H⟩ := H
    go_wp2_with fail
    go_at_call 88
    refine (Go.Proofs.Ytdgbigkcophjoaa.GiIsMark.C (mark)  _    qt_8).mono ?_
    rintro e_t_8 wt_8 ⟨rfl, bt_8⟩
    have HBwt_8 := Lib.hid (Below.step HBwt_4.out bt_8)
    replace kmark_0_0 := cell_below bt_8 kmark_0_0
    clear bt_8
    cases t_8 with
    | false =>
      replace H := let_hid H
      obtain ⟨t_9, ht_9, H⟩ := H
      obtain rfl : t_9 = true := ht_9.symm
      replace H := app_hid H
      replace H := ite_t H
      obtain ⟨w_t_11, hw_t_11⟩ : ∃ x, wt_8.alloc (.cells #[] 3) = x := ⟨_, rfl⟩
      have bw_t_11 : Below wt_8.heap.size wt_8 w_t_11 := by rw [← hw_t_11]; exact (Below.refl _ _).alloc (Nat.le_refl _) _
      have Ot_11 : Hid (w_t_11.ownsRow w.heap.size 3 1 (.slice (some ⟨wt_8.heap.size, 0, none⟩) 0 0) 0 []) := Lib.hid (by rw [← hw_t_11]; exact own_empty HBwt_8.out.size)
      have Dt_11_mark_0 := Lib.hid (apart_box kmark_0_0)
      have HBw_t_11 := Lib.hid (Below.step HBwt_8.out bw_t_11)
      have kmark_0_0__383 := cell_below bw_t_11 kmark_0_0
      clear bw_t_11
      cases ret_hid H
      go_wp2_with fail
      go_ret2
      exact ⟨(some ⟨wt_8.heap.size, 0, none⟩), 0, rfl, Ot_11.out, HBw_t_11.out⟩
    | true =>
      replace H := let_hid H
      obtain ⟨t_9, ht_9, H⟩ := H
      obtain rfl : t_9 = false := ht_9.symm
      replace H := app_hid H
      replace H := ite_f H
      replace H := bind_hid H
      obtain ⟨t_16, qt_16, H⟩ := H
      go_wp2_with fail
      go_at_call 84
      refine (Go.Proofs.Ytdgbigkcophjoaa.GiKeysWherePaperIntiIdOfPaperiPapersWith1.C (list) (mark) A0 c0 (w.heap.size) _   (Lib.hid (Cells.below M0.out HBwt_8.out)) N0 (Lib.hid kmark_0_0) qt_16).mono ?_
      rintro e_t_16 wt_16 ⟨At_16, ct_16, rfl, ot_16, bt_16⟩
      have Dt_16_mark_0 := Lib.hid (apart_callbox ot_16 kmark_0_0)
      have Ot_16 := Lib.hid (own_lower ot_16 HBwt_8.out.size)
      clear ot_16
      have HBwt_16 := Lib.hid (Below.step HBwt_8.out bt_16)
      replace kmark_0_0 := cell_below bt_16 kmark_0_0
      clear bt_16
      cases ret_hid H
      go_wp2_with fail
      go_ret2
      exact ⟨At_16, ct_16, rfl, Ot_16.out, HBwt_16.out⟩
end Go.Proofs.Ytdgbigkcophjoaa.GiPapersWith

/- loop.example/g01062/laws.eqIntS as a plain function, and the contract of the program's: where the plain one has an answer, the program has it. Conditions: slices read as lists. -/
namespace Go.Proofs.Ytdgbigkcophjoaa.GlEqIntS
set_option linter.unusedVariables false
set_option linter.unusedSimpArgs false
open Go.RowKit
open Go.Proofs.Ytdgbigkcophjoaa.Rowed Go.Proofs.Ytdgbigkcophjoaa.Turn Go.Proofs.Ytdgbigkcophjoaa.Aid Go.Proofs.Ytdgbigkcophjoaa.GoP Go.Proofs.Ytdgbigkcophjoaa.GoM

def l0 (a : (List Int)) (b : (List Int)) (k0 : Nat) (s : Unit) (nx0 bk0 : Unit → Option (Bool)) : Option (Bool) :=
  
  Option.bind (idx a (k0 : Int)) fun (yt_14 : Int) =>
  Option.bind (idx b (k0 : Int)) fun (yt_18 : Int) =>
  letK (yt_14 != yt_18) fun (t_20 : Bool) =>
  iteK t_20
  (some false)
  (appK nx0 ())

def e0  (s : Unit) : Option (Bool) :=
  
  some true

def P (a : (List Int)) (b : (List Int)) : Option (Bool) :=
  letK ((a.length : Int) != (b.length : Int)) fun (t_5 : Bool) =>
  iteK t_5
  (some false)
  (cntK (l0 a b) (a.length) 0 () (e0 ))

set_option maxRecDepth 100000 in
set_option maxHeartbeats 2000000 in
theorem C (a : (List Int)) (b : (List Int)) (A0 : Option Addr) (c0 : Nat) (A1 : Option Addr) (c1 : Nat)  (w : World) (M0 : Hid (Cells w 1 A0 a.length (Go.Proofs.Ytdgbigkcophjoaa.HelpInt.iv a))) (N0 : Hid (a.length ≤ 9223372036854775807)) (M1 : Hid (Cells w 1 A1 b.length (Go.Proofs.Ytdgbigkcophjoaa.HelpInt.iv b))) (N1 : Hid (b.length ≤ 9223372036854775807))  {r : Bool} (H : Hid (P a b = some r)) :
    Calls Try.prog 23 #[.slice A0 a.length c0, .slice A1 b.length c1] w (Gives (.bool r) w) := by
  have HB := Lib.hid (Below.refl w.heap.size w)
  unfold P at H
  have N0o := N0.out
  have N1o := N1.out
  go_enter Try.func23, Try.ntmps23
  replace H := let_hid H
  obtain ⟨t_5, ht_5, H⟩ := H
  cases t_5 with
  | false =>
    have Hht_5 : Hid (a.length = b.length) := Lib.hid (by have := bne_eq_false_iff_eq.1 ht_5; omega)
    have nht_5 : (a.length == b.length) = true := beq_iff_eq.2 Hht_5.out
    replace H := ite_f H
    go_wp2_with fail
    go_loopg [5] (a.length) (fun m_ v5_ wr => ∃ (k0 : Nat) , k0 + m_ = a.length ∧ v5_ = .int .i64 (k0 : Int) ∧ Hid (cntK (l0 a b) m_ k0 () (e0 ) = some r) ∧ Hid (Below w.heap.size w wr))
    case atStart => exact ⟨0, by omega, rfl, H, HB⟩
    case round =>
      obtain ⟨k0, hkm0, rfl, H, HBwr0⟩ := hrel
      rename World => wr0
      cases gk with
      | zero =>
        obtain rfl : k0 = a.length := by omega
        have hc0 : decide (((a.length : Nat) : Int) < ((a.length : Nat) : Int)) = false := by simp
        replace H := cnt_zero H
        unfold e0 at H
        obtain rfl := ret_hid H
        go_wp2_with fail
        go_ret
        exact ⟨rfl, HBwr0.out⟩
      | succ m0 =>
        have hlt0 : k0 < a.length := by omega
        have hc0 : decide ((k0 : Int) < ((a.length : Nat) : Int)) = true := by simp; omega
        replace H := cnt_succ H
        unfold l0 at H
        go_wp2_with fail
        replace H := idx_hid H
        obtain ⟨nt_14, yt_14, et_14, lt_14, gt_14, H⟩ := H
        obtain rfl : k0 = nt_14 := by omega
        clear et_14
        obtain ⟨ab_t_14, ao_t_14, zt_14, At_14, z_t_14, ct_14_0⟩ := Go.Proofs.Ytdgbigkcophjoaa.HelpInt.Ints.at_ M0.out lt_14
        obtain rfl := Option.some.inj (gt_14.out.symm.trans z_t_14)
        subst At_14
        have ltt_14 := cell_lt ct_14_0
        replace ct_14_0 := cell_below HBwr0.out ct_14_0
        clear z_t_14
        have b0t_14 : (0 : Int) ≤ (k0 : Int) := by omega
        have b1t_14 : (k0 : Int) < ((a.length : Nat) : Int) := by omega
        have b2t_14 : ((k0 : Int)).toNat = k0 := by omega
        have Hct_14_0 := Lib.hid ct_14_0
        replace ct_14_0 := cell_regrown ct_14_0
        replace H := idx_hid H
        obtain ⟨nt_18, yt_18, et_18, lt_18, gt_18, H⟩ := H
        obtain rfl : k0 = nt_18 := by omega
        clear et_18
        obtain ⟨ab_t_18, ao_t_18, zt_18, At_18, z_t_18, ct_18_0⟩ := Go.Proofs.Ytdgbigkcophjoaa.HelpInt.Ints.at_ M1.out lt_18
        obtain rfl := Option.some.inj (gt_18.out.symm.trans z_t_18)
        subst At_18
        have ltt_18 := cell_lt ct_18_0
        replace ct_18_0 := cell_below HBwr0.out ct_18_0
        clear z_t_18
        have b0t_18 : (0 : Int) ≤ (k0 : Int) := by omega
        have b1t_18 : (k0 : Int) < ((b.length : Nat) : Int) := by omega
        have b2t_18 : ((k0 : Int)).toNat = k0 := by omega
        have Hct_18_0 := Lib.hid ct_18_0
        replace ct_18_0 := cell_regrown ct_18_0
        replace H := let_hid H
        obtain ⟨t_20, ht_20, H⟩ := H
        refine wp_region_quiet_below (by kernel_rfl) (by kernel_rfl) ?_
        repeat (go_big_quiet_step (fail))
        refine wpQuiet_nil ?_
        intro Y6 hY6
        replace hY6 := below_class hY6
        replace ct_14_0 := Hct_14_0.out
        clear Hct_14_0
        replace ct_18_0 := Hct_18_0.out
        clear Hct_18_0
        have HBY6 := Lib.hid (Below.step HBwr0.out hY6)
        replace ct_14_0 := cell_below hY6 ct_14_0
        replace ct_18_0 := cell_below hY6 ct_18_0
        clear hY6
        cases t_20 with
        | false =>
          replace H := ite_f H
          replace H := app_hid H
          go_wp2_with fail
          go_roundg m0
          case measure => omega
          case rel => exact ⟨k0 + 1, by omega, by go_num, H, HBY6⟩
        | true =>
          replace H := ite_t H
          obtain rfl := ret_hid H
          go_wp2_with fail
          go_ret
          exact ⟨rfl, HBY6.out⟩
  | true =>
    have nht_5 : ¬ (a.length = b.length) := by have := bne_iff_ne.1 ht_5; omega
    replace H := ite_t H
    obtain rfl := ret_hid H
    go_wp2_with fail
    go_ret
    exact ⟨rfl, HB.out⟩
end Go.Proofs.Ytdgbigkcophjoaa.GlEqIntS

/- loop.example/g01062/laws.eqPaper as a plain function, and the contract of the program's: where the plain one has an answer, the program has it. Conditions: slices read as lists. -/
namespace Go.Proofs.Ytdgbigkcophjoaa.GlEqPaper
set_option linter.unusedVariables false
set_option linter.unusedSimpArgs false
open Go.RowKit
open Go.Proofs.Ytdgbigkcophjoaa.Rowed Go.Proofs.Ytdgbigkcophjoaa.Turn Go.Proofs.Ytdgbigkcophjoaa.Aid Go.Proofs.Ytdgbigkcophjoaa.GoP Go.Proofs.Ytdgbigkcophjoaa.GoM

def P (a : Go.Proofs.Ytdgbigkcophjoaa.PPaper.Paper) (b : Go.Proofs.Ytdgbigkcophjoaa.PPaper.Paper) : Option (Bool) :=
  unPaper a fun (a_id : Int) (a_thick : Int) (a_tint : Int) (a_mark : ByteArray) (a_laid : Bool) =>
  unPaper b fun (b_id : Int) (b_thick : Int) (b_tint : Int) (b_mark : ByteArray) (b_laid : Bool) =>
  letK (a_id != b_id) fun (t_7 : Bool) =>
  iteK t_7
  (some false)
  (letK (a_thick != b_thick) fun (t_13 : Bool) =>
  iteK t_13
  (some false)
  (letK (a_tint != b_tint) fun (t_19 : Bool) =>
  iteK t_19
  (some false)
  (letK (!(a_mark.toList == b_mark.toList)) fun (t_25 : Bool) =>
  iteK t_25
  (some false)
  (letK (!(a_laid == b_laid)) fun (t_31 : Bool) =>
  iteK t_31
  (some false)
  (some true)))))

set_option maxRecDepth 100000 in
set_option maxHeartbeats 2000000 in
theorem C (a : Go.Proofs.Ytdgbigkcophjoaa.PPaper.Paper) (b : Go.Proofs.Ytdgbigkcophjoaa.PPaper.Paper)   (w : World)   {r : Bool} (H : Hid (P a b = some r)) :
    Calls Try.prog 82 #[a.val, b.val] w (Gives (.bool r) w) := by
  have HB := Lib.hid (Below.refl w.heap.size w)
  unfold P at H
  obtain ⟨a_id, a_thick, a_tint, a_mark, a_laid⟩ := a
  replace H := unPaper_hid H
  obtain ⟨b_id, b_thick, b_tint, b_mark, b_laid⟩ := b
  replace H := unPaper_hid H
  unfold Go.Proofs.Ytdgbigkcophjoaa.PPaper.Paper.val
  go_enter Try.func82, Try.ntmps82
  obtain ⟨w_a_0, hw_a_0⟩ : ∃ x, w.alloc (.cells #[.int .i64 a_id, .int .i64 a_thick, .int .i64 a_tint, .string a_mark, .bool a_laid] 90) = x := ⟨_, rfl⟩
  have bw_a_0 : Below w.heap.size w w_a_0 := by rw [← hw_a_0]; exact (Below.refl _ _).alloc (Nat.le_refl _) _
  have HBw_a_0 := Lib.hid (Below.step HB.out bw_a_0)
  clear bw_a_0
  have ka_0_0 : w_a_0.cell? ⟨w.heap.size, 0, none⟩ = some (.int .i64 a_id) := by rw [← hw_a_0]; exact box_new _ _ _ 0 _ rfl
  have ka_0_1 : w_a_0.cell? ⟨w.heap.size, 1, none⟩ = some (.int .i64 a_thick) := by rw [← hw_a_0]; exact box_new _ _ _ 1 _ rfl
  have ka_0_2 : w_a_0.cell? ⟨w.heap.size, 2, none⟩ = some (.int .i64 a_tint) := by rw [← hw_a_0]; exact box_new _ _ _ 2 _ rfl
  have ka_0_3 : w_a_0.cell? ⟨w.heap.size, 3, none⟩ = some (.string a_mark) := by rw [← hw_a_0]; exact box_new _ _ _ 3 _ rfl
  have ka_0_4 : w_a_0.cell? ⟨w.heap.size, 4, none⟩ = some (.bool a_laid) := by rw [← hw_a_0]; exact box_new _ _ _ 4 _ rfl
  obtain ⟨w_b_1, hw_b_1⟩ : ∃ x, w_a_0.alloc (.cells #[.int .i64 b_id, .int .i64 b_thick, .int .i64 b_tint, .string b_mark, .bool b_laid] 90) = x := ⟨_, rfl⟩
  have bw_b_1 : Below w_a_0.heap.size w_a_0 w_b_1 := by rw [← hw_b_1]; exact (Below.refl _ _).alloc (Nat.le_refl _) _
  have HBw_b_1 := Lib.hid (Below.step HBw_a_0.out bw_b_1)
  have ka_0_0__291 := cell_below bw_b_1 ka_0_0
  have ka_0_1__292 := cell_below bw_b_1 ka_0_1
  have ka_0_2__293 := cell_below bw_b_1 ka_0_2
  have ka_0_3__294 := cell_below bw_b_1 ka_0_3
  have ka_0_4__295 := cell_below bw_b_1 ka_0_4
  clear bw_b_1
  have kb_1_0 : w_b_1.cell? ⟨w_a_0.heap.size, 0, none⟩ = some (.int .i64 b_id) := by rw [← hw_b_1]; exact box_new _ _ _ 0 _ rfl
  have kb_1_1 : w_b_1.cell? ⟨w_a_0.heap.size, 1, none⟩ = some (.int .i64 b_thick) := by rw [← hw_b_1]; exact box_new _ _ _ 1 _ rfl
  have kb_1_2 : w_b_1.cell? ⟨w_a_0.heap.size, 2, none⟩ = some (.int .i64 b_tint) := by rw [← hw_b_1]; exact box_new _ _ _ 2 _ rfl
  have kb_1_3 : w_b_1.cell? ⟨w_a_0.heap.size, 3, none⟩ = some (.string b_mark) := by rw [← hw_b_1]; exact box_new _ _ _ 3 _ rfl
  have kb_1_4 : w_b_1.cell? ⟨w_a_0.heap.size, 4, none⟩ = some (.bool b_laid) := by rw [← hw_b_1]; exact box_new _ _ _ 4 _ rfl
  replace H := let_hid H
  obtain ⟨t_7, ht_7, H⟩ := H
  cases t_7 with
  | false =>
    replace H := ite_f H
    replace H := let_hid H
    obtain ⟨t_13, ht_13, H⟩ := H
    cases t_13 with
    | false =>
      replace H := ite_f H
      replace H := let_hid H
      obtain ⟨t_19, ht_19, H⟩ := H
      cases t_19 with
      | false =>
        replace H := ite_f H
        replace H := let_hid H
        obtain ⟨t_25, ht_25, H⟩ := H
        cases t_25 with
        | false =>
          replace H := ite_f H
          replace H := let_hid H
          obtain ⟨t_31, ht_31, H⟩ := H
          cases t_31 with
          | false =>
            replace H := ite_f H
            obtain rfl := ret_hid H
            go_wp2_with fail
            go_ret
            exact ⟨rfl, HBw_b_1.out⟩
          | true =>
            replace H := ite_t H
            obtain rfl := ret_hid H
            go_wp2_with fail
            go_ret
            exact ⟨rfl, HBw_b_1.out⟩
        | true =>
          replace H := ite_t H
          obtain rfl := ret_hid H
          go_wp2_with fail
          go_ret
          exact ⟨rfl, HBw_b_1.out⟩
      | true =>
        replace H := ite_t H
        obtain rfl := ret_hid H
        go_wp2_with fail
        go_ret
        exact ⟨rfl, HBw_b_1.out⟩
    | true =>
      replace H := ite_t H
      obtain rfl := ret_hid H
      go_wp2_with fail
      go_ret
      exact ⟨rfl, HBw_b_1.out⟩
  | true =>
    replace H := ite_t H
    obtain rfl := ret_hid H
    go_wp2_with fail
    go_ret
    exact ⟨rfl, HBw_b_1.out⟩
end Go.Proofs.Ytdgbigkcophjoaa.GlEqPaper

