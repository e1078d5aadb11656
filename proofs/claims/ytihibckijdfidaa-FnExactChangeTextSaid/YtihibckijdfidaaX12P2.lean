/- Texts on which the proofs of several laws stand, one behind the other (2 of 24). No condition of their own. -/
import Derived.Test.YtihibckijdfidaaX12P1
import Derived.Test.YtihibckijdfidaaChecked
import Derived.WalkKit
import Derived.WalkSpells
import Derived.WalkLawsBesides
import Derived.BigQuiet
import Derived.OwnWalk
import Derived.Deep.LoopGhost
import Derived.Deep.QuietTactic
import Derived.IntWalk
import Derived.Lib.QuietBelow
import Derived.Lib.SmallJoins
import Derived.Deep.Slices
import Derived.Deep.Fields
import Derived.ChangeSame
import Derived.Lib.LaidU8
set_option linter.unusedVariables false
set_option linter.unusedSimpArgs false
namespace Go.Proofs.Ytihibckijdfidaa.PCover
set_option maxRecDepth 100000

structure Cover where
  id : Int
  day : Int
  zone : Int
  grams : Int
  paid : Int
  from_ : Int
  to_ : Int
  leave : Int
  arrive : Int
def Cover.cells (s : Cover) : List Value := [.int .i64 s.id, .int .i64 s.day, .int .i64 s.zone, .int .i64 s.grams, .int .i64 s.paid, .int .i64 s.from_, .int .i64 s.to_, .int .i64 s.leave, .int .i64 s.arrive]
def Cover.val (s : Cover) : Value := .agg #[.int .i64 s.id, .int .i64 s.day, .int .i64 s.zone, .int .i64 s.grams, .int .i64 s.paid, .int .i64 s.from_, .int .i64 s.to_, .int .i64 s.leave, .int .i64 s.arrive]
/-- each field fits -/
def Cover.fits (s : Cover) : Prop := (Lit.int .i64 s.id).wf = true ∧ (Lit.int .i64 s.day).wf = true ∧ (Lit.int .i64 s.zone).wf = true ∧ (Lit.int .i64 s.grams).wf = true ∧ (Lit.int .i64 s.paid).wf = true ∧ (Lit.int .i64 s.from_).wf = true ∧ (Lit.int .i64 s.to_).wf = true ∧ (Lit.int .i64 s.leave).wf = true ∧ (Lit.int .i64 s.arrive).wf = true
def zero : Cover := ⟨0, 0, 0, 0, 0, 0, 0, 0, 0⟩
/-- the letters of its texts -/
def Cover.wt (s : Cover) : Nat := 0
def wts (l : List Cover) : Nat := (l.map Cover.wt).sum
theorem wts_snoc (l : List Cover) (s : Cover) : wts (l ++ [s]) = wts l + s.wt := by unfold wts; simp [List.sum_append]
theorem wts_succ {l : List Cover} {k : Nat} {s : Cover} (h : l[k]? = some s) : wts (l.take (k + 1)) = wts (l.take k) + s.wt := by
  have hk := List.getElem?_eq_some_iff.1 h
  rw [List.take_succ_eq_append_getElem hk.1, hk.2, wts_snoc]
theorem wts_take (l : List Cover) (k : Nat) : wts (l.take k) ≤ wts l := by
  have : wts l = wts (l.take k) + wts (l.drop k) := by
    unfold wts; rw [← List.sum_append, ← List.map_append, List.take_append_drop]
  omega
theorem wts_all (l : List Cover) : wts (l.take l.length) = wts l := by rw [List.take_of_length_le (Nat.le_refl _)]

/-- the cells of a list of records, one after the other -/
def flat (l : List Cover) : List Value := l.flatMap Cover.cells
theorem flat_nil : flat [] = [] := rfl
theorem flat_cons (s : Cover) (l : List Cover) : flat (s :: l) = s.cells ++ flat l := by simp [flat]
theorem flat_snoc (l : List Cover) (s : Cover) : flat (l ++ [s]) = flat l ++ s.cells := by simp [flat]
theorem flat_len (l : List Cover) : (flat l).length = l.length * 9 := by
  induction l with
  | nil => rfl
  | cons s l ih => rw [flat_cons, List.length_append, ih]; simp [Cover.cells]; omega
theorem flat_at : ∀ (l : List Cover) (k : Nat) (s : Cover), l[k]? = some s → ∀ j, j < 9 → (flat l)[k * 9 + j]? = s.cells[j]?
  | [], k, s, h, _, _ => by simp at h
  | r :: l, 0, s, h, j, hj => by
    obtain rfl : r = s := by simpa using h
    rw [flat_cons, List.getElem?_append_left (by simp [Cover.cells]; omega)]; simp
  | r :: l, k + 1, s, h, j, hj => by
    rw [flat_cons, List.getElem?_append_right (by simp [Cover.cells]; omega), show (k + 1) * 9 + j - r.cells.length = k * 9 + j by simp [Cover.cells]; omega]
    exact flat_at l k s (by simpa using h) j hj
end Go.Proofs.Ytihibckijdfidaa.PCover

namespace Go.Proofs.Ytihibckijdfidaa.GoP
open Go.RowKit
def unCover {ρ : Type} (s : Go.Proofs.Ytihibckijdfidaa.PCover.Cover) (f : Int → Int → Int → Int → Int → Int → Int → Int → Int → Option ρ) : Option ρ := f s.id s.day s.zone s.grams s.paid s.from_ s.to_ s.leave s.arrive
theorem unCover_hid {ρ : Type} {x0 : Int} {x1 : Int} {x2 : Int} {x3 : Int} {x4 : Int} {x5 : Int} {x6 : Int} {x7 : Int} {x8 : Int} {f : Int → Int → Int → Int → Int → Int → Int → Int → Int → Option ρ} {r : ρ} (H : Hid (unCover ⟨x0, x1, x2, x3, x4, x5, x6, x7, x8⟩ f = some r)) : Hid (f x0 x1 x2 x3 x4 x5 x6 x7 x8 = some r) := H
end Go.Proofs.Ytihibckijdfidaa.GoP

namespace Go.Proofs.Ytihibckijdfidaa.PRate
set_option maxRecDepth 100000

structure Rate where
  zone : Int
  grams : Int
  from_ : Int
  until_ : Int
  cents : Int
def Rate.cells (s : Rate) : List Value := [.int .i64 s.zone, .int .i64 s.grams, .int .i64 s.from_, .int .i64 s.until_, .int .i64 s.cents]
def Rate.val (s : Rate) : Value := .agg #[.int .i64 s.zone, .int .i64 s.grams, .int .i64 s.from_, .int .i64 s.until_, .int .i64 s.cents]
/-- each field fits -/
def Rate.fits (s : Rate) : Prop := (Lit.int .i64 s.zone).wf = true ∧ (Lit.int .i64 s.grams).wf = true ∧ (Lit.int .i64 s.from_).wf = true ∧ (Lit.int .i64 s.until_).wf = true ∧ (Lit.int .i64 s.cents).wf = true
def zero : Rate := ⟨0, 0, 0, 0, 0⟩
/-- the letters of its texts -/
def Rate.wt (s : Rate) : Nat := 0
def wts (l : List Rate) : Nat := (l.map Rate.wt).sum
theorem wts_snoc (l : List Rate) (s : Rate) : wts (l ++ [s]) = wts l + s.wt := by unfold wts; simp [List.sum_append]
theorem wts_succ {l : List Rate} {k : Nat} {s : Rate} (h : l[k]? = some s) : wts (l.take (k + 1)) = wts (l.take k) + s.wt := by
  have hk := List.getElem?_eq_some_iff.1 h
  rw [List.take_succ_eq_append_getElem hk.1, hk.2, wts_snoc]
theorem wts_take (l : List Rate) (k : Nat) : wts (l.take k) ≤ wts l := by
  have : wts l = wts (l.take k) + wts (l.drop k) := by
    unfold wts; rw [← List.sum_append, ← List.map_append, List.take_append_drop]
  omega
theorem wts_all (l : List Rate) : wts (l.take l.length) = wts l := by rw [List.take_of_length_le (Nat.le_refl _)]

/-- the cells of a list of records, one after the other -/
def flat (l : List Rate) : List Value := l.flatMap Rate.cells
theorem flat_nil : flat [] = [] := rfl
theorem flat_cons (s : Rate) (l : List Rate) : flat (s :: l) = s.cells ++ flat l := by simp [flat]
theorem flat_snoc (l : List Rate) (s : Rate) : flat (l ++ [s]) = flat l ++ s.cells := by simp [flat]
theorem flat_len (l : List Rate) : (flat l).length = l.length * 5 := by
  induction l with
  | nil => rfl
  | cons s l ih => rw [flat_cons, List.length_append, ih]; simp [Rate.cells]; omega
theorem flat_at : ∀ (l : List Rate) (k : Nat) (s : Rate), l[k]? = some s → ∀ j, j < 5 → (flat l)[k * 5 + j]? = s.cells[j]?
  | [], k, s, h, _, _ => by simp at h
  | r :: l, 0, s, h, j, hj => by
    obtain rfl : r = s := by simpa using h
    rw [flat_cons, List.getElem?_append_left (by simp [Rate.cells]; omega)]; simp
  | r :: l, k + 1, s, h, j, hj => by
    rw [flat_cons, List.getElem?_append_right (by simp [Rate.cells]; omega), show (k + 1) * 5 + j - r.cells.length = k * 5 + j by simp [Rate.cells]; omega]
    exact flat_at l k s (by simpa using h) j hj
end Go.Proofs.Ytihibckijdfidaa.PRate

namespace Go.Proofs.Ytihibckijdfidaa.GoP
open Go.RowKit
def unRate {ρ : Type} (s : Go.Proofs.Ytihibckijdfidaa.PRate.Rate) (f : Int → Int → Int → Int → Int → Option ρ) : Option ρ := f s.zone s.grams s.from_ s.until_ s.cents
theorem unRate_hid {ρ : Type} {x0 : Int} {x1 : Int} {x2 : Int} {x3 : Int} {x4 : Int} {f : Int → Int → Int → Int → Int → Option ρ} {r : ρ} (H : Hid (unRate ⟨x0, x1, x2, x3, x4⟩ f = some r)) : Hid (f x0 x1 x2 x3 x4 = some r) := H
end Go.Proofs.Ytihibckijdfidaa.GoP

namespace Go.Proofs.Ytihibckijdfidaa.GlSzRateS
open Go.RowKit
open Go.Proofs.Ytihibckijdfidaa.Rowed Go.Proofs.Ytihibckijdfidaa.Turn Go.Proofs.Ytihibckijdfidaa.Aid Go.Proofs.Ytihibckijdfidaa.GoP Go.Proofs.Ytihibckijdfidaa.GoM

def P (a : (List PRate.Rate)) (left : Int) : Option (Int) :=
 letK (IntKind.i64.wrap (left - (a.length : Int))) fun (t_4 : Int) =>
 letK (decide (t_4 < 0)) fun (t_7 : Bool) =>
 iteK t_7
 (some (-1))
 (some t_4)

set_option maxRecDepth 100000 in
set_option maxHeartbeats 2000000 in
theorem C (a : (List PRate.Rate)) (left : Int) (A0 : Option Addr) (c0 : Nat)  (w : World) (M0 : Hid (Cells w 5 A0 a.length (PRate.flat a))) (N0 : Hid (a.length ≤ 9223372036854775807))  {r : Int} (H : Hid (P a left = some r)) :
  Calls Try.prog 15 #[.slice A0 a.length c0, .int .i64 left] w (Gives (.int .i64 r) w) := by
 have HB := Lib.hid (Below.refl w.heap.size w); unfold P at H; have N0o := N0.out
 go_enter Try.func15, Try.ntmps15
 replace H := let_hid H; obtain ⟨t_4, ht_4, H⟩ := H; replace H := let_hid H; obtain ⟨t_7, ht_7, H⟩ := H
 cases t_7 with
 | false =>
  replace H := ite_f H; obtain rfl := ret_hid H; go_wp2_with fail; go_ret; exact ⟨rfl, HB.out⟩
 | true =>
  replace H := ite_t H; obtain rfl := ret_hid H; go_wp2_with fail; go_ret; exact ⟨rfl, HB.out⟩

set_option maxRecDepth 100000 in
set_option maxHeartbeats 2000000 in
theorem C0 (a : (List PRate.Rate)) (left : Int) (A0 : Option Addr) (c0 : Nat)  (w : World) (M0 : Hid (Cells w 5 A0 a.length (PRate.flat a))) (N0 : Hid (a.length ≤ 9223372036854775807))  {r : Int} (H : Hid (P a left = some r)) :
  Calls Try.prog 15 #[.slice A0 a.length c0, .int .i64 left] w (fun e w'' => e = .returned (.int .i64 r) ∧ w'' = w) := by
 have HB := Lib.hid (Below.refl w.heap.size w); unfold P at H; have N0o := N0.out
 go_enter Try.func15, Try.ntmps15
 replace H := let_hid H; obtain ⟨t_4, ht_4, H⟩ := H; replace H := let_hid H; obtain ⟨t_7, ht_7, H⟩ := H
 cases t_7 with
 | false =>
  replace H := ite_f H; obtain rfl := ret_hid H; go_wp2_with fail; go_ret; exact ⟨rfl, rfl⟩
 | true =>
  replace H := ite_t H; obtain rfl := ret_hid H; go_wp2_with fail; go_ret; exact ⟨rfl, rfl⟩
end Go.Proofs.Ytihibckijdfidaa.GlSzRateS

namespace Go.Proofs.Ytihibckijdfidaa.OpenAny
open Go.Joins Go.ChangeShapes Go.WideShapes Go.RowKit Go.Deep

theorem add_none (b o n : Nat) : (⟨b, o, none⟩ : Addr).add n = ⟨b, o + n, none⟩ := by
  unfold Addr.add; split
  · rename_i h; subst h; rfl
  · rfl
section
variable {H : Type} {enc : TypeId × Value → H} {P : Program} {w : World} {base : Nat} {spare : Nat → Bool} {held : Bool}
/-- each field reads on its own -/
theorem read_fields {t : TypeId} {fs : Array Field} {fuel : Nat} {cs : List Value} {x : DataW H × List MemPlace} (hs : P.underlying t = some (.struct fs)) (hone : oneCellFields P fs = true) (hC : P.cellsOf t = fs.size)
    (h : DataW.trod enc P w base spare held fuel t cs = some x) :
    cs.length = P.cellsOf t ∧ ∀ (j : Nat) (f : Field), fs[j]? = some f → ∃ (u : Value) (n : Nat) (y : DataW H × List MemPlace), cs[j]? = some u ∧ DataW.trod enc P w base spare held n f.type [u] = some y := by
  obtain ⟨xs, n, _, _, hlen, hxl, hg⟩ := DataW.trod_struct hs h
  refine ⟨hlen, fun j f hj => ?_⟩
  obtain ⟨ho, hk⟩ := hone_of hone j f hj
  have hjl : j < fs.size := (Array.getElem?_eq_some_iff.1 hj).1
  have h1 := hg j f hj
  rw [ho, hk, List.getElem?_eq_getElem (by omega : j < xs.length)] at h1
  have hc : j < cs.length := by omega
  rw [List.drop_eq_getElem_cons hc] at h1
  exact ⟨cs[j], n, _, List.getElem?_eq_getElem hc, h1⟩
/-- an aggregate that comes in reads as its cells do -/
theorem agg_any {r : Reach} {b0 : Nat} {t : TypeId} {fs : Array Field} {v : Value} {d : DataW H} {p : List MemPlace} (hs : P.underlying t = some (.struct fs)) (hv : Value.okWide P w r b0 t v) (h : DataW.Trod enc P w base spare held t v d p) :
    ∃ (cs : Array Value) (n : Nat) (x : DataW H × List MemPlace), v = .agg cs ∧ DataW.trod enc P w base spare held n t cs.toList = some x := by
  obtain ⟨cs, rfl, _⟩ := okWide_struct hs hv
  obtain ⟨fuel, hf⟩ := h
  exact ⟨cs, fuel, _, rfl, hf⟩
end
/-- a list by its members -/
theorem list_of {α : Type} (p : Nat → α → Prop) : ∀ (n : Nat), (∀ k, k < n → ∃ a, p k a) → ∃ l : List α, l.length = n ∧ ∀ k a, l[k]? = some a → p k a
  | 0, _ => ⟨[], rfl, fun k a h => by simp at h⟩
  | n + 1, h => by
    obtain ⟨l, hl, hp⟩ := list_of p n (fun k hk => h k (by omega))
    obtain ⟨a, ha⟩ := h n (by omega)
    refine ⟨l ++ [a], by simp [hl], fun k b hb => ?_⟩
    by_cases hk : k < n
    · rw [List.getElem?_append_left (by omega)] at hb; exact hp k b hb
    · have hk' : k < (l ++ [a]).length := (List.getElem?_eq_some_iff.1 hb).1
      simp [hl] at hk'
      obtain rfl : k = n := by omega
      rw [List.getElem?_append_right (by omega), hl, Nat.sub_self] at hb
      obtain rfl : a = b := by simpa using hb
      exact ha
end Go.Proofs.Ytihibckijdfidaa.OpenAny

namespace Go.Proofs.Ytihibckijdfidaa.ORate
set_option maxRecDepth 100000
open Go.Joins Go.ChangeShapes Go.WideShapes Go.RowKit Go.Deep
open Go.Proofs.Ytihibckijdfidaa.Rowed Go.Proofs.Ytihibckijdfidaa.OpenAny Go.Proofs.Ytihibckijdfidaa.PRate

/-- the slice 'A, n' reads as the records l -/
abbrev Rates (w : World) (A : Option Addr) (n : Nat) (l : List Rate) : Prop := Cells w 5 A n (flat l)
theorem at_ {w : World} {A : Option Addr} {n k : Nat} {l : List Rate} (h : Rates w A n l) (hk : k < n) :
    ∃ (b o : Nat) (s : Rate), A = some ⟨b, o, none⟩ ∧ l[k]? = some s ∧ w.cell? ⟨b, o + k * 5, none⟩ = some (.int .i64 s.zone) ∧ w.cell? ⟨b, o + k * 5 + 1, none⟩ = some (.int .i64 s.grams) ∧ w.cell? ⟨b, o + k * 5 + 2, none⟩ = some (.int .i64 s.from_) ∧ w.cell? ⟨b, o + k * 5 + 3, none⟩ = some (.int .i64 s.until_) ∧ w.cell? ⟨b, o + k * 5 + 4, none⟩ = some (.int .i64 s.cents) := by
  have hl : k < l.length := by have := h.1; rw [flat_len] at this; omega
  obtain ⟨⟨b, o, sp⟩, e, hc⟩ := h.2 (by rw [flat_len]; omega)
  have h0 := hc 0 _ (flat_at l 0 l[0] (List.getElem?_eq_getElem (by omega)) 0 (by omega))
  obtain rfl : sp = none := cell_spot (b := b) (o := o) h0
  have hs := List.getElem?_eq_getElem hl
  have f := flat_at l k _ hs
  have g := fun j u hu => add_none b o j ▸ hc j u hu
  exact ⟨b, o, l[k], e, hs, g _ _ (f 0 (by omega)), g _ _ (f 1 (by omega)), g _ _ (f 2 (by omega)), g _ _ (f 3 (by omega)), g _ _ (f 4 (by omega))⟩
theorem len_of {w : World} {A : Option Addr} {n : Nat} {l : List Rate} (h : Rates w A n l) : l.length = n := by
  have := h.1
  rw [flat_len] at this; omega

/-- a slice of records that came in: the list that it reads as -/
structure Came (w : World) (A : Option Addr) (len cap : Nat) (l : List Rate) : Prop where
  cells : Rates w A len l
  small : len ≤ maxLen
  fits : ∀ s ∈ l, s.fits
theorem Came.len {w : World} {A : Option Addr} {len cap : Nat} {l : List Rate} (h : Came w A len cap l) : l.length = len := len_of h.cells

section
variable {H : Type} {enc : TypeId × Value → H} {w : World} {base : Nat} {spare : Nat → Bool} {held : Bool}
theorem read_one {n : Nat} {cs : List Value} {x : DataW H × List MemPlace} (h : DataW.trod enc Try.prog w base spare held n 122 cs = some x) : ∃ s : Rate, cs = s.cells ∧ s.fits := by
  have hc : Try.prog.cellsOf 122 = 5 := by kernel_rfl
  obtain ⟨hl, hf⟩ := read_fields Try.underlying122 (by kernel_rfl) hc h
  rw [hc] at hl
  match cs, hl with
  | [v0, v1, v2, v3, v4], _ =>
    obtain ⟨u0, n0, y0, eu0, t0⟩ := hf 0 _ rfl
    obtain ⟨x0, e0, _, f0⟩ := DataW.trod_int Try.underlying3 t0
    obtain rfl : v0 = u0 := by simpa using eu0
    obtain rfl : v0 = .int .i64 x0 := by simpa using e0
    obtain ⟨u1, n1, y1, eu1, t1⟩ := hf 1 _ rfl
    obtain ⟨x1, e1, _, f1⟩ := DataW.trod_int Try.underlying3 t1
    obtain rfl : v1 = u1 := by simpa using eu1
    obtain rfl : v1 = .int .i64 x1 := by simpa using e1
    obtain ⟨u2, n2, y2, eu2, t2⟩ := hf 2 _ rfl
    obtain ⟨x2, e2, _, f2⟩ := DataW.trod_int Try.underlying3 t2
    obtain rfl : v2 = u2 := by simpa using eu2
    obtain rfl : v2 = .int .i64 x2 := by simpa using e2
    obtain ⟨u3, n3, y3, eu3, t3⟩ := hf 3 _ rfl
    obtain ⟨x3, e3, _, f3⟩ := DataW.trod_int Try.underlying3 t3
    obtain rfl : v3 = u3 := by simpa using eu3
    obtain rfl : v3 = .int .i64 x3 := by simpa using e3
    obtain ⟨u4, n4, y4, eu4, t4⟩ := hf 4 _ rfl
    obtain ⟨x4, e4, _, f4⟩ := DataW.trod_int Try.underlying3 t4
    obtain rfl : v4 = u4 := by simpa using eu4
    obtain rfl : v4 = .int .i64 x4 := by simpa using e4
    exact ⟨⟨x0, x1, x2, x3, x4⟩, rfl, f0, f1, f2, f3, f4⟩
theorem open_one {r : Reach} {b0 : Nat} {v : Value} {d : DataW H} {p : List MemPlace} (hv : Value.okWide Try.prog w r b0 122 v) (h : DataW.Trod enc Try.prog w base spare held 122 v d p) :
    ∃ s : Rate, v = s.val ∧ s.fits := by
  obtain ⟨cs, n, x, rfl, ht⟩ := agg_any Try.underlying122 hv h
  obtain ⟨s, e, hs⟩ := read_one ht
  refine ⟨s, ?_, hs⟩
  obtain ⟨l⟩ := cs
  obtain rfl : l = s.cells := by simpa using e
  rfl
end
theorem open_field {H : Type} {enc : TypeId × Value → H} {W : World} {fuel : Nat} {u : Value} {y : DataW H × List MemPlace}
    (hf : DataW.trod enc Try.prog W 0 (fun _ => true) true fuel 22 [u] = some y) : ∃ (a : Option Addr) (len cap : Nat) (l : List Rate), u = .slice a len cap ∧ Came W a len cap l := by
  have ck : Try.prog.cellsOf 122 = 5 := by kernel_rfl
  rcases open_slice Try.underlying22 hf with ⟨hcs, _⟩ | ⟨x, ln, cp, m, n, D, Pl, hcs, hb, hl, hm, hmm, _, hi⟩
  · obtain rfl : u = .slice none 0 0 := by simpa using hcs
    exact ⟨none, 0, 0, [], rfl, Cells.nil_ _ _ _, by unfold maxLen; omega, by intro s hs; simp at hs⟩
  · obtain rfl : u = .slice (some x) ln cp := by simpa using hcs
    simp only [if_true] at hmm
    subst hmm
    rw [ck] at hi
    obtain ⟨l, hll, hp⟩ := list_of (fun k s => Rate.fits s ∧ ∀ j, j < 5 → W.cell? (x.add (k * 5 + j)) = s.cells[j]?) ln (fun k hk => by
      obtain ⟨cs', hc, ht⟩ := hi k (by omega)
      obtain ⟨s, rfl, hfit⟩ := read_one ht
      refine ⟨s, hfit, fun j hj => ?_⟩
      have := (World.cells?_some hc).2.2 j hj
      rw [Go.Deep.add_add] at this
      exact this)
    refine ⟨some x, ln, _, l, rfl, ⟨by rw [flat_len, hll], fun h0 => ⟨x, rfl, fun j u hu => ?_⟩⟩, by omega, fun s hs => ?_⟩
    · have hj : j < (flat l).length := (List.getElem?_eq_some_iff.1 hu).1
      rw [flat_len] at hj
      have hk : j / 5 < l.length := by omega
      have e := flat_at l (j / 5) l[j/5] (List.getElem?_eq_getElem hk) (j % 5) (by omega)
      rw [show j / 5 * 5 + j % 5 = j by omega, hu] at e
      have := (hp (j / 5) l[j/5] (List.getElem?_eq_getElem hk)).2 (j % 5) (by omega)
      rw [show j / 5 * 5 + j % 5 = j by omega, ← e] at this
      exact this
    · obtain ⟨k, hk⟩ := List.getElem?_of_mem hs
      exact (hp k s hk).1
theorem open_many {H : Type} {enc : TypeId × Value → H} {W : World} {a : Option Addr} {len cap : Nat} {d : DataW H} {p : List MemPlace}
    (h : DataW.Trod enc Try.prog W 0 (fun _ => true) true 22 (.slice a len cap) d p) : ∃ l : List Rate, Came W a len cap l := by
  obtain ⟨fuel, hf⟩ := h
  obtain ⟨a2, l2, c2, l, e, hl⟩ := open_field (u := .slice a len cap) hf
  simp only [Value.slice.injEq] at e
  obtain ⟨rfl, rfl, rfl⟩ := e
  exact ⟨l, hl⟩

/-- a record that was boxed -/
theorem box_ {w : World} {s : Rate} {g : Nat} (h : Cells w 5 (some ⟨g, 0, none⟩) 1 s.cells) : w.cell? ⟨g, 0, none⟩ = some (.int .i64 s.zone) ∧ w.cell? ⟨g, 1, none⟩ = some (.int .i64 s.grams) ∧ w.cell? ⟨g, 2, none⟩ = some (.int .i64 s.from_) ∧ w.cell? ⟨g, 3, none⟩ = some (.int .i64 s.until_) ∧ w.cell? ⟨g, 4, none⟩ = some (.int .i64 s.cents) := by
  obtain ⟨ad, e, hc⟩ := h.2 (by simp [Rate.cells])
  obtain rfl := Option.some.inj e
  have gg := fun j u hu => add_none g 0 j ▸ hc j u hu
  exact ⟨by simpa using gg 0 _ rfl, by simpa using gg 1 _ rfl, by simpa using gg 2 _ rfl, by simpa using gg 3 _ rfl, by simpa using gg 4 _ rfl⟩
theorem box_new (w : World) (s : Rate) (T : TypeId) : Cells (w.alloc (.cells #[.int .i64 s.zone, .int .i64 s.grams, .int .i64 s.from_, .int .i64 s.until_, .int .i64 s.cents] T)) 5 (some ⟨w.heap.size, 0, none⟩) 1 s.cells :=
  ⟨by simp [Rate.cells], fun _ => ⟨_, rfl, fun j u hu => by
    have hj : j < 5 := by have := (List.getElem?_eq_some_iff.1 hu).1; simpa [Rate.cells] using this
    rw [add_none, World.cell?_alloc_new]
    match j, hj with
    | 0, _ => simpa [Rate.cells] using hu
    | 1, _ => simpa [Rate.cells] using hu
    | 2, _ => simpa [Rate.cells] using hu
    | 3, _ => simpa [Rate.cells] using hu
    | 4, _ => simpa [Rate.cells] using hu
⟩⟩
end Go.Proofs.Ytihibckijdfidaa.ORate

namespace Go.Proofs.Ytihibckijdfidaa.GlToRate
open Go.RowKit
open Go.Proofs.Ytihibckijdfidaa.Rowed Go.Proofs.Ytihibckijdfidaa.Turn Go.Proofs.Ytihibckijdfidaa.Aid Go.Proofs.Ytihibckijdfidaa.GoP Go.Proofs.Ytihibckijdfidaa.GoM

def P (a : PRate.Rate) : Option (PRate.Rate) :=
 unRate a fun (a_zone : Int) (a_grams : Int) (a_from_ : Int) (a_until_ : Int) (a_cents : Int) =>
 some (PRate.Rate.mk a_zone a_grams a_from_ a_until_ a_cents)

set_option maxRecDepth 100000 in
set_option maxHeartbeats 2000000 in
theorem C (a : PRate.Rate)   (w : World)   {r : PRate.Rate} (H : Hid (P a = some r)) :
  Calls Try.prog 83 #[a.val] w (Gives ((PRate.Rate.val r)) w) := by
 have HB := Lib.hid (Below.refl w.heap.size w); unfold P at H; obtain ⟨a_zone, a_grams, a_from_, a_until_, a_cents⟩ := a; replace H := unRate_hid H; unfold PRate.Rate.val
 go_enter Try.func83, Try.ntmps83
 obtain ⟨c10, b11⟩ : ∃ x, w.alloc (.cells #[.int .i64 a_zone, .int .i64 a_grams, .int .i64 a_from_, .int .i64 a_until_, .int .i64 a_cents] 122) = x := ⟨_, rfl⟩; have c12 : Below w.heap.size w c10 := (by rw [← b11]; exact (Below.refl _ _).alloc (Nat.le_refl _) _); have d12 := Lib.hid (Below.step HB.out c12); clear c12; have t11 : c10.cell? ⟨w.heap.size, 0, none⟩ = some (.int .i64 a_zone) := (by rw [← b11]; exact box_new _ _ _ 0 _ rfl); have y14 : c10.cell? ⟨w.heap.size, 1, none⟩ = some (.int .i64 a_grams) := (by rw [← b11]; exact box_new _ _ _ 1 _ rfl); have n14 : c10.cell? ⟨w.heap.size, 2, none⟩ = some (.int .i64 a_from_) := (by rw [← b11]; exact box_new _ _ _ 2 _ rfl); have f15 : c10.cell? ⟨w.heap.size, 3, none⟩ = some (.int .i64 a_until_) := (by rw [← b11]; exact box_new _ _ _ 3 _ rfl); have t14 : c10.cell? ⟨w.heap.size, 4, none⟩ = some (.int .i64 a_cents) := (by rw [← b11]; exact box_new _ _ _ 4 _ rfl); obtain ⟨a10, x10⟩ : ∃ x, c10.alloc (.cells #[.int .i64 0, .int .i64 0, .int .i64 0, .int .i64 0, .int .i64 0] 120) = x := ⟨_, rfl⟩; have y10 : Below c10.heap.size c10 a10 := (by rw [← x10]; exact (Below.refl _ _).alloc (Nat.le_refl _) _); have d11 := Lib.hid (apart_box t11); have z11 := Lib.hid (Below.step d12.out y10); have p11 := cell_below y10 t11; have p12 := cell_below y10 y14; have x12 := cell_below y10 n14; have b15 := cell_below y10 f15; have z14 := cell_below y10 t14; clear y10; have r11 : a10.cell? ⟨c10.heap.size, 0, none⟩ = some (.int .i64 0) := (by rw [← x10]; exact box_new _ _ _ 0 _ rfl); have c15 : a10.cell? ⟨c10.heap.size, 1, none⟩ = some (.int .i64 0) := (by rw [← x10]; exact box_new _ _ _ 1 _ rfl); have w13 : a10.cell? ⟨c10.heap.size, 2, none⟩ = some (.int .i64 0) := (by rw [← x10]; exact box_new _ _ _ 2 _ rfl); have l13 : a10.cell? ⟨c10.heap.size, 3, none⟩ = some (.int .i64 0) := (by rw [← x10]; exact box_new _ _ _ 3 _ rfl); have r12 : a10.cell? ⟨c10.heap.size, 4, none⟩ = some (.int .i64 0) := (by rw [← x10]; exact box_new _ _ _ 4 _ rfl); have Ot_1 : Hid (a10.ownsRow w.heap.size 120 5 (.slice (some ⟨c10.heap.size, 0, none⟩) 1 1) 1 [.int .i64 0, .int .i64 0, .int .i64 0, .int .i64 0, .int .i64 0]) := Lib.hid (by rw [← x10]; exact own_laid (n := 1) d12.out.size rfl rfl (by unfold maxLen; omega)); obtain ⟨p10, z10⟩ : ∃ x, a10.alloc (.cells #[.int .i64 0, .int .i64 0, .int .i64 0, .int .i64 0, .int .i64 0] 120) = x := ⟨_, rfl⟩; have e10 : Below a10.heap.size a10 p10 := (by rw [← z10]; exact (Below.refl _ _).alloc (Nat.le_refl _) _); have d10 := Lib.hid (apart_box p11); have b10 := Lib.hid (apart_box r11); have b12 := Lib.hid (Below.step z11.out e10); have i13 := cell_below e10 p11; have w12 := cell_below e10 p12; have k12 := cell_below e10 x12; have r13 := cell_below e10 b15; have a14 := cell_below e10 z14; have o13 := cell_below e10 r11; have b14 := cell_below e10 c15; have k13 := cell_below e10 w13; have g14 := cell_below e10 l13; have h13 := cell_below e10 r12; replace Ot_1 := Lib.hid (own_below Ot_1.out e10); clear e10; have q15 : p10.cell? ⟨a10.heap.size, 0, none⟩ = some (.int .i64 0) := (by rw [← z10]; exact box_new _ _ _ 0 _ rfl); have t15 : p10.cell? ⟨a10.heap.size, 1, none⟩ = some (.int .i64 0) := (by rw [← z10]; exact box_new _ _ _ 1 _ rfl); have w15 : p10.cell? ⟨a10.heap.size, 2, none⟩ = some (.int .i64 0) := (by rw [← z10]; exact box_new _ _ _ 2 _ rfl); have b17 : p10.cell? ⟨a10.heap.size, 3, none⟩ = some (.int .i64 0) := (by rw [← z10]; exact box_new _ _ _ 3 _ rfl); have g17 : p10.cell? ⟨a10.heap.size, 4, none⟩ = some (.int .i64 0) := (by rw [← z10]; exact box_new _ _ _ 4 _ rfl); have e11 : Hid (p10.ownsRow w.heap.size 120 5 (.slice (some ⟨a10.heap.size, 0, none⟩) 1 1) 1 [.int .i64 0, .int .i64 0, .int .i64 0, .int .i64 0, .int .i64 0]) := Lib.hid (by rw [← z10]; exact own_laid (n := 1) z11.out.size rfl rfl (by unfold maxLen; omega)); obtain ⟨o10, m11⟩ : ∃ x, (p10).setCell ⟨a10.heap.size, 0, none⟩ (.int .i64 a_zone) = x := ⟨_, rfl⟩
 have t16 := e11.out.frozenAt 0; have k11 := Lib.hid (own_stores [(0, .int .i64 a_zone)] e11.out); have q10 : Hid (o10.ownsRow w.heap.size 120 5 (.slice (some ⟨a10.heap.size, 0, none⟩) 1 1) 1 [.int .i64 a_zone, .int .i64 0, .int .i64 0, .int .i64 0, .int .i64 0]) := Lib.hid (by rw [← m11]; exact k11.out.1); have i10 : Hid (p10.grownBy o10 (Value.slice (some ⟨a10.heap.size, 0, none⟩) 1 1).ownBlock) := Lib.hid (by rw [← m11]; exact k11.out.2); have w11 := Lib.hid (b12.out.grown i10.out b12.out.size (fun q hq => (e11.out.lt q hq).1)); clear k11; have z13 := cell_other i13 i10.out d10.out; have d13 := cell_other w12 i10.out d10.out; have e15 := cell_other k12 i10.out d10.out; have h12 := cell_other r13 i10.out d10.out; have d15 := cell_other a14 i10.out d10.out; have m12 := cell_other o13 i10.out b10.out; have v13 := cell_other b14 i10.out b10.out; have i12 := cell_other k13 i10.out b10.out; have g12 := cell_other g14 i10.out b10.out; have m13 := cell_other h13 i10.out b10.out; replace Ot_1 := Lib.hid (own_other Ot_1.out i10.out b10.out); clear e11 i10; have j15 : o10.cell? ⟨a10.heap.size, 0, none⟩ = some (.int .i64 a_zone) := q10.out.cells rfl 0 _ rfl; have g16 : o10.cell? ⟨a10.heap.size, 1, none⟩ = some (.int .i64 0) := q10.out.cells rfl 1 _ rfl; have v15 : o10.cell? ⟨a10.heap.size, 2, none⟩ = some (.int .i64 0) := q10.out.cells rfl 2 _ rfl; have k16 : o10.cell? ⟨a10.heap.size, 3, none⟩ = some (.int .i64 0) := q10.out.cells rfl 3 _ rfl; have v16 : o10.cell? ⟨a10.heap.size, 4, none⟩ = some (.int .i64 0) := q10.out.cells rfl 4 _ rfl; obtain ⟨t10, o11⟩ : ∃ x, (o10).setCell ⟨a10.heap.size, 1, none⟩ (.int .i64 a_grams) = x := ⟨_, rfl⟩; have o15 := q10.out.frozenAt 1; have f11 := Lib.hid (own_stores [(1, .int .i64 a_grams)] q10.out); have s10 : Hid (t10.ownsRow w.heap.size 120 5 (.slice (some ⟨a10.heap.size, 0, none⟩) 1 1) 1 [.int .i64 a_zone, .int .i64 a_grams, .int .i64 0, .int .i64 0, .int .i64 0]) := Lib.hid (by rw [← o11]; exact f11.out.1); have k10 : Hid (o10.grownBy t10 (Value.slice (some ⟨a10.heap.size, 0, none⟩) 1 1).ownBlock) := Lib.hid (by rw [← o11]; exact f11.out.2); have q11 := Lib.hid (w11.out.grown k10.out w11.out.size (fun q hq => (q10.out.lt q hq).1)); clear f11; have p14 := cell_other z13 k10.out d10.out; have w14 := cell_other d13 k10.out d10.out; have a13 := cell_other e15 k10.out d10.out; have l14 := cell_other h12 k10.out d10.out; have e12 := cell_other d15 k10.out d10.out; have t12 := cell_other m12 k10.out b10.out; have d14 := cell_other v13 k10.out b10.out; have h14 := cell_other i12 k10.out b10.out; have v12 := cell_other g12 k10.out b10.out; have e13 := cell_other m13 k10.out b10.out; replace Ot_1 := Lib.hid (own_other Ot_1.out k10.out b10.out); clear q10 k10; have s15 : t10.cell? ⟨a10.heap.size, 0, none⟩ = some (.int .i64 a_zone) := s10.out.cells rfl 0 _ rfl; have b16 : t10.cell? ⟨a10.heap.size, 1, none⟩ = some (.int .i64 a_grams) := s10.out.cells rfl 1 _ rfl; have k15 : t10.cell? ⟨a10.heap.size, 2, none⟩ = some (.int .i64 0) := s10.out.cells rfl 2 _ rfl; have f16 : t10.cell? ⟨a10.heap.size, 3, none⟩ = some (.int .i64 0) := s10.out.cells rfl 3 _ rfl; have x15 : t10.cell? ⟨a10.heap.size, 4, none⟩ = some (.int .i64 0) := s10.out.cells rfl 4 _ rfl; obtain ⟨l10, s11⟩ : ∃ x, (t10).setCell ⟨a10.heap.size, 2, none⟩ (.int .i64 a_from_) = x := ⟨_, rfl⟩; have p16 := s10.out.frozenAt 2; have j11 := Lib.hid (own_stores [(2, .int .i64 a_from_)] s10.out); have v10 : Hid (l10.ownsRow w.heap.size 120 5 (.slice (some ⟨a10.heap.size, 0, none⟩) 1 1) 1 [.int .i64 a_zone, .int .i64 a_grams, .int .i64 a_from_, .int .i64 0, .int .i64 0]) := Lib.hid (by rw [← s11]; exact j11.out.1); have f10 : Hid (t10.grownBy l10 (Value.slice (some ⟨a10.heap.size, 0, none⟩) 1 1).ownBlock) := Lib.hid (by rw [← s11]; exact j11.out.2); have n11 := Lib.hid (q11.out.grown f10.out q11.out.size (fun q hq => (s10.out.lt q hq).1)); clear j11; have c13 := cell_other p14 f10.out d10.out
 have j13 := cell_other w14 f10.out d10.out; have s12 := cell_other a13 f10.out d10.out; have q14 := cell_other l14 f10.out d10.out; have v14 := cell_other e12 f10.out d10.out; have x13 := cell_other t12 f10.out b10.out; have q12 := cell_other d14 f10.out b10.out; have e14 := cell_other h14 f10.out b10.out; have g13 := cell_other v12 f10.out b10.out; have b13 := cell_other e13 f10.out b10.out; replace Ot_1 := Lib.hid (own_other Ot_1.out f10.out b10.out); clear s10 f10; have p15 : l10.cell? ⟨a10.heap.size, 0, none⟩ = some (.int .i64 a_zone) := v10.out.cells rfl 0 _ rfl; have c17 : l10.cell? ⟨a10.heap.size, 1, none⟩ = some (.int .i64 a_grams) := v10.out.cells rfl 1 _ rfl; have e16 : l10.cell? ⟨a10.heap.size, 2, none⟩ = some (.int .i64 a_from_) := v10.out.cells rfl 2 _ rfl; have a17 : l10.cell? ⟨a10.heap.size, 3, none⟩ = some (.int .i64 0) := v10.out.cells rfl 3 _ rfl; have q16 : l10.cell? ⟨a10.heap.size, 4, none⟩ = some (.int .i64 0) := v10.out.cells rfl 4 _ rfl; obtain ⟨r10, v11⟩ : ∃ x, (l10).setCell ⟨a10.heap.size, 3, none⟩ (.int .i64 a_until_) = x := ⟨_, rfl⟩; have m15 := v10.out.frozenAt 3; have i11 := Lib.hid (own_stores [(3, .int .i64 a_until_)] v10.out); have n10 : Hid (r10.ownsRow w.heap.size 120 5 (.slice (some ⟨a10.heap.size, 0, none⟩) 1 1) 1 [.int .i64 a_zone, .int .i64 a_grams, .int .i64 a_from_, .int .i64 a_until_, .int .i64 0]) := Lib.hid (by rw [← v11]; exact i11.out.1); have j10 : Hid (l10.grownBy r10 (Value.slice (some ⟨a10.heap.size, 0, none⟩) 1 1).ownBlock) := Lib.hid (by rw [← v11]; exact i11.out.2); have a12 := Lib.hid (n11.out.grown j10.out n11.out.size (fun q hq => (v10.out.lt q hq).1)); clear i11; have f13 := cell_other c13 j10.out d10.out; have y12 := cell_other j13 j10.out d10.out; have l12 := cell_other s12 j10.out d10.out; have i14 := cell_other q14 j10.out d10.out; have n12 := cell_other v14 j10.out d10.out; have g15 := cell_other x13 j10.out b10.out; have s13 := cell_other q12 j10.out b10.out; have j12 := cell_other e14 j10.out b10.out; have n13 := cell_other g13 j10.out b10.out; have f14 := cell_other b13 j10.out b10.out; replace Ot_1 := Lib.hid (own_other Ot_1.out j10.out b10.out); clear v10 j10; have c16 : r10.cell? ⟨a10.heap.size, 0, none⟩ = some (.int .i64 a_zone) := n10.out.cells rfl 0 _ rfl; have m16 : r10.cell? ⟨a10.heap.size, 1, none⟩ = some (.int .i64 a_grams) := n10.out.cells rfl 1 _ rfl; have i16 : r10.cell? ⟨a10.heap.size, 2, none⟩ = some (.int .i64 a_from_) := n10.out.cells rfl 2 _ rfl; have y15 : r10.cell? ⟨a10.heap.size, 3, none⟩ = some (.int .i64 a_until_) := n10.out.cells rfl 3 _ rfl; have d17 : r10.cell? ⟨a10.heap.size, 4, none⟩ = some (.int .i64 0) := n10.out.cells rfl 4 _ rfl; obtain ⟨m10, y11⟩ : ∃ x, (r10).setCell ⟨a10.heap.size, 4, none⟩ (.int .i64 a_cents) = x := ⟨_, rfl⟩; have a16 := n10.out.frozenAt 4; have g11 := Lib.hid (own_stores [(4, .int .i64 a_cents)] n10.out); have a11 : Hid (m10.ownsRow w.heap.size 120 5 (.slice (some ⟨a10.heap.size, 0, none⟩) 1 1) 1 [.int .i64 a_zone, .int .i64 a_grams, .int .i64 a_from_, .int .i64 a_until_, .int .i64 a_cents]) := Lib.hid (by rw [← y11]; exact g11.out.1); have h10 : Hid (r10.grownBy m10 (Value.slice (some ⟨a10.heap.size, 0, none⟩) 1 1).ownBlock) := Lib.hid (by rw [← y11]; exact g11.out.2); have l11 := Lib.hid (a12.out.grown h10.out a12.out.size (fun q hq => (n10.out.lt q hq).1)); clear g11; have o14 := cell_other f13 h10.out d10.out; have r14 := cell_other y12 h10.out d10.out; have m14 := cell_other l12 h10.out d10.out; have f12 := cell_other i14 h10.out d10.out; have c14 := cell_other n12 h10.out d10.out; have z16 := cell_other g15 h10.out b10.out; have e17 := cell_other s13 h10.out b10.out; have n16 := cell_other j12 h10.out b10.out; have l16 := cell_other n13 h10.out b10.out; have l15 := cell_other f14 h10.out b10.out; replace Ot_1 := Lib.hid (own_other Ot_1.out h10.out b10.out); clear n10 h10; have x14 : m10.cell? ⟨a10.heap.size, 0, none⟩ = some (.int .i64 a_zone) := a11.out.cells rfl 0 _ rfl
 have t13 : m10.cell? ⟨a10.heap.size, 1, none⟩ = some (.int .i64 a_grams) := a11.out.cells rfl 1 _ rfl; have a15 : m10.cell? ⟨a10.heap.size, 2, none⟩ = some (.int .i64 a_from_) := a11.out.cells rfl 2 _ rfl; have j14 : m10.cell? ⟨a10.heap.size, 3, none⟩ = some (.int .i64 a_until_) := a11.out.cells rfl 3 _ rfl; have z12 : m10.cell? ⟨a10.heap.size, 4, none⟩ = some (.int .i64 a_cents) := a11.out.cells rfl 4 _ rfl; obtain ⟨w10, x11⟩ : ∃ x, (((((m10).setCell ⟨c10.heap.size, 0, none⟩ (.int .i64 a_zone)).setCell ⟨c10.heap.size, 1, none⟩ (.int .i64 a_grams)).setCell ⟨c10.heap.size, 2, none⟩ (.int .i64 a_from_)).setCell ⟨c10.heap.size, 3, none⟩ (.int .i64 a_until_)).setCell ⟨c10.heap.size, 4, none⟩ (.int .i64 a_cents) = x := ⟨_, rfl⟩; have j16 := Ot_1.out.frozenAt 0; have x16 := Ot_1.out.frozenAt 1; have r15 := Ot_1.out.frozenAt 2; have z15 := Ot_1.out.frozenAt 3; have f17 := Ot_1.out.frozenAt 4; have h11 := Lib.hid (own_stores [(0, .int .i64 a_zone), (1, .int .i64 a_grams), (2, .int .i64 a_from_), (3, .int .i64 a_until_), (4, .int .i64 a_cents)] Ot_1.out); have c11 : Hid (w10.ownsRow w.heap.size 120 5 (.slice (some ⟨c10.heap.size, 0, none⟩) 1 1) 1 [.int .i64 a_zone, .int .i64 a_grams, .int .i64 a_from_, .int .i64 a_until_, .int .i64 a_cents]) := Lib.hid (by rw [← x11]; exact h11.out.1); have g10 : Hid (m10.grownBy w10 (Value.slice (some ⟨c10.heap.size, 0, none⟩) 1 1).ownBlock) := Lib.hid (by rw [← x11]; exact h11.out.2); have k14 := Lib.hid (l11.out.grown g10.out l11.out.size (fun q hq => (Ot_1.out.lt q hq).1)); clear h11; have y16 := cell_other o14 g10.out d11.out; have w16 := cell_other r14 g10.out d11.out; have h16 := cell_other m14 g10.out d11.out; have h15 := cell_other f12 g10.out d11.out; have d16 := cell_other c14 g10.out d11.out; have i15 := cell_other x14 g10.out (Apart.symm b10.out); have n15 := cell_other t13 g10.out (Apart.symm b10.out); have o16 := cell_other a15 g10.out (Apart.symm b10.out); have s16 := cell_other j14 g10.out (Apart.symm b10.out); have r16 := cell_other z12 g10.out (Apart.symm b10.out); replace a11 := Lib.hid (own_other a11.out g10.out (Apart.symm b10.out)); clear Ot_1 g10; have y13 : w10.cell? ⟨c10.heap.size, 0, none⟩ = some (.int .i64 a_zone) := c11.out.cells rfl 0 _ rfl; have q13 : w10.cell? ⟨c10.heap.size, 1, none⟩ = some (.int .i64 a_grams) := c11.out.cells rfl 1 _ rfl; have p13 : w10.cell? ⟨c10.heap.size, 2, none⟩ = some (.int .i64 a_from_) := c11.out.cells rfl 2 _ rfl; have s14 : w10.cell? ⟨c10.heap.size, 3, none⟩ = some (.int .i64 a_until_) := c11.out.cells rfl 3 _ rfl; have o12 : w10.cell? ⟨c10.heap.size, 4, none⟩ = some (.int .i64 a_cents) := c11.out.cells rfl 4 _ rfl; cases ret_hid H; go_wp2_with fail
 (try simp only [Exit.inBlock, Exit.then])
 refine bodyPost_ret (v := .agg #[.int .i64 a_zone, .int .i64 a_grams, .int .i64 a_from_, .int .i64 a_until_, .int .i64 a_cents]) ?hr_ ?hd_ ?_
 case hd_ => rfl
 case hr_ => simp [results, Try.results83, y13, q13, p13, s14, o12, go_sem]
 exact ⟨rfl, k14.out⟩
end Go.Proofs.Ytihibckijdfidaa.GlToRate

namespace Go.Proofs.Ytihibckijdfidaa.GlToRateS
open Go.RowKit
open Go.Proofs.Ytihibckijdfidaa.Rowed Go.Proofs.Ytihibckijdfidaa.Turn Go.Proofs.Ytihibckijdfidaa.Aid Go.Proofs.Ytihibckijdfidaa.GoP Go.Proofs.Ytihibckijdfidaa.GoM

def l0 (a : (List PRate.Rate)) (k0 : Nat) (s : (List PRate.Rate)) (nx0 bk0 : (List PRate.Rate) → Option ((List PRate.Rate))) : Option ((List PRate.Rate)) :=
 letK s fun out_3l0 =>
 Option.bind (idx a (k0 : Int)) fun (yt_14 : PRate.Rate) =>
 unRate yt_14 fun (t_14_zone : Int) (t_14_grams : Int) (t_14_from_ : Int) (t_14_until_ : Int) (t_14_cents : Int) =>
 Option.bind (GlToRate.P (PRate.Rate.mk t_14_zone t_14_grams t_14_from_ t_14_until_ t_14_cents)) fun (t_16 : PRate.Rate) =>
 unRate t_16 fun (t_16_zone : Int) (t_16_grams : Int) (t_16_from_ : Int) (t_16_until_ : Int) (t_16_cents : Int) =>
 Option.bind (idx out_3l0 (k0 : Int)) fun (yt_17 : PRate.Rate) =>
 unRate yt_17 fun (t_17_zone : Int) (t_17_grams : Int) (t_17_from_ : Int) (t_17_until_ : Int) (t_17_cents : Int) =>
 letK (out_3l0.set k0 (PRate.Rate.mk t_16_zone t_16_grams t_16_from_ t_16_until_ t_16_cents)) fun (l18_18 : (List PRate.Rate)) =>
 appK nx0 (l18_18)

def e0  (s : (List PRate.Rate)) : Option ((List PRate.Rate)) :=
 letK s fun out_3l0 =>
 some out_3l0

def P (a : (List PRate.Rate)) : Option ((List PRate.Rate)) :=
 guardK (0 ≤ (a.length : Int) ∧ (a.length : Int) ≤ 1099511627776) <|
 letK (List.replicate a.length (PRate.Rate.mk 0 0 0 0 0)) fun (t_3 : (List PRate.Rate)) =>
 cntK (l0 a) (a.length) 0 (t_3) (e0 )

set_option maxRecDepth 100000 in
set_option maxHeartbeats 2000000 in
theorem C (a : (List PRate.Rate)) (A0 : Option Addr) (c0 : Nat)  (w : World) (M0 : Hid (Cells w 5 A0 a.length (PRate.flat a))) (N0 : Hid (a.length ≤ 9223372036854775807))  {r : (List PRate.Rate)} (H : Hid (P a = some r)) :
  Calls Try.prog 17 #[.slice A0 a.length c0] w (fun e w' => ∃ A_r c_r, e = .returned (.slice A_r r.length c_r) ∧ w'.ownsRow w.heap.size 120 5 (.slice A_r r.length c_r) r.length (PRate.flat r) ∧ Below w.heap.size w w') := by
 have HB := Lib.hid (Below.refl w.heap.size w); unfold P at H; have N0o := N0.out; obtain ⟨c12, b12, r11, j12, o12⟩ := Aid.info_parts (P := Try.prog) (T := 120) (z := .agg #[.int .i64 0, .int .i64 0, .int .i64 0, .int .i64 0, .int .i64 0]) (s := 5) (b := 40) (by kernel_rfl)
 go_enter Try.func17, Try.ntmps17
 replace H := guard_hid H; obtain ⟨g13, H⟩ := H; replace H := let_hid H; obtain ⟨t_3, ht_3, H⟩ := H; have l11 := HB.out.size; have w10 : t_3.length = a.length := (by rw [← ht_3]; simp); have k12 := Lib.hid ht_3; clear ht_3; go_wp2_with (at_make; refine wpList_make_full _ rfl _ _ 28 rfl w.heap.size 120 c12 (.agg #[.int .i64 0, .int .i64 0, .int .i64 0, .int .i64 0, .int .i64 0]) 5 Try.underlying28 b12 r11 j12 .i64 .i64 _ _ a.length rfl rfl (by omega) (by omega) (by rw [o12]; omega) (by unfold maxLen; omega) l11 ?_; intro wt_3 ot_3 gt_3; have Qt_3 := Lib.hid ot_3; have Gt_3 := Lib.hid gt_3; clear ot_3 gt_3; refine stop_in ?_); refine stop_out ?_; have hv_ : (Value.slice (some ⟨w.heap.size, 0, none⟩) a.length a.length : Value) = Value.slice (some ⟨w.heap.size, 0, none⟩) t_3.length a.length := (by rw [w10]); rw [hv_]; clear hv_
 have Et_3 : (PRate.flat t_3) = (madeCells (.agg #[.int .i64 0, .int .i64 0, .int .i64 0, .int .i64 0, .int .i64 0] : Value).cells (a.length * 5)).toList := by
  rw [made_flat PRate.Rate.cells (PRate.Rate.mk 0 0 0 0 0) _ 5 _ rfl rfl (by decide), ← k12.out]
  rfl
 have Pt_3 : Hid (wt_3.ownsRow w.heap.size 120 5 (.slice (some ⟨w.heap.size, 0, none⟩) a.length a.length) a.length (PRate.flat t_3)) := Lib.hid (by rw [Et_3]; exact Qt_3.out); clear Et_3; replace w10 := Lib.hid w10; clear Qt_3 l11; have bt_3 : Below w.heap.size w wt_3 := (Below.refl _ _).grown Gt_3.out (Nat.le_refl _) (by simp); clear Gt_3; have q12 := Lib.hid (Below.step HB.out bt_3); clear bt_3; replace Pt_3 := Lib.hid (own_len w10.out Pt_3.out); go_wp2_with fail; go_wp2_with fail; go_loopg [4] (a.length) (fun m_ v4_ wr => ∃ (k0 : Nat) (d10 : (List PRate.Rate)), k0 + m_ = a.length ∧ v4_ = .int .i64 (k0 : Int) ∧ Hid (cntK (l0 a) m_ k0 (d10) (e0 ) = some r) ∧ Hid (Below w.heap.size w wr) ∧ Hid (wr.ownsRow w.heap.size 120 5 (.slice (some ⟨w.heap.size, 0, none⟩) t_3.length a.length) t_3.length (PRate.flat d10)) ∧ Hid (d10.length = t_3.length))
 case atStart => exact ⟨0, _, by omega, rfl, H, q12, Pt_3, Lib.hid (rfl)⟩
 case round =>
  obtain ⟨k0, d10, hkm0, rfl, H, k10, a10, z10⟩ := hrel; rename World => wr0
  cases gk with
  | zero =>
   obtain rfl : k0 = a.length := (by omega); have hc0 : decide (((a.length : Nat) : Int) < ((a.length : Nat) : Int)) = false := (by simp); replace H := cnt_zero H; unfold e0 at H; replace H := let_hid H; obtain ⟨_, rfl, H⟩ := H; obtain rfl := ret_hid H; go_wp2_with fail; go_ret; have hr_0 := z10.out; replace a10 := Lib.hid (own_len hr_0 a10.out); exact ⟨(some ⟨w.heap.size, 0, none⟩), a.length, (by first | (rw [hr_0]; done) | (rw [hr_0]; rfl)), a10.out, k10.out⟩
  | succ m0 =>
   have hlt0 : k0 < a.length := (by omega); have hc0 : decide ((k0 : Int) < ((a.length : Nat) : Int)) = true := (by simp; omega); replace H := cnt_succ H; unfold l0 at H; replace H := let_hid H; obtain ⟨_, rfl, H⟩ := H; replace H := idx_hid H; obtain ⟨p11, z11, n12, q11, s12, H⟩ := H; obtain rfl : k0 = p11 := (by omega); clear n12; obtain ⟨d12, s11, t11, f12, v12⟩ := z11; replace H := unRate_hid H; obtain ⟨y12, d13, e13, p12, k11, l10, o10, p10, n10, m10⟩ := ORate.at_ M0.out q11; obtain rfl := Option.some.inj (s12.out.symm.trans k11); subst p12; have s10 := cell_lt l10; replace l10 := cell_below k10.out l10; replace o10 := cell_below k10.out o10; replace p10 := cell_below k10.out p10; replace n10 := cell_below k10.out n10; replace m10 := cell_below k10.out m10; clear k11; have k13 : (0 : Int) ≤ (k0 : Int) := (by omega); have a13 : (k0 : Int) < ((a.length : Nat) : Int) := (by omega); have b13 : ((k0 : Int)).toNat = k0 := (by omega); replace H := bind_hid H; obtain ⟨t_16, w12, H⟩ := H; obtain ⟨b10, c10, e10, h10, r10⟩ := t_16; replace H := unRate_hid H; go_wp2_with fail; go_at_call 83; refine (GlToRate.C ((PRate.Rate.mk d12 s11 t11 f12 v12))  _    w12).mono ?_; rintro h13 d11 ⟨rfl, g10⟩; unfold PRate.Rate.val; have h11 := Lib.hid (Below.step k10.out g10); replace l10 := cell_below g10 l10; replace o10 := cell_below g10 o10; replace p10 := cell_below g10 p10; replace n10 := cell_below g10 n10; replace m10 := cell_below g10 m10; replace a10 := Lib.hid (own_below a10.out g10); clear g10; replace H := idx_hid H; obtain ⟨g12, x11, i12, v10, o11, H⟩ := H; obtain rfl : k0 = g12 := (by omega); clear i12; obtain ⟨m12, y10, t10, j10, f10⟩ := x11; replace H := unRate_hid H; have r12 := z10.out; obtain ⟨x12, z12, l13, m11, n11, c11, g11, e11, b11, f11⟩ := ORate.at_ (own_cells a10.out) (k := k0) (by omega); obtain rfl := Option.some.inj (o11.out.symm.trans n11); simp only [Option.some.injEq, Addr.mk.injEq] at m11; obtain ⟨rfl, rfl, _⟩ := m11; clear n11; simp only [Nat.zero_add] at c11 g11 e11 b11 f11; have f13 : (0 : Int) ≤ (k0 : Int) := (by omega); have i13 : (k0 : Int) < ((t_3.length : Nat) : Int) := (by omega); have m13 : ((k0 : Int)).toNat = k0 := (by omega); clear r12; replace H := let_hid H; obtain ⟨x10, q10, H⟩ := H
   try simp only [Int.toNat_natCast] at q10
   obtain ⟨j11, i11⟩ : ∃ x, (((((d11).setCell ⟨w.heap.size, k0 * 5, none⟩ (.int .i64 b10)).setCell ⟨w.heap.size, k0 * 5 + 1, none⟩ (.int .i64 c10)).setCell ⟨w.heap.size, k0 * 5 + 2, none⟩ (.int .i64 e10)).setCell ⟨w.heap.size, k0 * 5 + 3, none⟩ (.int .i64 h10)).setCell ⟨w.heap.size, k0 * 5 + 4, none⟩ (.int .i64 r10) = x := ⟨_, rfl⟩; have w11 := a10.out.frozenAt (k0 * 5); have v11 := a10.out.frozenAt (k0 * 5 + 1); have l12 := a10.out.frozenAt (k0 * 5 + 2); have y11 := a10.out.frozenAt (k0 * 5 + 3); have a12 := a10.out.frozenAt (k0 * 5 + 4); have a11 := Lib.hid (own_stores [(k0 * 5, .int .i64 b10), (k0 * 5 + 1, .int .i64 c10), (k0 * 5 + 2, .int .i64 e10), (k0 * 5 + 3, .int .i64 h10), (k0 * 5 + 4, .int .i64 r10)] a10.out); have t12 : Hid (x10.length = t_3.length) := Lib.hid (by rw [← q10, List.length_set]; exact z10.out); have e12 : Hid (j11.ownsRow w.heap.size 120 5 (.slice (some ⟨w.heap.size, 0, none⟩) t_3.length a.length) t_3.length (PRate.flat x10)) := Lib.hid (by have es_ := set_self o11.out; have e0_ := flat_set PRate.Rate.cells 5 (fun _ => rfl) d10 (k0) 0 (PRate.Rate.mk m12 y10 t10 j10 f10) (PRate.Rate.mk b10 y10 t10 j10 f10) (.int .i64 b10) v10 (by decide) rfl; have e1_ := flat_set PRate.Rate.cells 5 (fun _ => rfl) d10 (k0) 1 (PRate.Rate.mk b10 y10 t10 j10 f10) (PRate.Rate.mk b10 c10 t10 j10 f10) (.int .i64 c10) v10 (by decide) rfl; have e2_ := flat_set PRate.Rate.cells 5 (fun _ => rfl) d10 (k0) 2 (PRate.Rate.mk b10 c10 t10 j10 f10) (PRate.Rate.mk b10 c10 e10 j10 f10) (.int .i64 e10) v10 (by decide) rfl; have e3_ := flat_set PRate.Rate.cells 5 (fun _ => rfl) d10 (k0) 3 (PRate.Rate.mk b10 c10 e10 j10 f10) (PRate.Rate.mk b10 c10 e10 h10 f10) (.int .i64 h10) v10 (by decide) rfl; have e4_ := flat_set PRate.Rate.cells 5 (fun _ => rfl) d10 (k0) 4 (PRate.Rate.mk b10 c10 e10 h10 f10) (PRate.Rate.mk b10 c10 e10 h10 r10) (.int .i64 r10) v10 (by decide) rfl; rw [es_] at e0_; have e_ : ([(k0 * 5, .int .i64 b10), (k0 * 5 + 1, .int .i64 c10), (k0 * 5 + 2, .int .i64 e10), (k0 * 5 + 3, .int .i64 h10), (k0 * 5 + 4, .int .i64 r10)] : List (Nat × Value)).foldl (fun xs p => xs.set p.1 p.2) (PRate.flat d10) = (PRate.flat x10) := (by rw [← q10]; show _ = List.flatMap PRate.Rate.cells _; first | (rw [← e4_, ← e3_, ← e2_, ← e1_, ← e0_]; first | done | rfl) | (rw [← e4_, ← e3_, ← e2_, ← e1_, es_, ← e0_]; first | done | rfl)); rw [← i11, ← e_]; exact a11.out.1); have i10 : Hid (d11.grownBy j11 (Value.slice (some ⟨w.heap.size, 0, none⟩) t_3.length a.length).ownBlock) := Lib.hid (by rw [← i11]; exact a11.out.2); have h12 := Lib.hid (h11.out.grown i10.out h11.out.size (fun q hq => (a10.out.lt q hq).1)); have p13 := Lib.hid q10; clear q10 a11; have o13 := cell_other l10 i10.out (apart_old a10.out s10); have c13 := cell_other o10 i10.out (apart_old a10.out s10); have j13 := cell_other p10 i10.out (apart_old a10.out s10); have q13 := cell_other n10 i10.out (apart_old a10.out s10); have n13 := cell_other m10 i10.out (apart_old a10.out s10); clear a10 i10; replace H := app_hid H; go_wp2_with fail; clear w11 v11 l12 y11 a12 l10 o10 p10 n10 m10 c11 g11 e11 b11 f11
   go_roundg m0
   case measure => omega
   case rel => exact ⟨k0 + 1, _, by omega, by go_num, H, h12, e12, Lib.hid (t12.out)⟩
end Go.Proofs.Ytihibckijdfidaa.GlToRateS

namespace Go.Proofs.Ytihibckijdfidaa.GlToCover
open Go.RowKit
open Go.Proofs.Ytihibckijdfidaa.Rowed Go.Proofs.Ytihibckijdfidaa.Turn Go.Proofs.Ytihibckijdfidaa.Aid Go.Proofs.Ytihibckijdfidaa.GoP Go.Proofs.Ytihibckijdfidaa.GoM

def P (a : PCover.Cover) : Option (PCover.Cover) :=
 unCover a fun (a_id : Int) (a_day : Int) (a_zone : Int) (a_grams : Int) (a_paid : Int) (a_from_ : Int) (a_to_ : Int) (a_leave : Int) (a_arrive : Int) =>
 some (PCover.Cover.mk a_id a_day a_zone a_grams a_paid a_from_ a_to_ a_leave a_arrive)

set_option maxRecDepth 100000 in
set_option maxHeartbeats 2000000 in
theorem C (a : PCover.Cover)   (w : World)   {r : PCover.Cover} (H : Hid (P a = some r)) :
  Calls Try.prog 18 #[a.val] w (Gives ((PCover.Cover.val r)) w) := by
 have HB := Lib.hid (Below.refl w.heap.size w); unfold P at H; obtain ⟨a_id, a_day, a_zone, a_grams, a_paid, a_from_, a_to_, a_leave, a_arrive⟩ := a; replace H := unCover_hid H; unfold PCover.Cover.val
 go_enter Try.func18, Try.ntmps18
 obtain ⟨d10, n11⟩ : ∃ x, w.alloc (.cells #[.int .i64 a_id, .int .i64 a_day, .int .i64 a_zone, .int .i64 a_grams, .int .i64 a_paid, .int .i64 a_from_, .int .i64 a_to_, .int .i64 a_leave, .int .i64 a_arrive] 24) = x := ⟨_, rfl⟩; have w12 : Below w.heap.size w d10 := (by rw [← n11]; exact (Below.refl _ _).alloc (Nat.le_refl _) _); have k12 := Lib.hid (Below.step HB.out w12); clear w12; have h12 : d10.cell? ⟨w.heap.size, 0, none⟩ = some (.int .i64 a_id) := (by rw [← n11]; exact box_new _ _ _ 0 _ rfl); have o21 : d10.cell? ⟨w.heap.size, 1, none⟩ = some (.int .i64 a_day) := (by rw [← n11]; exact box_new _ _ _ 1 _ rfl); have p19 : d10.cell? ⟨w.heap.size, 2, none⟩ = some (.int .i64 a_zone) := (by rw [← n11]; exact box_new _ _ _ 2 _ rfl); have s13 : d10.cell? ⟨w.heap.size, 3, none⟩ = some (.int .i64 a_grams) := (by rw [← n11]; exact box_new _ _ _ 3 _ rfl); have j16 : d10.cell? ⟨w.heap.size, 4, none⟩ = some (.int .i64 a_paid) := (by rw [← n11]; exact box_new _ _ _ 4 _ rfl); have w18 : d10.cell? ⟨w.heap.size, 5, none⟩ = some (.int .i64 a_from_) := (by rw [← n11]; exact box_new _ _ _ 5 _ rfl); have n21 : d10.cell? ⟨w.heap.size, 6, none⟩ = some (.int .i64 a_to_) := (by rw [← n11]; exact box_new _ _ _ 6 _ rfl); have l13 : d10.cell? ⟨w.heap.size, 7, none⟩ = some (.int .i64 a_leave) := (by rw [← n11]; exact box_new _ _ _ 7 _ rfl); have q17 : d10.cell? ⟨w.heap.size, 8, none⟩ = some (.int .i64 a_arrive) := (by rw [← n11]; exact box_new _ _ _ 8 _ rfl); obtain ⟨a10, j11⟩ : ∃ x, d10.alloc (.cells #[.int .i64 0, .int .i64 0, .int .i64 0, .int .i64 0, .int .i64 0, .int .i64 0, .int .i64 0, .int .i64 0, .int .i64 0] 30) = x := ⟨_, rfl⟩; have i11 : Below d10.heap.size d10 a10 := (by rw [← j11]; exact (Below.refl _ _).alloc (Nat.le_refl _) _); have o11 := Lib.hid (apart_box h12); have n12 := Lib.hid (Below.step k12.out i11); have t12 := cell_below i11 h12; have h15 := cell_below i11 o21; have a15 := cell_below i11 p19; have m14 := cell_below i11 s13; have c14 := cell_below i11 j16; have k14 := cell_below i11 w18; have n17 := cell_below i11 n21; have k15 := cell_below i11 l13; have z14 := cell_below i11 q17; clear i11; have v12 : a10.cell? ⟨d10.heap.size, 0, none⟩ = some (.int .i64 0) := (by rw [← j11]; exact box_new _ _ _ 0 _ rfl); have f14 : a10.cell? ⟨d10.heap.size, 1, none⟩ = some (.int .i64 0) := (by rw [← j11]; exact box_new _ _ _ 1 _ rfl); have e18 : a10.cell? ⟨d10.heap.size, 2, none⟩ = some (.int .i64 0) := (by rw [← j11]; exact box_new _ _ _ 2 _ rfl); have k18 : a10.cell? ⟨d10.heap.size, 3, none⟩ = some (.int .i64 0) := (by rw [← j11]; exact box_new _ _ _ 3 _ rfl); have i20 : a10.cell? ⟨d10.heap.size, 4, none⟩ = some (.int .i64 0) := (by rw [← j11]; exact box_new _ _ _ 4 _ rfl); have a16 : a10.cell? ⟨d10.heap.size, 5, none⟩ = some (.int .i64 0) := (by rw [← j11]; exact box_new _ _ _ 5 _ rfl); have r18 : a10.cell? ⟨d10.heap.size, 6, none⟩ = some (.int .i64 0) := (by rw [← j11]; exact box_new _ _ _ 6 _ rfl); have p15 : a10.cell? ⟨d10.heap.size, 7, none⟩ = some (.int .i64 0) := (by rw [← j11]; exact box_new _ _ _ 7 _ rfl); have b15 : a10.cell? ⟨d10.heap.size, 8, none⟩ = some (.int .i64 0) := (by rw [← j11]; exact box_new _ _ _ 8 _ rfl); have Ot_1 : Hid (a10.ownsRow w.heap.size 30 9 (.slice (some ⟨d10.heap.size, 0, none⟩) 1 1) 1 [.int .i64 0, .int .i64 0, .int .i64 0, .int .i64 0, .int .i64 0, .int .i64 0, .int .i64 0, .int .i64 0, .int .i64 0]) := Lib.hid (by rw [← j11]; exact own_laid (n := 1) k12.out.size rfl rfl (by unfold maxLen; omega)); obtain ⟨a11, k11⟩ : ∃ x, a10.alloc (.cells #[.int .i64 0, .int .i64 0, .int .i64 0, .int .i64 0, .int .i64 0, .int .i64 0, .int .i64 0, .int .i64 0, .int .i64 0] 30) = x := ⟨_, rfl⟩; have l10 : Below a10.heap.size a10 a11 := (by rw [← k11]; exact (Below.refl _ _).alloc (Nat.le_refl _) _); have c10 := Lib.hid (apart_box t12); have b10 := Lib.hid (apart_box v12); have p12 := Lib.hid (Below.step n12.out l10)
 have p13 := cell_below l10 t12; have v16 := cell_below l10 h15; have e17 := cell_below l10 a15; have i18 := cell_below l10 m14; have r15 := cell_below l10 c14; have p16 := cell_below l10 k14; have t13 := cell_below l10 n17; have m21 := cell_below l10 k15; have k13 := cell_below l10 z14; have q21 := cell_below l10 v12; have v17 := cell_below l10 f14; have v15 := cell_below l10 e18; have i13 := cell_below l10 k18; have f17 := cell_below l10 i20; have g20 := cell_below l10 a16; have t20 := cell_below l10 r18; have a17 := cell_below l10 p15; have e15 := cell_below l10 b15; replace Ot_1 := Lib.hid (own_below Ot_1.out l10); clear l10; have k23 : a11.cell? ⟨a10.heap.size, 0, none⟩ = some (.int .i64 0) := (by rw [← k11]; exact box_new _ _ _ 0 _ rfl); have g25 : a11.cell? ⟨a10.heap.size, 1, none⟩ = some (.int .i64 0) := (by rw [← k11]; exact box_new _ _ _ 1 _ rfl); have j24 : a11.cell? ⟨a10.heap.size, 2, none⟩ = some (.int .i64 0) := (by rw [← k11]; exact box_new _ _ _ 2 _ rfl); have n25 : a11.cell? ⟨a10.heap.size, 3, none⟩ = some (.int .i64 0) := (by rw [← k11]; exact box_new _ _ _ 3 _ rfl); have n23 : a11.cell? ⟨a10.heap.size, 4, none⟩ = some (.int .i64 0) := (by rw [← k11]; exact box_new _ _ _ 4 _ rfl); have s22 : a11.cell? ⟨a10.heap.size, 5, none⟩ = some (.int .i64 0) := (by rw [← k11]; exact box_new _ _ _ 5 _ rfl); have p23 : a11.cell? ⟨a10.heap.size, 6, none⟩ = some (.int .i64 0) := (by rw [← k11]; exact box_new _ _ _ 6 _ rfl); have v22 : a11.cell? ⟨a10.heap.size, 7, none⟩ = some (.int .i64 0) := (by rw [← k11]; exact box_new _ _ _ 7 _ rfl); have c23 : a11.cell? ⟨a10.heap.size, 8, none⟩ = some (.int .i64 0) := (by rw [← k11]; exact box_new _ _ _ 8 _ rfl); have q11 : Hid (a11.ownsRow w.heap.size 30 9 (.slice (some ⟨a10.heap.size, 0, none⟩) 1 1) 1 [.int .i64 0, .int .i64 0, .int .i64 0, .int .i64 0, .int .i64 0, .int .i64 0, .int .i64 0, .int .i64 0, .int .i64 0]) := Lib.hid (by rw [← k11]; exact own_laid (n := 1) n12.out.size rfl rfl (by unfold maxLen; omega)); obtain ⟨d11, o12⟩ : ∃ x, (a11).setCell ⟨a10.heap.size, 0, none⟩ (.int .i64 a_id) = x := ⟨_, rfl⟩; have l25 := q11.out.frozenAt 0; have v11 := Lib.hid (own_stores [(0, .int .i64 a_id)] q11.out); have c11 : Hid (d11.ownsRow w.heap.size 30 9 (.slice (some ⟨a10.heap.size, 0, none⟩) 1 1) 1 [.int .i64 a_id, .int .i64 0, .int .i64 0, .int .i64 0, .int .i64 0, .int .i64 0, .int .i64 0, .int .i64 0, .int .i64 0]) := Lib.hid (by rw [← o12]; exact v11.out.1); have e10 : Hid (a11.grownBy d11 (Value.slice (some ⟨a10.heap.size, 0, none⟩) 1 1).ownBlock) := Lib.hid (by rw [← o12]; exact v11.out.2); have d12 := Lib.hid (p12.out.grown e10.out p12.out.size (fun q hq => (q11.out.lt q hq).1)); clear v11; have d19 := cell_other p13 e10.out c10.out; have b20 := cell_other v16 e10.out c10.out; have t16 := cell_other e17 e10.out c10.out; have f13 := cell_other i18 e10.out c10.out; have r13 := cell_other r15 e10.out c10.out; have n13 := cell_other p16 e10.out c10.out; have q20 := cell_other t13 e10.out c10.out; have h16 := cell_other m21 e10.out c10.out; have t19 := cell_other k13 e10.out c10.out; have d15 := cell_other q21 e10.out b10.out; have w16 := cell_other v17 e10.out b10.out; have g18 := cell_other v15 e10.out b10.out; have w14 := cell_other i13 e10.out b10.out; have i19 := cell_other f17 e10.out b10.out; have d13 := cell_other g20 e10.out b10.out; have c20 := cell_other t20 e10.out b10.out; have l14 := cell_other a17 e10.out b10.out; have k21 := cell_other e15 e10.out b10.out; replace Ot_1 := Lib.hid (own_other Ot_1.out e10.out b10.out); clear q11 e10; have a22 : d11.cell? ⟨a10.heap.size, 0, none⟩ = some (.int .i64 a_id) := c11.out.cells rfl 0 _ rfl; have t22 : d11.cell? ⟨a10.heap.size, 1, none⟩ = some (.int .i64 0) := c11.out.cells rfl 1 _ rfl; have g26 : d11.cell? ⟨a10.heap.size, 2, none⟩ = some (.int .i64 0) := c11.out.cells rfl 2 _ rfl; have c25 : d11.cell? ⟨a10.heap.size, 3, none⟩ = some (.int .i64 0) := c11.out.cells rfl 3 _ rfl
 have b22 : d11.cell? ⟨a10.heap.size, 4, none⟩ = some (.int .i64 0) := c11.out.cells rfl 4 _ rfl; have d25 : d11.cell? ⟨a10.heap.size, 5, none⟩ = some (.int .i64 0) := c11.out.cells rfl 5 _ rfl; have r21 : d11.cell? ⟨a10.heap.size, 6, none⟩ = some (.int .i64 0) := c11.out.cells rfl 6 _ rfl; have v23 : d11.cell? ⟨a10.heap.size, 7, none⟩ = some (.int .i64 0) := c11.out.cells rfl 7 _ rfl; have k24 : d11.cell? ⟨a10.heap.size, 8, none⟩ = some (.int .i64 0) := c11.out.cells rfl 8 _ rfl; obtain ⟨z10, a13⟩ : ∃ x, (d11).setCell ⟨a10.heap.size, 1, none⟩ (.int .i64 a_day) = x := ⟨_, rfl⟩; have j22 := c11.out.frozenAt 1; have y11 := Lib.hid (own_stores [(1, .int .i64 a_day)] c11.out); have p10 : Hid (z10.ownsRow w.heap.size 30 9 (.slice (some ⟨a10.heap.size, 0, none⟩) 1 1) 1 [.int .i64 a_id, .int .i64 a_day, .int .i64 0, .int .i64 0, .int .i64 0, .int .i64 0, .int .i64 0, .int .i64 0, .int .i64 0]) := Lib.hid (by rw [← a13]; exact y11.out.1); have i10 : Hid (d11.grownBy z10 (Value.slice (some ⟨a10.heap.size, 0, none⟩) 1 1).ownBlock) := Lib.hid (by rw [← a13]; exact y11.out.2); have i12 := Lib.hid (d12.out.grown i10.out d12.out.size (fun q hq => (c11.out.lt q hq).1)); clear y11; have z13 := cell_other d19 i10.out c10.out; have i14 := cell_other b20 i10.out c10.out; have x19 := cell_other t16 i10.out c10.out; have b14 := cell_other f13 i10.out c10.out; have i15 := cell_other r13 i10.out c10.out; have l15 := cell_other n13 i10.out c10.out; have j14 := cell_other q20 i10.out c10.out; have y19 := cell_other h16 i10.out c10.out; have m18 := cell_other t19 i10.out c10.out; have f18 := cell_other d15 i10.out b10.out; have s18 := cell_other w16 i10.out b10.out; have g16 := cell_other g18 i10.out b10.out; have d14 := cell_other w14 i10.out b10.out; have q16 := cell_other i19 i10.out b10.out; have i17 := cell_other d13 i10.out b10.out; have x17 := cell_other c20 i10.out b10.out; have y18 := cell_other l14 i10.out b10.out; have h20 := cell_other k21 i10.out b10.out; replace Ot_1 := Lib.hid (own_other Ot_1.out i10.out b10.out); clear c11 i10; have o26 : z10.cell? ⟨a10.heap.size, 0, none⟩ = some (.int .i64 a_id) := p10.out.cells rfl 0 _ rfl; have f25 : z10.cell? ⟨a10.heap.size, 1, none⟩ = some (.int .i64 a_day) := p10.out.cells rfl 1 _ rfl; have j26 : z10.cell? ⟨a10.heap.size, 2, none⟩ = some (.int .i64 0) := p10.out.cells rfl 2 _ rfl; have d23 : z10.cell? ⟨a10.heap.size, 3, none⟩ = some (.int .i64 0) := p10.out.cells rfl 3 _ rfl; have p24 : z10.cell? ⟨a10.heap.size, 4, none⟩ = some (.int .i64 0) := p10.out.cells rfl 4 _ rfl; have m24 : z10.cell? ⟨a10.heap.size, 5, none⟩ = some (.int .i64 0) := p10.out.cells rfl 5 _ rfl; have m22 : z10.cell? ⟨a10.heap.size, 6, none⟩ = some (.int .i64 0) := p10.out.cells rfl 6 _ rfl; have l26 : z10.cell? ⟨a10.heap.size, 7, none⟩ = some (.int .i64 0) := p10.out.cells rfl 7 _ rfl; have v24 : z10.cell? ⟨a10.heap.size, 8, none⟩ = some (.int .i64 0) := p10.out.cells rfl 8 _ rfl; obtain ⟨r10, l12⟩ : ∃ x, (z10).setCell ⟨a10.heap.size, 2, none⟩ (.int .i64 a_zone) = x := ⟨_, rfl⟩; have k22 := p10.out.frozenAt 2; have b12 := Lib.hid (own_stores [(2, .int .i64 a_zone)] p10.out); have e11 : Hid (r10.ownsRow w.heap.size 30 9 (.slice (some ⟨a10.heap.size, 0, none⟩) 1 1) 1 [.int .i64 a_id, .int .i64 a_day, .int .i64 a_zone, .int .i64 0, .int .i64 0, .int .i64 0, .int .i64 0, .int .i64 0, .int .i64 0]) := Lib.hid (by rw [← l12]; exact b12.out.1); have h10 : Hid (z10.grownBy r10 (Value.slice (some ⟨a10.heap.size, 0, none⟩) 1 1).ownBlock) := Lib.hid (by rw [← l12]; exact b12.out.2); have z12 := Lib.hid (i12.out.grown h10.out i12.out.size (fun q hq => (p10.out.lt q hq).1)); clear b12; have v19 := cell_other z13 h10.out c10.out; have g17 := cell_other i14 h10.out c10.out; have l18 := cell_other x19 h10.out c10.out; have a21 := cell_other b14 h10.out c10.out; have p21 := cell_other i15 h10.out c10.out; have q14 := cell_other l15 h10.out c10.out
 have f15 := cell_other j14 h10.out c10.out; have d18 := cell_other y19 h10.out c10.out; have o15 := cell_other m18 h10.out c10.out; have d17 := cell_other f18 h10.out b10.out; have k16 := cell_other s18 h10.out b10.out; have l16 := cell_other g16 h10.out b10.out; have n20 := cell_other d14 h10.out b10.out; have b16 := cell_other q16 h10.out b10.out; have b17 := cell_other i17 h10.out b10.out; have j18 := cell_other x17 h10.out b10.out; have m16 := cell_other y18 h10.out b10.out; have y14 := cell_other h20 h10.out b10.out; replace Ot_1 := Lib.hid (own_other Ot_1.out h10.out b10.out); clear p10 h10; have l23 : r10.cell? ⟨a10.heap.size, 0, none⟩ = some (.int .i64 a_id) := e11.out.cells rfl 0 _ rfl; have c22 : r10.cell? ⟨a10.heap.size, 1, none⟩ = some (.int .i64 a_day) := e11.out.cells rfl 1 _ rfl; have d26 : r10.cell? ⟨a10.heap.size, 2, none⟩ = some (.int .i64 a_zone) := e11.out.cells rfl 2 _ rfl; have w23 : r10.cell? ⟨a10.heap.size, 3, none⟩ = some (.int .i64 0) := e11.out.cells rfl 3 _ rfl; have f23 : r10.cell? ⟨a10.heap.size, 4, none⟩ = some (.int .i64 0) := e11.out.cells rfl 4 _ rfl; have l24 : r10.cell? ⟨a10.heap.size, 5, none⟩ = some (.int .i64 0) := e11.out.cells rfl 5 _ rfl; have c24 : r10.cell? ⟨a10.heap.size, 6, none⟩ = some (.int .i64 0) := e11.out.cells rfl 6 _ rfl; have t23 : r10.cell? ⟨a10.heap.size, 7, none⟩ = some (.int .i64 0) := e11.out.cells rfl 7 _ rfl; have a24 : r10.cell? ⟨a10.heap.size, 8, none⟩ = some (.int .i64 0) := e11.out.cells rfl 8 _ rfl; obtain ⟨g11, f12⟩ : ∃ x, (r10).setCell ⟨a10.heap.size, 3, none⟩ (.int .i64 a_grams) = x := ⟨_, rfl⟩; have j23 := e11.out.frozenAt 3; have t11 := Lib.hid (own_stores [(3, .int .i64 a_grams)] e11.out); have y10 : Hid (g11.ownsRow w.heap.size 30 9 (.slice (some ⟨a10.heap.size, 0, none⟩) 1 1) 1 [.int .i64 a_id, .int .i64 a_day, .int .i64 a_zone, .int .i64 a_grams, .int .i64 0, .int .i64 0, .int .i64 0, .int .i64 0, .int .i64 0]) := Lib.hid (by rw [← f12]; exact t11.out.1); have g10 : Hid (r10.grownBy g11 (Value.slice (some ⟨a10.heap.size, 0, none⟩) 1 1).ownBlock) := Lib.hid (by rw [← f12]; exact t11.out.2); have q12 := Lib.hid (z12.out.grown g10.out z12.out.size (fun q hq => (e11.out.lt q hq).1)); clear t11; have j13 := cell_other v19 g10.out c10.out; have a19 := cell_other g17 g10.out c10.out; have c17 := cell_other l18 g10.out c10.out; have m19 := cell_other a21 g10.out c10.out; have g21 := cell_other p21 g10.out c10.out; have e20 := cell_other q14 g10.out c10.out; have k19 := cell_other f15 g10.out c10.out; have m20 := cell_other d18 g10.out c10.out; have b21 := cell_other o15 g10.out c10.out; have m17 := cell_other d17 g10.out b10.out; have o17 := cell_other k16 g10.out b10.out; have c21 := cell_other l16 g10.out b10.out; have q19 := cell_other n20 g10.out b10.out; have a14 := cell_other b16 g10.out b10.out; have c15 := cell_other b17 g10.out b10.out; have q18 := cell_other j18 g10.out b10.out; have x20 := cell_other m16 g10.out b10.out; have y13 := cell_other y14 g10.out b10.out; replace Ot_1 := Lib.hid (own_other Ot_1.out g10.out b10.out); clear e11 g10; have i25 : g11.cell? ⟨a10.heap.size, 0, none⟩ = some (.int .i64 a_id) := y10.out.cells rfl 0 _ rfl; have x24 : g11.cell? ⟨a10.heap.size, 1, none⟩ = some (.int .i64 a_day) := y10.out.cells rfl 1 _ rfl; have o24 : g11.cell? ⟨a10.heap.size, 2, none⟩ = some (.int .i64 a_zone) := y10.out.cells rfl 2 _ rfl; have g22 : g11.cell? ⟨a10.heap.size, 3, none⟩ = some (.int .i64 a_grams) := y10.out.cells rfl 3 _ rfl; have y22 : g11.cell? ⟨a10.heap.size, 4, none⟩ = some (.int .i64 0) := y10.out.cells rfl 4 _ rfl; have n26 : g11.cell? ⟨a10.heap.size, 5, none⟩ = some (.int .i64 0) := y10.out.cells rfl 5 _ rfl; have s25 : g11.cell? ⟨a10.heap.size, 6, none⟩ = some (.int .i64 0) := y10.out.cells rfl 6 _ rfl; have a23 : g11.cell? ⟨a10.heap.size, 7, none⟩ = some (.int .i64 0) := y10.out.cells rfl 7 _ rfl; have s21 : g11.cell? ⟨a10.heap.size, 8, none⟩ = some (.int .i64 0) := y10.out.cells rfl 8 _ rfl
 obtain ⟨x10, b13⟩ : ∃ x, (g11).setCell ⟨a10.heap.size, 4, none⟩ (.int .i64 a_paid) = x := ⟨_, rfl⟩; have y25 := y10.out.frozenAt 4; have s11 := Lib.hid (own_stores [(4, .int .i64 a_paid)] y10.out); have v10 : Hid (x10.ownsRow w.heap.size 30 9 (.slice (some ⟨a10.heap.size, 0, none⟩) 1 1) 1 [.int .i64 a_id, .int .i64 a_day, .int .i64 a_zone, .int .i64 a_grams, .int .i64 a_paid, .int .i64 0, .int .i64 0, .int .i64 0, .int .i64 0]) := Lib.hid (by rw [← b13]; exact s11.out.1); have k10 : Hid (g11.grownBy x10 (Value.slice (some ⟨a10.heap.size, 0, none⟩) 1 1).ownBlock) := Lib.hid (by rw [← b13]; exact s11.out.2); have y12 := Lib.hid (q12.out.grown k10.out q12.out.size (fun q hq => (y10.out.lt q hq).1)); clear s11; have e16 := cell_other j13 k10.out c10.out; have c18 := cell_other a19 k10.out c10.out; have d21 := cell_other c17 k10.out c10.out; have h19 := cell_other m19 k10.out c10.out; have l17 := cell_other g21 k10.out c10.out; have r17 := cell_other e20 k10.out c10.out; have t18 := cell_other k19 k10.out c10.out; have s15 := cell_other m20 k10.out c10.out; have x18 := cell_other b21 k10.out c10.out; have q13 := cell_other m17 k10.out b10.out; have g13 := cell_other o17 k10.out b10.out; have y17 := cell_other c21 k10.out b10.out; have w19 := cell_other q19 k10.out b10.out; have s19 := cell_other a14 k10.out b10.out; have o16 := cell_other c15 k10.out b10.out; have t15 := cell_other q18 k10.out b10.out; have v13 := cell_other x20 k10.out b10.out; have x15 := cell_other y13 k10.out b10.out; replace Ot_1 := Lib.hid (own_other Ot_1.out k10.out b10.out); clear y10 k10; have e24 : x10.cell? ⟨a10.heap.size, 0, none⟩ = some (.int .i64 a_id) := v10.out.cells rfl 0 _ rfl; have b24 : x10.cell? ⟨a10.heap.size, 1, none⟩ = some (.int .i64 a_day) := v10.out.cells rfl 1 _ rfl; have q22 : x10.cell? ⟨a10.heap.size, 2, none⟩ = some (.int .i64 a_zone) := v10.out.cells rfl 2 _ rfl; have k26 : x10.cell? ⟨a10.heap.size, 3, none⟩ = some (.int .i64 a_grams) := v10.out.cells rfl 3 _ rfl; have h24 : x10.cell? ⟨a10.heap.size, 4, none⟩ = some (.int .i64 a_paid) := v10.out.cells rfl 4 _ rfl; have a25 : x10.cell? ⟨a10.heap.size, 5, none⟩ = some (.int .i64 0) := v10.out.cells rfl 5 _ rfl; have y21 : x10.cell? ⟨a10.heap.size, 6, none⟩ = some (.int .i64 0) := v10.out.cells rfl 6 _ rfl; have w25 : x10.cell? ⟨a10.heap.size, 7, none⟩ = some (.int .i64 0) := v10.out.cells rfl 7 _ rfl; have y23 : x10.cell? ⟨a10.heap.size, 8, none⟩ = some (.int .i64 0) := v10.out.cells rfl 8 _ rfl; obtain ⟨f11, c13⟩ : ∃ x, (x10).setCell ⟨a10.heap.size, 5, none⟩ (.int .i64 a_from_) = x := ⟨_, rfl⟩; have g23 := v10.out.frozenAt 5; have r11 := Lib.hid (own_stores [(5, .int .i64 a_from_)] v10.out); have h11 : Hid (f11.ownsRow w.heap.size 30 9 (.slice (some ⟨a10.heap.size, 0, none⟩) 1 1) 1 [.int .i64 a_id, .int .i64 a_day, .int .i64 a_zone, .int .i64 a_grams, .int .i64 a_paid, .int .i64 a_from_, .int .i64 0, .int .i64 0, .int .i64 0]) := Lib.hid (by rw [← c13]; exact r11.out.1); have o10 : Hid (x10.grownBy f11 (Value.slice (some ⟨a10.heap.size, 0, none⟩) 1 1).ownBlock) := Lib.hid (by rw [← c13]; exact r11.out.2); have c12 := Lib.hid (y12.out.grown o10.out y12.out.size (fun q hq => (v10.out.lt q hq).1)); clear r11; have p17 := cell_other e16 o10.out c10.out; have w20 := cell_other c18 o10.out c10.out; have o13 := cell_other d21 o10.out c10.out; have d20 := cell_other h19 o10.out c10.out; have y15 := cell_other l17 o10.out c10.out; have g19 := cell_other r17 o10.out c10.out; have a20 := cell_other t18 o10.out c10.out; have n15 := cell_other s15 o10.out c10.out; have g15 := cell_other x18 o10.out c10.out; have d16 := cell_other q13 o10.out b10.out; have v20 := cell_other g13 o10.out b10.out; have c16 := cell_other y17 o10.out b10.out; have l20 := cell_other w19 o10.out b10.out; have x14 := cell_other s19 o10.out b10.out; have e13 := cell_other o16 o10.out b10.out; have i16 := cell_other t15 o10.out b10.out; have h13 := cell_other v13 o10.out b10.out
 have s14 := cell_other x15 o10.out b10.out; replace Ot_1 := Lib.hid (own_other Ot_1.out o10.out b10.out); clear v10 o10; have o23 : f11.cell? ⟨a10.heap.size, 0, none⟩ = some (.int .i64 a_id) := h11.out.cells rfl 0 _ rfl; have h26 : f11.cell? ⟨a10.heap.size, 1, none⟩ = some (.int .i64 a_day) := h11.out.cells rfl 1 _ rfl; have z23 : f11.cell? ⟨a10.heap.size, 2, none⟩ = some (.int .i64 a_zone) := h11.out.cells rfl 2 _ rfl; have n24 : f11.cell? ⟨a10.heap.size, 3, none⟩ = some (.int .i64 a_grams) := h11.out.cells rfl 3 _ rfl; have e25 : f11.cell? ⟨a10.heap.size, 4, none⟩ = some (.int .i64 a_paid) := h11.out.cells rfl 4 _ rfl; have r24 : f11.cell? ⟨a10.heap.size, 5, none⟩ = some (.int .i64 a_from_) := h11.out.cells rfl 5 _ rfl; have h23 : f11.cell? ⟨a10.heap.size, 6, none⟩ = some (.int .i64 0) := h11.out.cells rfl 6 _ rfl; have f24 : f11.cell? ⟨a10.heap.size, 7, none⟩ = some (.int .i64 0) := h11.out.cells rfl 7 _ rfl; have t25 : f11.cell? ⟨a10.heap.size, 8, none⟩ = some (.int .i64 0) := h11.out.cells rfl 8 _ rfl; obtain ⟨w10, e12⟩ : ∃ x, (f11).setCell ⟨a10.heap.size, 6, none⟩ (.int .i64 a_to_) = x := ⟨_, rfl⟩; have c26 := h11.out.frozenAt 6; have z11 := Lib.hid (own_stores [(6, .int .i64 a_to_)] h11.out); have s10 : Hid (w10.ownsRow w.heap.size 30 9 (.slice (some ⟨a10.heap.size, 0, none⟩) 1 1) 1 [.int .i64 a_id, .int .i64 a_day, .int .i64 a_zone, .int .i64 a_grams, .int .i64 a_paid, .int .i64 a_from_, .int .i64 a_to_, .int .i64 0, .int .i64 0]) := Lib.hid (by rw [← e12]; exact z11.out.1); have m10 : Hid (f11.grownBy w10 (Value.slice (some ⟨a10.heap.size, 0, none⟩) 1 1).ownBlock) := Lib.hid (by rw [← e12]; exact z11.out.2); have j12 := Lib.hid (c12.out.grown m10.out c12.out.size (fun q hq => (h11.out.lt q hq).1)); clear z11; have r20 := cell_other p17 m10.out c10.out; have n16 := cell_other w20 m10.out c10.out; have z20 := cell_other o13 m10.out c10.out; have r16 := cell_other d20 m10.out c10.out; have j19 := cell_other y15 m10.out c10.out; have i21 := cell_other g19 m10.out c10.out; have b19 := cell_other a20 m10.out c10.out; have p14 := cell_other n15 m10.out c10.out; have v14 := cell_other g15 m10.out c10.out; have e19 := cell_other d16 m10.out b10.out; have j17 := cell_other v20 m10.out b10.out; have r14 := cell_other c16 m10.out b10.out; have z15 := cell_other l20 m10.out b10.out; have b18 := cell_other x14 m10.out b10.out; have s17 := cell_other e13 m10.out b10.out; have z17 := cell_other i16 m10.out b10.out; have r19 := cell_other h13 m10.out b10.out; have o18 := cell_other s14 m10.out b10.out; replace Ot_1 := Lib.hid (own_other Ot_1.out m10.out b10.out); clear h11 m10; have h25 : w10.cell? ⟨a10.heap.size, 0, none⟩ = some (.int .i64 a_id) := s10.out.cells rfl 0 _ rfl; have z22 : w10.cell? ⟨a10.heap.size, 1, none⟩ = some (.int .i64 a_day) := s10.out.cells rfl 1 _ rfl; have e23 : w10.cell? ⟨a10.heap.size, 2, none⟩ = some (.int .i64 a_zone) := s10.out.cells rfl 2 _ rfl; have n22 : w10.cell? ⟨a10.heap.size, 3, none⟩ = some (.int .i64 a_grams) := s10.out.cells rfl 3 _ rfl; have p26 : w10.cell? ⟨a10.heap.size, 4, none⟩ = some (.int .i64 a_paid) := s10.out.cells rfl 4 _ rfl; have x21 : w10.cell? ⟨a10.heap.size, 5, none⟩ = some (.int .i64 a_from_) := s10.out.cells rfl 5 _ rfl; have b23 : w10.cell? ⟨a10.heap.size, 6, none⟩ = some (.int .i64 a_to_) := s10.out.cells rfl 6 _ rfl; have i26 : w10.cell? ⟨a10.heap.size, 7, none⟩ = some (.int .i64 0) := s10.out.cells rfl 7 _ rfl; have z24 : w10.cell? ⟨a10.heap.size, 8, none⟩ = some (.int .i64 0) := s10.out.cells rfl 8 _ rfl; obtain ⟨t10, g12⟩ : ∃ x, (w10).setCell ⟨a10.heap.size, 7, none⟩ (.int .i64 a_leave) = x := ⟨_, rfl⟩; have m26 := s10.out.frozenAt 7; have x11 := Lib.hid (own_stores [(7, .int .i64 a_leave)] s10.out); have b11 : Hid (t10.ownsRow w.heap.size 30 9 (.slice (some ⟨a10.heap.size, 0, none⟩) 1 1) 1 [.int .i64 a_id, .int .i64 a_day, .int .i64 a_zone, .int .i64 a_grams, .int .i64 a_paid, .int .i64 a_from_, .int .i64 a_to_, .int .i64 a_leave, .int .i64 0]) := Lib.hid (by rw [← g12]; exact x11.out.1)
 have f10 : Hid (w10.grownBy t10 (Value.slice (some ⟨a10.heap.size, 0, none⟩) 1 1).ownBlock) := Lib.hid (by rw [← g12]; exact x11.out.2); have r12 := Lib.hid (j12.out.grown f10.out j12.out.size (fun q hq => (s10.out.lt q hq).1)); clear x11; have h21 := cell_other r20 f10.out c10.out; have p20 := cell_other n16 f10.out c10.out; have j15 := cell_other z20 f10.out c10.out; have f21 := cell_other r16 f10.out c10.out; have o14 := cell_other j19 f10.out c10.out; have h17 := cell_other i21 f10.out c10.out; have s16 := cell_other b19 f10.out c10.out; have s20 := cell_other p14 f10.out c10.out; have c19 := cell_other v14 f10.out c10.out; have m13 := cell_other e19 f10.out b10.out; have j21 := cell_other j17 f10.out b10.out; have w15 := cell_other r14 f10.out b10.out; have k20 := cell_other z15 f10.out b10.out; have w17 := cell_other b18 f10.out b10.out; have x16 := cell_other s17 f10.out b10.out; have t14 := cell_other z17 f10.out b10.out; have l21 := cell_other r19 f10.out b10.out; have n19 := cell_other o18 f10.out b10.out; replace Ot_1 := Lib.hid (own_other Ot_1.out f10.out b10.out); clear s10 f10; have q26 : t10.cell? ⟨a10.heap.size, 0, none⟩ = some (.int .i64 a_id) := b11.out.cells rfl 0 _ rfl; have z21 : t10.cell? ⟨a10.heap.size, 1, none⟩ = some (.int .i64 a_day) := b11.out.cells rfl 1 _ rfl; have p25 : t10.cell? ⟨a10.heap.size, 2, none⟩ = some (.int .i64 a_zone) := b11.out.cells rfl 2 _ rfl; have x25 : t10.cell? ⟨a10.heap.size, 3, none⟩ = some (.int .i64 a_grams) := b11.out.cells rfl 3 _ rfl; have m25 : t10.cell? ⟨a10.heap.size, 4, none⟩ = some (.int .i64 a_paid) := b11.out.cells rfl 4 _ rfl; have t21 : t10.cell? ⟨a10.heap.size, 5, none⟩ = some (.int .i64 a_from_) := b11.out.cells rfl 5 _ rfl; have s24 : t10.cell? ⟨a10.heap.size, 6, none⟩ = some (.int .i64 a_to_) := b11.out.cells rfl 6 _ rfl; have f22 : t10.cell? ⟨a10.heap.size, 7, none⟩ = some (.int .i64 a_leave) := b11.out.cells rfl 7 _ rfl; have o25 : t10.cell? ⟨a10.heap.size, 8, none⟩ = some (.int .i64 0) := b11.out.cells rfl 8 _ rfl; obtain ⟨q10, m12⟩ : ∃ x, (t10).setCell ⟨a10.heap.size, 8, none⟩ (.int .i64 a_arrive) = x := ⟨_, rfl⟩; have z25 := b11.out.frozenAt 8; have a12 := Lib.hid (own_stores [(8, .int .i64 a_arrive)] b11.out); have l11 : Hid (q10.ownsRow w.heap.size 30 9 (.slice (some ⟨a10.heap.size, 0, none⟩) 1 1) 1 [.int .i64 a_id, .int .i64 a_day, .int .i64 a_zone, .int .i64 a_grams, .int .i64 a_paid, .int .i64 a_from_, .int .i64 a_to_, .int .i64 a_leave, .int .i64 a_arrive]) := Lib.hid (by rw [← m12]; exact a12.out.1); have n10 : Hid (t10.grownBy q10 (Value.slice (some ⟨a10.heap.size, 0, none⟩) 1 1).ownBlock) := Lib.hid (by rw [← m12]; exact a12.out.2); have x12 := Lib.hid (r12.out.grown n10.out r12.out.size (fun q hq => (b11.out.lt q hq).1)); clear a12; have e21 := cell_other h21 n10.out c10.out; have w13 := cell_other p20 n10.out c10.out; have z16 := cell_other j15 n10.out c10.out; have t17 := cell_other f21 n10.out c10.out; have y20 := cell_other o14 n10.out c10.out; have n14 := cell_other h17 n10.out c10.out; have k17 := cell_other s16 n10.out c10.out; have m15 := cell_other s20 n10.out c10.out; have n18 := cell_other c19 n10.out c10.out; have k25 := cell_other m13 n10.out b10.out; have e22 := cell_other j21 n10.out b10.out; have d22 := cell_other w15 n10.out b10.out; have w22 := cell_other k20 n10.out b10.out; have q24 := cell_other w17 n10.out b10.out; have i23 := cell_other x16 n10.out b10.out; have p22 := cell_other t14 n10.out b10.out; have f26 := cell_other l21 n10.out b10.out; have r22 := cell_other n19 n10.out b10.out; replace Ot_1 := Lib.hid (own_other Ot_1.out n10.out b10.out); clear b11 n10; have f20 : q10.cell? ⟨a10.heap.size, 0, none⟩ = some (.int .i64 a_id) := l11.out.cells rfl 0 _ rfl; have o19 : q10.cell? ⟨a10.heap.size, 1, none⟩ = some (.int .i64 a_day) := l11.out.cells rfl 1 _ rfl; have l19 : q10.cell? ⟨a10.heap.size, 2, none⟩ = some (.int .i64 a_zone) := l11.out.cells rfl 2 _ rfl
 have v18 : q10.cell? ⟨a10.heap.size, 3, none⟩ = some (.int .i64 a_grams) := l11.out.cells rfl 3 _ rfl; have f19 : q10.cell? ⟨a10.heap.size, 4, none⟩ = some (.int .i64 a_paid) := l11.out.cells rfl 4 _ rfl; have x13 : q10.cell? ⟨a10.heap.size, 5, none⟩ = some (.int .i64 a_from_) := l11.out.cells rfl 5 _ rfl; have a18 : q10.cell? ⟨a10.heap.size, 6, none⟩ = some (.int .i64 a_to_) := l11.out.cells rfl 6 _ rfl; have e14 : q10.cell? ⟨a10.heap.size, 7, none⟩ = some (.int .i64 a_leave) := l11.out.cells rfl 7 _ rfl; have z18 : q10.cell? ⟨a10.heap.size, 8, none⟩ = some (.int .i64 a_arrive) := l11.out.cells rfl 8 _ rfl; obtain ⟨m11, s12⟩ : ∃ x, (((((((((q10).setCell ⟨d10.heap.size, 0, none⟩ (.int .i64 a_id)).setCell ⟨d10.heap.size, 1, none⟩ (.int .i64 a_day)).setCell ⟨d10.heap.size, 2, none⟩ (.int .i64 a_zone)).setCell ⟨d10.heap.size, 3, none⟩ (.int .i64 a_grams)).setCell ⟨d10.heap.size, 4, none⟩ (.int .i64 a_paid)).setCell ⟨d10.heap.size, 5, none⟩ (.int .i64 a_from_)).setCell ⟨d10.heap.size, 6, none⟩ (.int .i64 a_to_)).setCell ⟨d10.heap.size, 7, none⟩ (.int .i64 a_leave)).setCell ⟨d10.heap.size, 8, none⟩ (.int .i64 a_arrive) = x := ⟨_, rfl⟩; have a26 := Ot_1.out.frozenAt 0; have x22 := Ot_1.out.frozenAt 1; have v21 := Ot_1.out.frozenAt 2; have j25 := Ot_1.out.frozenAt 3; have q25 := Ot_1.out.frozenAt 4; have o22 := Ot_1.out.frozenAt 5; have y24 := Ot_1.out.frozenAt 6; have i24 := Ot_1.out.frozenAt 7; have w21 := Ot_1.out.frozenAt 8; have w11 := Lib.hid (own_stores [(0, .int .i64 a_id), (1, .int .i64 a_day), (2, .int .i64 a_zone), (3, .int .i64 a_grams), (4, .int .i64 a_paid), (5, .int .i64 a_from_), (6, .int .i64 a_to_), (7, .int .i64 a_leave), (8, .int .i64 a_arrive)] Ot_1.out); have p11 : Hid (m11.ownsRow w.heap.size 30 9 (.slice (some ⟨d10.heap.size, 0, none⟩) 1 1) 1 [.int .i64 a_id, .int .i64 a_day, .int .i64 a_zone, .int .i64 a_grams, .int .i64 a_paid, .int .i64 a_from_, .int .i64 a_to_, .int .i64 a_leave, .int .i64 a_arrive]) := Lib.hid (by rw [← s12]; exact w11.out.1); have j10 : Hid (q10.grownBy m11 (Value.slice (some ⟨d10.heap.size, 0, none⟩) 1 1).ownBlock) := Lib.hid (by rw [← s12]; exact w11.out.2); have q15 := Lib.hid (x12.out.grown j10.out x12.out.size (fun q hq => (Ot_1.out.lt q hq).1)); clear w11; have e26 := cell_other e21 j10.out o11.out; have q23 := cell_other w13 j10.out o11.out; have l22 := cell_other z16 j10.out o11.out; have m23 := cell_other t17 j10.out o11.out; have r26 := cell_other y20 j10.out o11.out; have d24 := cell_other n14 j10.out o11.out; have r25 := cell_other k17 j10.out o11.out; have t24 := cell_other m15 j10.out o11.out; have i22 := cell_other n18 j10.out o11.out; have h22 := cell_other f20 j10.out (Apart.symm b10.out); have r23 := cell_other o19 j10.out (Apart.symm b10.out); have b25 := cell_other l19 j10.out (Apart.symm b10.out); have s23 := cell_other v18 j10.out (Apart.symm b10.out); have b26 := cell_other f19 j10.out (Apart.symm b10.out); have w24 := cell_other x13 j10.out (Apart.symm b10.out); have g24 := cell_other a18 j10.out (Apart.symm b10.out); have v25 := cell_other e14 j10.out (Apart.symm b10.out); have x23 := cell_other z18 j10.out (Apart.symm b10.out); replace l11 := Lib.hid (own_other l11.out j10.out (Apart.symm b10.out)); clear Ot_1 j10; have y16 : m11.cell? ⟨d10.heap.size, 0, none⟩ = some (.int .i64 a_id) := p11.out.cells rfl 0 _ rfl; have h14 : m11.cell? ⟨d10.heap.size, 1, none⟩ = some (.int .i64 a_day) := p11.out.cells rfl 1 _ rfl; have p18 : m11.cell? ⟨d10.heap.size, 2, none⟩ = some (.int .i64 a_zone) := p11.out.cells rfl 2 _ rfl; have h18 : m11.cell? ⟨d10.heap.size, 3, none⟩ = some (.int .i64 a_grams) := p11.out.cells rfl 3 _ rfl; have j20 : m11.cell? ⟨d10.heap.size, 4, none⟩ = some (.int .i64 a_paid) := p11.out.cells rfl 4 _ rfl; have o20 : m11.cell? ⟨d10.heap.size, 5, none⟩ = some (.int .i64 a_from_) := p11.out.cells rfl 5 _ rfl; have g14 : m11.cell? ⟨d10.heap.size, 6, none⟩ = some (.int .i64 a_to_) := p11.out.cells rfl 6 _ rfl
 have f16 : m11.cell? ⟨d10.heap.size, 7, none⟩ = some (.int .i64 a_leave) := p11.out.cells rfl 7 _ rfl; have z19 : m11.cell? ⟨d10.heap.size, 8, none⟩ = some (.int .i64 a_arrive) := p11.out.cells rfl 8 _ rfl; cases ret_hid H; go_wp2_with fail
 (try simp only [Exit.inBlock, Exit.then])
 refine bodyPost_ret (v := .agg #[.int .i64 a_id, .int .i64 a_day, .int .i64 a_zone, .int .i64 a_grams, .int .i64 a_paid, .int .i64 a_from_, .int .i64 a_to_, .int .i64 a_leave, .int .i64 a_arrive]) ?hr_ ?hd_ ?_
 case hd_ => rfl
 case hr_ => simp [results, Try.results18, y16, h14, p18, h18, j20, o20, g14, f16, z19, go_sem]
 exact ⟨rfl, q15.out⟩
end Go.Proofs.Ytihibckijdfidaa.GlToCover

namespace Go.Proofs.Ytihibckijdfidaa.GsL8Zone
open Go.RowKit
open Go.Proofs.Ytihibckijdfidaa.Rowed Go.Proofs.Ytihibckijdfidaa.Turn Go.Proofs.Ytihibckijdfidaa.Aid Go.Proofs.Ytihibckijdfidaa.GoP Go.Proofs.Ytihibckijdfidaa.GoM

def P (zone : Int) : Option (Bool) :=
  Option.bind (Go.Proofs.Ytihibckijdfidaa.GsL1In.P zone 0 9) fun (t_2 : Bool) =>
  some t_2

set_option maxRecDepth 100000 in
set_option maxHeartbeats 2000000 in
theorem C (zone : Int)   (w : World)   {r : Bool} (H : Hid (P zone = some r)) :
    Calls Try.prog 154 #[.int .i64 zone] w (Gives (.bool r) w) := by
  have HB := Lib.hid (Below.refl w.heap.size w)
  unfold P at H
  go_enter Try.func154, Try.ntmps154
  replace H := bind_hid H
  obtain ⟨t_2, qt_2, H⟩ := H
  go_wp2_with fail
  go_at_call 87
  refine (Go.Proofs.Ytihibckijdfidaa.GsL1In.C (zone) (0) (9)  _    qt_2).mono ?_
  rintro e_t_2 wt_2 ⟨rfl, bt_2⟩
  have HBwt_2 := Lib.hid (Below.step HB.out bt_2)
  clear bt_2
  obtain rfl := ret_hid H
  go_wp2_with fail
  go_ret
  exact ⟨rfl, HBwt_2.out⟩
end Go.Proofs.Ytihibckijdfidaa.GsL8Zone

namespace Go.Proofs.Ytihibckijdfidaa.GsL8Grams
open Go.RowKit
open Go.Proofs.Ytihibckijdfidaa.Rowed Go.Proofs.Ytihibckijdfidaa.Turn Go.Proofs.Ytihibckijdfidaa.Aid Go.Proofs.Ytihibckijdfidaa.GoP Go.Proofs.Ytihibckijdfidaa.GoM

def P (grams : Int) : Option (Bool) :=
  Option.bind (Go.Proofs.Ytihibckijdfidaa.GsL1In.P grams 1 2000) fun (t_2 : Bool) =>
  some t_2

set_option maxRecDepth 100000 in
set_option maxHeartbeats 2000000 in
theorem C (grams : Int)   (w : World)   {r : Bool} (H : Hid (P grams = some r)) :
    Calls Try.prog 155 #[.int .i64 grams] w (Gives (.bool r) w) := by
  have HB := Lib.hid (Below.refl w.heap.size w)
  unfold P at H
  go_enter Try.func155, Try.ntmps155
  replace H := bind_hid H
  obtain ⟨t_2, qt_2, H⟩ := H
  go_wp2_with fail
  go_at_call 87
  refine (Go.Proofs.Ytihibckijdfidaa.GsL1In.C (grams) (1) (2000)  _    qt_2).mono ?_
  rintro e_t_2 wt_2 ⟨rfl, bt_2⟩
  have HBwt_2 := Lib.hid (Below.step HB.out bt_2)
  clear bt_2
  obtain rfl := ret_hid H
  go_wp2_with fail
  go_ret
  exact ⟨rfl, HBwt_2.out⟩
end Go.Proofs.Ytihibckijdfidaa.GsL8Grams

namespace Go.Proofs.Ytihibckijdfidaa.GsL2Day
open Go.RowKit
open Go.Proofs.Ytihibckijdfidaa.Rowed Go.Proofs.Ytihibckijdfidaa.Turn Go.Proofs.Ytihibckijdfidaa.Aid Go.Proofs.Ytihibckijdfidaa.GoP Go.Proofs.Ytihibckijdfidaa.GoM

def P (d_0 : Int) : Option (Bool) :=
  Option.bind (Go.Proofs.Ytihibckijdfidaa.GsL1In.P d_0 0 4000) fun (t_2 : Bool) =>
  some t_2

set_option maxRecDepth 100000 in
set_option maxHeartbeats 2000000 in
theorem C (d_0 : Int)   (w : World)   {r : Bool} (H : Hid (P d_0 = some r)) :
    Calls Try.prog 153 #[.int .i64 d_0] w (Gives (.bool r) w) := by
  have HB := Lib.hid (Below.refl w.heap.size w)
  unfold P at H
  go_enter Try.func153, Try.ntmps153
  replace H := bind_hid H
  obtain ⟨t_2, qt_2, H⟩ := H
  go_wp2_with fail
  go_at_call 87
  refine (Go.Proofs.Ytihibckijdfidaa.GsL1In.C (d_0) (0) (4000)  _    qt_2).mono ?_
  rintro e_t_2 wt_2 ⟨rfl, bt_2⟩
  have HBwt_2 := Lib.hid (Below.step HB.out bt_2)
  clear bt_2
  obtain rfl := ret_hid H
  go_wp2_with fail
  go_ret
  exact ⟨rfl, HBwt_2.out⟩
end Go.Proofs.Ytihibckijdfidaa.GsL2Day

namespace Go.Proofs.Ytihibckijdfidaa.GsL8Cents
open Go.RowKit
open Go.Proofs.Ytihibckijdfidaa.Rowed Go.Proofs.Ytihibckijdfidaa.Turn Go.Proofs.Ytihibckijdfidaa.Aid Go.Proofs.Ytihibckijdfidaa.GoP Go.Proofs.Ytihibckijdfidaa.GoM

def P (cents : Int) : Option (Bool) :=
  Option.bind (Go.Proofs.Ytihibckijdfidaa.GsL1In.P cents 1 9999) fun (t_2 : Bool) =>
  some t_2

set_option maxRecDepth 100000 in
set_option maxHeartbeats 2000000 in
theorem C (cents : Int)   (w : World)   {r : Bool} (H : Hid (P cents = some r)) :
    Calls Try.prog 156 #[.int .i64 cents] w (Gives (.bool r) w) := by
  have HB := Lib.hid (Below.refl w.heap.size w)
  unfold P at H
  go_enter Try.func156, Try.ntmps156
  replace H := bind_hid H
  obtain ⟨t_2, qt_2, H⟩ := H
  go_wp2_with fail
  go_at_call 87
  refine (Go.Proofs.Ytihibckijdfidaa.GsL1In.C (cents) (1) (9999)  _    qt_2).mono ?_
  rintro e_t_2 wt_2 ⟨rfl, bt_2⟩
  have HBwt_2 := Lib.hid (Below.step HB.out bt_2)
  clear bt_2
  obtain rfl := ret_hid H
  go_wp2_with fail
  go_ret
  exact ⟨rfl, HBwt_2.out⟩
end Go.Proofs.Ytihibckijdfidaa.GsL8Cents

namespace Go.Proofs.Ytihibckijdfidaa.GsL8One
open Go.RowKit
open Go.Proofs.Ytihibckijdfidaa.Rowed Go.Proofs.Ytihibckijdfidaa.Turn Go.Proofs.Ytihibckijdfidaa.Aid Go.Proofs.Ytihibckijdfidaa.GoP Go.Proofs.Ytihibckijdfidaa.GoM

def P (r_0 : PRate.Rate) : Option (Bool) :=
 unRate r_0 fun (r_0_zone : Int) (r_0_grams : Int) (r_0_from_ : Int) (r_0_until_ : Int) (r_0_cents : Int) =>
 Option.bind (GsL8Zone.P r_0_zone) fun (t_4 : Bool) =>
 joinK (fun (t_9 : Bool) =>
 joinK (fun (t_14 : Bool) =>
 joinK (fun (t_21 : Bool) =>
 joinK (fun (t_26 : Bool) =>
 some t_26) fun jt_26 => iteK t_21 (Option.bind (GsL8Cents.P r_0_cents) fun (t_25 : Bool) =>
 appK jt_26 t_25) (appK jt_26 false)) fun jt_21 => iteK t_14 (Option.bind (GsL1In.P r_0_from_ 0 r_0_until_) fun (t_20 : Bool) =>
 appK jt_21 t_20) (appK jt_21 false)) fun jt_14 => iteK t_9 (Option.bind (GsL2Day.P r_0_until_) fun (t_13 : Bool) =>
 appK jt_14 t_13) (appK jt_14 false)) fun jt_9 => iteK t_4 (Option.bind (GsL8Grams.P r_0_grams) fun (t_8 : Bool) =>
 appK jt_9 t_8) (appK jt_9 false)

set_option maxRecDepth 100000 in
set_option maxHeartbeats 2000000 in
theorem C (r_0 : PRate.Rate)   (w : World)   {r : Bool} (H : Hid (P r_0 = some r)) :
  Calls Try.prog 151 #[r_0.val] w (Gives (.bool r) w) := by
 have HB := Lib.hid (Below.refl w.heap.size w); unfold P at H; obtain ⟨m10, l10, n10, k10, o10⟩ := r_0; replace H := unRate_hid H; unfold PRate.Rate.val
 go_enter Try.func151, Try.ntmps151
 obtain ⟨i10, j10⟩ : ∃ x, w.alloc (.cells #[.int .i64 m10, .int .i64 l10, .int .i64 n10, .int .i64 k10, .int .i64 o10] 120) = x := ⟨_, rfl⟩; have s10 : Below w.heap.size w i10 := (by rw [← j10]; exact (Below.refl _ _).alloc (Nat.le_refl _) _); have v10 := Lib.hid (Below.step HB.out s10); clear s10; have e10 : i10.cell? ⟨w.heap.size, 0, none⟩ = some (.int .i64 m10) := (by rw [← j10]; exact box_new _ _ _ 0 _ rfl); have b10 : i10.cell? ⟨w.heap.size, 1, none⟩ = some (.int .i64 l10) := (by rw [← j10]; exact box_new _ _ _ 1 _ rfl); have c10 : i10.cell? ⟨w.heap.size, 2, none⟩ = some (.int .i64 n10) := (by rw [← j10]; exact box_new _ _ _ 2 _ rfl); have a10 : i10.cell? ⟨w.heap.size, 3, none⟩ = some (.int .i64 k10) := (by rw [← j10]; exact box_new _ _ _ 3 _ rfl); have d10 : i10.cell? ⟨w.heap.size, 4, none⟩ = some (.int .i64 o10) := (by rw [← j10]; exact box_new _ _ _ 4 _ rfl); replace H := bind_hid H; obtain ⟨t_4, qt_4, H⟩ := H; go_wp2_with fail; go_at_call 154; refine (GsL8Zone.C (m10)  _    qt_4).mono ?_; rintro a11 wt_4 ⟨rfl, bt_4⟩; have t10 := Lib.hid (Below.step v10.out bt_4); replace e10 := cell_below bt_4 e10; replace b10 := cell_below bt_4 b10; replace c10 := cell_below bt_4 c10; replace a10 := cell_below bt_4 a10; replace d10 := cell_below bt_4 d10; clear bt_4; replace H := join_hid H
 cases t_4 with
 | false =>
  replace H := ite_f H; replace H := app_hid H; replace H := join_hid H; replace H := ite_f H; replace H := app_hid H; replace H := join_hid H; replace H := ite_f H; replace H := app_hid H; replace H := join_hid H; replace H := ite_f H; replace H := app_hid H; obtain rfl := ret_hid H; go_wp2_with fail; go_ret; exact ⟨rfl, t10.out⟩
 | true =>
  replace H := ite_t H; replace H := bind_hid H; obtain ⟨t_8, qt_8, H⟩ := H; go_wp2_with fail; go_at_call 155; refine (GsL8Grams.C (l10)  _    qt_8).mono ?_; rintro h11 wt_8 ⟨rfl, bt_8⟩; have p10 := Lib.hid (Below.step t10.out bt_8); replace e10 := cell_below bt_8 e10; replace b10 := cell_below bt_8 b10; replace c10 := cell_below bt_8 c10; replace a10 := cell_below bt_8 a10; replace d10 := cell_below bt_8 d10; clear bt_8; replace H := app_hid H; replace H := join_hid H
  cases t_8 with
  | false =>
   replace H := ite_f H; replace H := app_hid H; replace H := join_hid H; replace H := ite_f H; replace H := app_hid H; replace H := join_hid H; replace H := ite_f H; replace H := app_hid H; obtain rfl := ret_hid H; go_wp2_with fail; go_ret; exact ⟨rfl, p10.out⟩
  | true =>
   replace H := ite_t H; replace H := bind_hid H; obtain ⟨t_13, x10, H⟩ := H; go_wp2_with fail; go_at_call 153; refine (GsL2Day.C (k10)  _    x10).mono ?_; rintro e11 b11 ⟨rfl, g10⟩; have q10 := Lib.hid (Below.step p10.out g10); replace e10 := cell_below g10 e10; replace b10 := cell_below g10 b10; replace c10 := cell_below g10 c10; replace a10 := cell_below g10 a10; replace d10 := cell_below g10 d10; clear g10; replace H := app_hid H; replace H := join_hid H
   cases t_13 with
   | false =>
    replace H := ite_f H; replace H := app_hid H; replace H := join_hid H; replace H := ite_f H; replace H := app_hid H; obtain rfl := ret_hid H; go_wp2_with fail; go_ret; exact ⟨rfl, q10.out⟩
   | true =>
    replace H := ite_t H; replace H := bind_hid H; obtain ⟨t_20, z10, H⟩ := H; go_wp2_with fail; go_at_call 87; refine (GsL1In.C (n10) (0) (k10)  _    z10).mono ?_; rintro d11 f11 ⟨rfl, f10⟩; have r10 := Lib.hid (Below.step q10.out f10); replace e10 := cell_below f10 e10; replace b10 := cell_below f10 b10; replace c10 := cell_below f10 c10; replace a10 := cell_below f10 a10; replace d10 := cell_below f10 d10; clear f10; replace H := app_hid H; replace H := join_hid H
    cases t_20 with
    | false =>
     replace H := ite_f H; replace H := app_hid H; obtain rfl := ret_hid H; go_wp2_with fail; go_ret; exact ⟨rfl, r10.out⟩
    | true =>
     replace H := ite_t H; replace H := bind_hid H; obtain ⟨t_25, w10, H⟩ := H; go_wp2_with fail; go_at_call 156; refine (GsL8Cents.C (o10)  _    w10).mono ?_; rintro c11 g11 ⟨rfl, h10⟩; have y10 := Lib.hid (Below.step r10.out h10); replace e10 := cell_below h10 e10; replace b10 := cell_below h10 b10; replace c10 := cell_below h10 c10; replace a10 := cell_below h10 a10; replace d10 := cell_below h10 d10; clear h10; replace H := app_hid H; obtain rfl := ret_hid H; go_wp2_with fail; go_ret; exact ⟨rfl, y10.out⟩
end Go.Proofs.Ytihibckijdfidaa.GsL8One

namespace Go.Proofs.Ytihibckijdfidaa.GsL8Code
open Go.RowKit
open Go.Proofs.Ytihibckijdfidaa.Rowed Go.Proofs.Ytihibckijdfidaa.Turn Go.Proofs.Ytihibckijdfidaa.Aid Go.Proofs.Ytihibckijdfidaa.GoP Go.Proofs.Ytihibckijdfidaa.GoM

def P (r_0 : PRate.Rate) : Option (Int) :=
 unRate r_0 fun (r_0_zone : Int) (r_0_grams : Int) (r_0_from_ : Int) (r_0_until_ : Int) (r_0_cents : Int) =>
 letK (IntKind.i64.wrap (10000 * r_0_zone)) fun (t_4 : Int) =>
 letK (IntKind.i64.wrap (t_4 + r_0_grams)) fun (t_7 : Int) =>
 letK (IntKind.i64.wrap (t_7 * 10000)) fun (t_8 : Int) =>
 letK (IntKind.i64.wrap (t_8 + r_0_from_)) fun (t_11 : Int) =>
 some t_11

set_option maxRecDepth 100000 in
set_option maxHeartbeats 2000000 in
theorem C (r_0 : PRate.Rate)   (w : World)   {r : Int} (H : Hid (P r_0 = some r)) :
  Calls Try.prog 152 #[r_0.val] w (Gives (.int .i64 r) w) := by
 have HB := Lib.hid (Below.refl w.heap.size w); unfold P at H; obtain ⟨g10, c10, e10, h10, d10⟩ := r_0; replace H := unRate_hid H; unfold PRate.Rate.val
 go_enter Try.func152, Try.ntmps152
 obtain ⟨b10, a10⟩ : ∃ x, w.alloc (.cells #[.int .i64 g10, .int .i64 c10, .int .i64 e10, .int .i64 h10, .int .i64 d10] 120) = x := ⟨_, rfl⟩; have f10 : Below w.heap.size w b10 := (by rw [← a10]; exact (Below.refl _ _).alloc (Nat.le_refl _) _); have i10 := Lib.hid (Below.step HB.out f10); clear f10; have m10 : b10.cell? ⟨w.heap.size, 0, none⟩ = some (.int .i64 g10) := (by rw [← a10]; exact box_new _ _ _ 0 _ rfl); have j10 : b10.cell? ⟨w.heap.size, 1, none⟩ = some (.int .i64 c10) := (by rw [← a10]; exact box_new _ _ _ 1 _ rfl); have k10 : b10.cell? ⟨w.heap.size, 2, none⟩ = some (.int .i64 e10) := (by rw [← a10]; exact box_new _ _ _ 2 _ rfl); have l10 : b10.cell? ⟨w.heap.size, 3, none⟩ = some (.int .i64 h10) := (by rw [← a10]; exact box_new _ _ _ 3 _ rfl); have o10 : b10.cell? ⟨w.heap.size, 4, none⟩ = some (.int .i64 d10) := (by rw [← a10]; exact box_new _ _ _ 4 _ rfl); replace H := let_hid H; obtain ⟨t_4, ht_4, H⟩ := H; replace H := let_hid H; obtain ⟨t_7, ht_7, H⟩ := H; replace H := let_hid H; obtain ⟨t_8, ht_8, H⟩ := H; replace H := let_hid H; obtain ⟨t_11, n10, H⟩ := H; obtain rfl := ret_hid H; go_wp2_with fail; go_ret; exact ⟨rfl, i10.out⟩
end Go.Proofs.Ytihibckijdfidaa.GsL8Code

