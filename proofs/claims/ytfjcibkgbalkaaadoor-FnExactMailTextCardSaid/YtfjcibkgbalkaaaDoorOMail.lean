/- The record Mail as data that comes in, and a slice of it. No condition. -/
import Derived.Test.YtfjcibkgbalkaaaDoorChecked
import Derived.Test.YtfjcibkgbalkaaaDoorRow
import Derived.Test.YtfjcibkgbalkaaaDoorOpenAny
import Derived.Test.YtfjcibkgbalkaaaDoorPMail
import Derived.Deep.Slices
import Derived.Deep.Fields
import Derived.ChangeSame
import Derived.Lib.LaidU8
namespace Go.Proofs.YtfjcibkgbalkaaaDoor.OMail
set_option linter.unusedVariables false
set_option maxRecDepth 100000
open Go.Joins Go.ChangeShapes Go.WideShapes Go.RowKit Go.Deep
open Go.Proofs.YtfjcibkgbalkaaaDoor.Rowed Go.Proofs.YtfjcibkgbalkaaaDoor.OpenAny Go.Proofs.YtfjcibkgbalkaaaDoor.PMail

/-- the slice 'A, n' reads as the records l -/
abbrev Mails (w : World) (A : Option Addr) (n : Nat) (l : List Mail) : Prop := Cells w 4 A n (flat l)
theorem at_ {w : World} {A : Option Addr} {n k : Nat} {l : List Mail} (h : Mails w A n l) (hk : k < n) :
    ∃ (b o : Nat) (s : Mail), A = some ⟨b, o, none⟩ ∧ l[k]? = some s ∧ w.cell? ⟨b, o + k * 4, none⟩ = some (.int .i64 s.leave) ∧ w.cell? ⟨b, o + k * 4 + 1, none⟩ = some (.int .i64 s.from_) ∧ w.cell? ⟨b, o + k * 4 + 2, none⟩ = some (.int .i64 s.to_) ∧ w.cell? ⟨b, o + k * 4 + 3, none⟩ = some (.int .i64 s.arrive) := by
  have hl : k < l.length := by have := h.1; rw [flat_len] at this; omega
  obtain ⟨⟨b, o, sp⟩, e, hc⟩ := h.2 (by rw [flat_len]; omega)
  have h0 := hc 0 _ (flat_at l 0 l[0] (List.getElem?_eq_getElem (by omega)) 0 (by omega))
  obtain rfl : sp = none := cell_spot (b := b) (o := o) h0
  have hs := List.getElem?_eq_getElem hl
  have f := flat_at l k _ hs
  have g := fun j u hu => add_none b o j ▸ hc j u hu
  exact ⟨b, o, l[k], e, hs, g _ _ (f 0 (by omega)), g _ _ (f 1 (by omega)), g _ _ (f 2 (by omega)), g _ _ (f 3 (by omega))⟩
theorem len_of {w : World} {A : Option Addr} {n : Nat} {l : List Mail} (h : Mails w A n l) : l.length = n := by
  have := h.1
  rw [flat_len] at this; omega

/-- a slice of records that came in: the list that it reads as -/
structure Came (w : World) (A : Option Addr) (len cap : Nat) (l : List Mail) : Prop where
  cells : Mails w A len l
  small : len ≤ maxLen
  fits : ∀ s ∈ l, s.fits
theorem Came.len {w : World} {A : Option Addr} {len cap : Nat} {l : List Mail} (h : Came w A len cap l) : l.length = len := len_of h.cells

section
variable {H : Type} {enc : TypeId × Value → H} {w : World} {base : Nat} {spare : Nat → Bool} {held : Bool}
theorem read_one {n : Nat} {cs : List Value} {x : DataW H × List MemPlace} (h : DataW.trod enc Tryd.prog w base spare held n 59 cs = some x) : ∃ s : Mail, cs = s.cells ∧ s.fits := by
  have hc : Tryd.prog.cellsOf 59 = 4 := by kernel_rfl
  obtain ⟨hl, hf⟩ := read_fields Tryd.underlying59 (by kernel_rfl) hc h
  rw [hc] at hl
  match cs, hl with
  | [v0, v1, v2, v3], _ =>
    obtain ⟨u0, n0, y0, eu0, t0⟩ := hf 0 _ rfl
    obtain ⟨x0, e0, _, f0⟩ := DataW.trod_int Tryd.underlying3 t0
    obtain rfl : v0 = u0 := by simpa using eu0
    obtain rfl : v0 = .int .i64 x0 := by simpa using e0
    obtain ⟨u1, n1, y1, eu1, t1⟩ := hf 1 _ rfl
    obtain ⟨x1, e1, _, f1⟩ := DataW.trod_int Tryd.underlying3 t1
    obtain rfl : v1 = u1 := by simpa using eu1
    obtain rfl : v1 = .int .i64 x1 := by simpa using e1
    obtain ⟨u2, n2, y2, eu2, t2⟩ := hf 2 _ rfl
    obtain ⟨x2, e2, _, f2⟩ := DataW.trod_int Tryd.underlying3 t2
    obtain rfl : v2 = u2 := by simpa using eu2
    obtain rfl : v2 = .int .i64 x2 := by simpa using e2
    obtain ⟨u3, n3, y3, eu3, t3⟩ := hf 3 _ rfl
    obtain ⟨x3, e3, _, f3⟩ := DataW.trod_int Tryd.underlying3 t3
    obtain rfl : v3 = u3 := by simpa using eu3
    obtain rfl : v3 = .int .i64 x3 := by simpa using e3
    exact ⟨⟨x0, x1, x2, x3⟩, rfl, f0, f1, f2, f3⟩
theorem open_one {r : Reach} {b0 : Nat} {v : Value} {d : DataW H} {p : List MemPlace} (hv : Value.okWide Tryd.prog w r b0 59 v) (h : DataW.Trod enc Tryd.prog w base spare held 59 v d p) :
    ∃ s : Mail, v = s.val ∧ s.fits := by
  obtain ⟨cs, n, x, rfl, ht⟩ := agg_any Tryd.underlying59 hv h
  obtain ⟨s, e, hs⟩ := read_one ht
  refine ⟨s, ?_, hs⟩
  obtain ⟨l⟩ := cs
  obtain rfl : l = s.cells := by simpa using e
  rfl
end

/-- a record that was boxed -/
theorem box_ {w : World} {s : Mail} {g : Nat} (h : Cells w 4 (some ⟨g, 0, none⟩) 1 s.cells) : w.cell? ⟨g, 0, none⟩ = some (.int .i64 s.leave) ∧ w.cell? ⟨g, 1, none⟩ = some (.int .i64 s.from_) ∧ w.cell? ⟨g, 2, none⟩ = some (.int .i64 s.to_) ∧ w.cell? ⟨g, 3, none⟩ = some (.int .i64 s.arrive) := by
  obtain ⟨ad, e, hc⟩ := h.2 (by simp [Mail.cells])
  obtain rfl := Option.some.inj e
  have gg := fun j u hu => add_none g 0 j ▸ hc j u hu
  exact ⟨by simpa using gg 0 _ rfl, by simpa using gg 1 _ rfl, by simpa using gg 2 _ rfl, by simpa using gg 3 _ rfl⟩
theorem box_new (w : World) (s : Mail) (T : TypeId) : Cells (w.alloc (.cells #[.int .i64 s.leave, .int .i64 s.from_, .int .i64 s.to_, .int .i64 s.arrive] T)) 4 (some ⟨w.heap.size, 0, none⟩) 1 s.cells :=
  ⟨by simp [Mail.cells], fun _ => ⟨_, rfl, fun j u hu => by
    have hj : j < 4 := by have := (List.getElem?_eq_some_iff.1 hu).1; simpa [Mail.cells] using this
    rw [add_none, World.cell?_alloc_new]
    match j, hj with
    | 0, _ => simpa [Mail.cells] using hu
    | 1, _ => simpa [Mail.cells] using hu
    | 2, _ => simpa [Mail.cells] using hu
    | 3, _ => simpa [Mail.cells] using hu
⟩⟩
end Go.Proofs.YtfjcibkgbalkaaaDoor.OMail
