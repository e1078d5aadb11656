/- Texts on which the proofs of several laws stand, one behind the other (2 of 13). No condition of their own. -/
import Derived.Test.YtlljmgphgmklcaaChecked
import Derived.Test.YtlljmgphgmklcaaV10P1
import Derived.Deep.Slices
import Derived.Deep.Fields
import Derived.ChangeSame
import Derived.Lib.LaidU8
import Derived.WalkKit
import Derived.WalkSpells
import Derived.WalkLawsBesides
import Derived.BigQuiet
import Derived.OwnWalk
import Derived.Deep.LoopGhost
import Derived.Deep.QuietTactic
import Derived.IntWalk
import Derived.Lib.QuietBelow
import Derived.Lib.Hide
import Derived.Outline
/- The record Cover as data that comes in, and a slice of it. No condition. -/
namespace Go.Proofs.Ytlljmgphgmklcaa.OCover
set_option linter.unusedVariables false
set_option maxRecDepth 100000
open Go.Joins Go.ChangeShapes Go.WideShapes Go.RowKit Go.Deep
open Go.Proofs.Ytlljmgphgmklcaa.Rowed Go.Proofs.Ytlljmgphgmklcaa.OpenAny Go.Proofs.Ytlljmgphgmklcaa.PCover

/-- the slice 'A, n' reads as the records l -/
abbrev Covers (w : World) (A : Option Addr) (n : Nat) (l : List Cover) : Prop := Cells w 9 A n (flat l)
theorem at_ {w : World} {A : Option Addr} {n k : Nat} {l : List Cover} (h : Covers w A n l) (hk : k < n) :
    ∃ (b o : Nat) (s : Cover), A = some ⟨b, o, none⟩ ∧ l[k]? = some s ∧ w.cell? ⟨b, o + k * 9, none⟩ = some (.int .i64 s.id) ∧ w.cell? ⟨b, o + k * 9 + 1, none⟩ = some (.int .i64 s.day) ∧ w.cell? ⟨b, o + k * 9 + 2, none⟩ = some (.int .i64 s.zone) ∧ w.cell? ⟨b, o + k * 9 + 3, none⟩ = some (.int .i64 s.grams) ∧ w.cell? ⟨b, o + k * 9 + 4, none⟩ = some (.int .i64 s.paid) ∧ w.cell? ⟨b, o + k * 9 + 5, none⟩ = some (.int .i64 s.from_) ∧ w.cell? ⟨b, o + k * 9 + 6, none⟩ = some (.int .i64 s.to_) ∧ w.cell? ⟨b, o + k * 9 + 7, none⟩ = some (.int .i64 s.leave) ∧ w.cell? ⟨b, o + k * 9 + 8, none⟩ = some (.int .i64 s.arrive) := by
  have hl : k < l.length := by have := h.1; rw [flat_len] at this; omega
  obtain ⟨⟨b, o, sp⟩, e, hc⟩ := h.2 (by rw [flat_len]; omega)
  have h0 := hc 0 _ (flat_at l 0 l[0] (List.getElem?_eq_getElem (by omega)) 0 (by omega))
  obtain rfl : sp = none := cell_spot (b := b) (o := o) h0
  have hs := List.getElem?_eq_getElem hl
  have f := flat_at l k _ hs
  have g := fun j u hu => add_none b o j ▸ hc j u hu
  exact ⟨b, o, l[k], e, hs, g _ _ (f 0 (by omega)), g _ _ (f 1 (by omega)), g _ _ (f 2 (by omega)), g _ _ (f 3 (by omega)), g _ _ (f 4 (by omega)), g _ _ (f 5 (by omega)), g _ _ (f 6 (by omega)), g _ _ (f 7 (by omega)), g _ _ (f 8 (by omega))⟩
theorem len_of {w : World} {A : Option Addr} {n : Nat} {l : List Cover} (h : Covers w A n l) : l.length = n := by
  have := h.1
  rw [flat_len] at this; omega

/-- a slice of records that came in: the list that it reads as -/
structure Came (w : World) (A : Option Addr) (len cap : Nat) (l : List Cover) : Prop where
  cells : Covers w A len l
  small : len ≤ maxLen
  fits : ∀ s ∈ l, s.fits
theorem Came.len {w : World} {A : Option Addr} {len cap : Nat} {l : List Cover} (h : Came w A len cap l) : l.length = len := len_of h.cells

section
variable {H : Type} {enc : TypeId × Value → H} {w : World} {base : Nat} {spare : Nat → Bool} {held : Bool}
theorem read_one {n : Nat} {cs : List Value} {x : DataW H × List MemPlace} (h : DataW.trod enc Try.prog w base spare held n 23 cs = some x) : ∃ s : Cover, cs = s.cells ∧ s.fits := by
  have hc : Try.prog.cellsOf 23 = 9 := by kernel_rfl
  obtain ⟨hl, hf⟩ := read_fields Try.underlying23 (by kernel_rfl) hc h
  rw [hc] at hl
  match cs, hl with
  | [v0, v1, v2, v3, v4, v5, v6, v7, v8], _ =>
    obtain ⟨u0, n0, y0, eu0, t0⟩ := hf 0 _ rfl
    obtain ⟨x0, e0, _, f0⟩ := DataW.trod_int Try.underlying3 t0
    obtain rfl : v0 = u0 := by simpa using eu0
    obtain rfl : v0 = .int .i64 x0 := by simpa using e0
    obtain ⟨u1, n1, y1, eu1, t1⟩ := hf 1 _ rfl
    obtain ⟨x1, e1, _, f1⟩ := DataW.trod_int Try.underlying3 t1
    obtain rfl : v1 = u1 := by simpa using eu1
    obtain rfl : v1 = .int .i64 x1 := by simpa using e1
    obtain ⟨u2, n2, y2, eu2, t2⟩ := hf 2 _ rfl
    obtain ⟨x2, e2, _, f2⟩ := DataW.trod_int Try.underlying3 t2
    obtain rfl : v2 = u2 := by simpa using eu2
    obtain rfl : v2 = .int .i64 x2 := by simpa using e2
    obtain ⟨u3, n3, y3, eu3, t3⟩ := hf 3 _ rfl
    obtain ⟨x3, e3, _, f3⟩ := DataW.trod_int Try.underlying3 t3
    obtain rfl : v3 = u3 := by simpa using eu3
    obtain rfl : v3 = .int .i64 x3 := by simpa using e3
    obtain ⟨u4, n4, y4, eu4, t4⟩ := hf 4 _ rfl
    obtain ⟨x4, e4, _, f4⟩ := DataW.trod_int Try.underlying3 t4
    obtain rfl : v4 = u4 := by simpa using eu4
    obtain rfl : v4 = .int .i64 x4 := by simpa using e4
    obtain ⟨u5, n5, y5, eu5, t5⟩ := hf 5 _ rfl
    obtain ⟨x5, e5, _, f5⟩ := DataW.trod_int Try.underlying3 t5
    obtain rfl : v5 = u5 := by simpa using eu5
    obtain rfl : v5 = .int .i64 x5 := by simpa using e5
    obtain ⟨u6, n6, y6, eu6, t6⟩ := hf 6 _ rfl
    obtain ⟨x6, e6, _, f6⟩ := DataW.trod_int Try.underlying3 t6
    obtain rfl : v6 = u6 := by simpa using eu6
    obtain rfl : v6 = .int .i64 x6 := by simpa using e6
    obtain ⟨u7, n7, y7, eu7, t7⟩ := hf 7 _ rfl
    obtain ⟨x7, e7, _, f7⟩ := DataW.trod_int Try.underlying3 t7
    obtain rfl : v7 = u7 := by simpa using eu7
    obtain rfl : v7 = .int .i64 x7 := by simpa using e7
    obtain ⟨u8, n8, y8, eu8, t8⟩ := hf 8 _ rfl
    obtain ⟨x8, e8, _, f8⟩ := DataW.trod_int Try.underlying3 t8
    obtain rfl : v8 = u8 := by simpa using eu8
    obtain rfl : v8 = .int .i64 x8 := by simpa using e8
    exact ⟨⟨x0, x1, x2, x3, x4, x5, x6, x7, x8⟩, rfl, f0, f1, f2, f3, f4, f5, f6, f7, f8⟩
theorem open_one {r : Reach} {b0 : Nat} {v : Value} {d : DataW H} {p : List MemPlace} (hv : Value.okWide Try.prog w r b0 23 v) (h : DataW.Trod enc Try.prog w base spare held 23 v d p) :
    ∃ s : Cover, v = s.val ∧ s.fits := by
  obtain ⟨cs, n, x, rfl, ht⟩ := agg_any Try.underlying23 hv h
  obtain ⟨s, e, hs⟩ := read_one ht
  refine ⟨s, ?_, hs⟩
  obtain ⟨l⟩ := cs
  obtain rfl : l = s.cells := by simpa using e
  rfl
end
theorem open_field {H : Type} {enc : TypeId × Value → H} {W : World} {fuel : Nat} {u : Value} {y : DataW H × List MemPlace}
    (hf : DataW.trod enc Try.prog W 0 (fun _ => true) true fuel 28 [u] = some y) : ∃ (a : Option Addr) (len cap : Nat) (l : List Cover), u = .slice a len cap ∧ Came W a len cap l := by
  have ck : Try.prog.cellsOf 23 = 9 := by kernel_rfl
  rcases open_slice Try.underlying28 hf with ⟨hcs, _⟩ | ⟨x, ln, cp, m, n, D, Pl, hcs, hb, hl, hm, hmm, _, hi⟩
  · obtain rfl : u = .slice none 0 0 := by simpa using hcs
    exact ⟨none, 0, 0, [], rfl, Cells.nil_ _ _ _, by unfold maxLen; omega, by intro s hs; simp at hs⟩
  · obtain rfl : u = .slice (some x) ln cp := by simpa using hcs
    simp only [if_true] at hmm
    subst hmm
    rw [ck] at hi
    obtain ⟨l, hll, hp⟩ := list_of (fun k s => Cover.fits s ∧ ∀ j, j < 9 → W.cell? (x.add (k * 9 + j)) = s.cells[j]?) ln (fun k hk => by
      obtain ⟨cs', hc, ht⟩ := hi k (by omega)
      obtain ⟨s, rfl, hfit⟩ := read_one ht
      refine ⟨s, hfit, fun j hj => ?_⟩
      have := (World.cells?_some hc).2.2 j hj
      rw [Go.Deep.add_add] at this
      exact this)
    refine ⟨some x, ln, _, l, rfl, ⟨by rw [flat_len, hll], fun h0 => ⟨x, rfl, fun j u hu => ?_⟩⟩, by omega, fun s hs => ?_⟩
    · have hj : j < (flat l).length := (List.getElem?_eq_some_iff.1 hu).1
      rw [flat_len] at hj
      have hk : j / 9 < l.length := by omega
      have e := flat_at l (j / 9) l[j/9] (List.getElem?_eq_getElem hk) (j % 9) (by omega)
      rw [show j / 9 * 9 + j % 9 = j by omega, hu] at e
      have := (hp (j / 9) l[j/9] (List.getElem?_eq_getElem hk)).2 (j % 9) (by omega)
      rw [show j / 9 * 9 + j % 9 = j by omega, ← e] at this
      exact this
    · obtain ⟨k, hk⟩ := List.getElem?_of_mem hs
      exact (hp k s hk).1
theorem open_many {H : Type} {enc : TypeId × Value → H} {W : World} {a : Option Addr} {len cap : Nat} {d : DataW H} {p : List MemPlace}
    (h : DataW.Trod enc Try.prog W 0 (fun _ => true) true 28 (.slice a len cap) d p) : ∃ l : List Cover, Came W a len cap l := by
  obtain ⟨fuel, hf⟩ := h
  obtain ⟨a2, l2, c2, l, e, hl⟩ := open_field (u := .slice a len cap) hf
  simp only [Value.slice.injEq] at e
  obtain ⟨rfl, rfl, rfl⟩ := e
  exact ⟨l, hl⟩

/-- a record that was boxed -/
theorem box_ {w : World} {s : Cover} {g : Nat} (h : Cells w 9 (some ⟨g, 0, none⟩) 1 s.cells) : w.cell? ⟨g, 0, none⟩ = some (.int .i64 s.id) ∧ w.cell? ⟨g, 1, none⟩ = some (.int .i64 s.day) ∧ w.cell? ⟨g, 2, none⟩ = some (.int .i64 s.zone) ∧ w.cell? ⟨g, 3, none⟩ = some (.int .i64 s.grams) ∧ w.cell? ⟨g, 4, none⟩ = some (.int .i64 s.paid) ∧ w.cell? ⟨g, 5, none⟩ = some (.int .i64 s.from_) ∧ w.cell? ⟨g, 6, none⟩ = some (.int .i64 s.to_) ∧ w.cell? ⟨g, 7, none⟩ = some (.int .i64 s.leave) ∧ w.cell? ⟨g, 8, none⟩ = some (.int .i64 s.arrive) := by
  obtain ⟨ad, e, hc⟩ := h.2 (by simp [Cover.cells])
  obtain rfl := Option.some.inj e
  have gg := fun j u hu => add_none g 0 j ▸ hc j u hu
  exact ⟨by simpa using gg 0 _ rfl, by simpa using gg 1 _ rfl, by simpa using gg 2 _ rfl, by simpa using gg 3 _ rfl, by simpa using gg 4 _ rfl, by simpa using gg 5 _ rfl, by simpa using gg 6 _ rfl, by simpa using gg 7 _ rfl, by simpa using gg 8 _ rfl⟩
theorem box_new (w : World) (s : Cover) (T : TypeId) : Cells (w.alloc (.cells #[.int .i64 s.id, .int .i64 s.day, .int .i64 s.zone, .int .i64 s.grams, .int .i64 s.paid, .int .i64 s.from_, .int .i64 s.to_, .int .i64 s.leave, .int .i64 s.arrive] T)) 9 (some ⟨w.heap.size, 0, none⟩) 1 s.cells :=
  ⟨by simp [Cover.cells], fun _ => ⟨_, rfl, fun j u hu => by
    have hj : j < 9 := by have := (List.getElem?_eq_some_iff.1 hu).1; simpa [Cover.cells] using this
    rw [add_none, World.cell?_alloc_new]
    match j, hj with
    | 0, _ => simpa [Cover.cells] using hu
    | 1, _ => simpa [Cover.cells] using hu
    | 2, _ => simpa [Cover.cells] using hu
    | 3, _ => simpa [Cover.cells] using hu
    | 4, _ => simpa [Cover.cells] using hu
    | 5, _ => simpa [Cover.cells] using hu
    | 6, _ => simpa [Cover.cells] using hu
    | 7, _ => simpa [Cover.cells] using hu
    | 8, _ => simpa [Cover.cells] using hu
⟩⟩
end Go.Proofs.Ytlljmgphgmklcaa.OCover

/- loop.example/g01062/laws.toCover as a plain function, and the contract of the program's: where the plain one has an answer, the program has it. Conditions: slices read as lists. -/
namespace Go.Proofs.Ytlljmgphgmklcaa.GlToCover
set_option linter.unusedVariables false
set_option linter.unusedSimpArgs false
open Go.RowKit
open Go.Proofs.Ytlljmgphgmklcaa.Rowed Go.Proofs.Ytlljmgphgmklcaa.Turn Go.Proofs.Ytlljmgphgmklcaa.Aid Go.Proofs.Ytlljmgphgmklcaa.GoP Go.Proofs.Ytlljmgphgmklcaa.GoM

def P (a : Go.Proofs.Ytlljmgphgmklcaa.PCover.Cover) : Option (Go.Proofs.Ytlljmgphgmklcaa.PCover.Cover) :=
  unCover a fun (a_id : Int) (a_day : Int) (a_zone : Int) (a_grams : Int) (a_paid : Int) (a_from_ : Int) (a_to_ : Int) (a_leave : Int) (a_arrive : Int) =>
  some (Go.Proofs.Ytlljmgphgmklcaa.PCover.Cover.mk a_id a_day a_zone a_grams a_paid a_from_ a_to_ a_leave a_arrive)

set_option maxRecDepth 100000 in
set_option maxHeartbeats 2000000 in
theorem C (a : Go.Proofs.Ytlljmgphgmklcaa.PCover.Cover)   (w : World)   {r : Go.Proofs.Ytlljmgphgmklcaa.PCover.Cover} (H : Hid (P a = some r)) :
    Calls Try.prog 17 #[a.val] w (Gives ((Go.Proofs.Ytlljmgphgmklcaa.PCover.Cover.val r)) w) := by
  have HB := Lib.hid (Below.refl w.heap.size w)
  unfold P at H
  obtain ⟨a_id, a_day, a_zone, a_grams, a_paid, a_from_, a_to_, a_leave, a_arrive⟩ := a
  replace H := unCover_hid H
  unfold Go.Proofs.Ytlljmgphgmklcaa.PCover.Cover.val
  go_enter Try.func17, Try.ntmps17
  obtain ⟨w_a_0, hw_a_0⟩ : ∃ x, w.alloc (.cells #[.int .i64 a_id, .int .i64 a_day, .int .i64 a_zone, .int .i64 a_grams, .int .i64 a_paid, .int .i64 a_from_, .int .i64 a_to_, .int .i64 a_leave, .int .i64 a_arrive] 23) = x := ⟨_, rfl⟩
  have bw_a_0 : Below w.heap.size w w_a_0 := by rw [← hw_a_0]; exact (Below.refl _ _).alloc (Nat.le_refl _) _
  have HBw_a_0 := Lib.hid (Below.step HB.out bw_a_0)
  clear bw_a_0
  have ka_0_0 : w_a_0.cell? ⟨w.heap.size, 0, none⟩ = some (.int .i64 a_id) := by rw [← hw_a_0]; exact box_new _ _ _ 0 _ rfl
  have ka_0_1 : w_a_0.cell? ⟨w.heap.size, 1, none⟩ = some (.int .i64 a_day) := by rw [← hw_a_0]; exact box_new _ _ _ 1 _ rfl
  have ka_0_2 : w_a_0.cell? ⟨w.heap.size, 2, none⟩ = some (.int .i64 a_zone) := by rw [← hw_a_0]; exact box_new _ _ _ 2 _ rfl
  have ka_0_3 : w_a_0.cell? ⟨w.heap.size, 3, none⟩ = some (.int .i64 a_grams) := by rw [← hw_a_0]; exact box_new _ _ _ 3 _ rfl
  have ka_0_4 : w_a_0.cell? ⟨w.heap.size, 4, none⟩ = some (.int .i64 a_paid) := by rw [← hw_a_0]; exact box_new _ _ _ 4 _ rfl
  have ka_0_5 : w_a_0.cell? ⟨w.heap.size, 5, none⟩ = some (.int .i64 a_from_) := by rw [← hw_a_0]; exact box_new _ _ _ 5 _ rfl
  have ka_0_6 : w_a_0.cell? ⟨w.heap.size, 6, none⟩ = some (.int .i64 a_to_) := by rw [← hw_a_0]; exact box_new _ _ _ 6 _ rfl
  have ka_0_7 : w_a_0.cell? ⟨w.heap.size, 7, none⟩ = some (.int .i64 a_leave) := by rw [← hw_a_0]; exact box_new _ _ _ 7 _ rfl
  have ka_0_8 : w_a_0.cell? ⟨w.heap.size, 8, none⟩ = some (.int .i64 a_arrive) := by rw [← hw_a_0]; exact box_new _ _ _ 8 _ rfl
  obtain ⟨w_t_1, hw_t_1⟩ : ∃ x, w_a_0.alloc (.cells #[.int .i64 0, .int .i64 0, .int .i64 0, .int .i64 0, .int .i64 0, .int .i64 0, .int .i64 0, .int .i64 0, .int .i64 0] 25) = x := ⟨_, rfl⟩
  have bw_t_1 : Below w_a_0.heap.size w_a_0 w_t_1 := by rw [← hw_t_1]; exact (Below.refl _ _).alloc (Nat.le_refl _) _
  have Dt_1_a_0 := Lib.hid (apart_box ka_0_0)
  have HBw_t_1 := Lib.hid (Below.step HBw_a_0.out bw_t_1)
  have ka_0_0__77 := cell_below bw_t_1 ka_0_0
  have ka_0_1__78 := cell_below bw_t_1 ka_0_1
  have ka_0_2__79 := cell_below bw_t_1 ka_0_2
  have ka_0_3__80 := cell_below bw_t_1 ka_0_3
  have ka_0_4__81 := cell_below bw_t_1 ka_0_4
  have ka_0_5__82 := cell_below bw_t_1 ka_0_5
  have ka_0_6__83 := cell_below bw_t_1 ka_0_6
  have ka_0_7__84 := cell_below bw_t_1 ka_0_7
  have ka_0_8__85 := cell_below bw_t_1 ka_0_8
  clear bw_t_1
  have kt_1_0 : w_t_1.cell? ⟨w_a_0.heap.size, 0, none⟩ = some (.int .i64 0) := by rw [← hw_t_1]; exact box_new _ _ _ 0 _ rfl
  have kt_1_1 : w_t_1.cell? ⟨w_a_0.heap.size, 1, none⟩ = some (.int .i64 0) := by rw [← hw_t_1]; exact box_new _ _ _ 1 _ rfl
  have kt_1_2 : w_t_1.cell? ⟨w_a_0.heap.size, 2, none⟩ = some (.int .i64 0) := by rw [← hw_t_1]; exact box_new _ _ _ 2 _ rfl
  have kt_1_3 : w_t_1.cell? ⟨w_a_0.heap.size, 3, none⟩ = some (.int .i64 0) := by rw [← hw_t_1]; exact box_new _ _ _ 3 _ rfl
  have kt_1_4 : w_t_1.cell? ⟨w_a_0.heap.size, 4, none⟩ = some (.int .i64 0) := by rw [← hw_t_1]; exact box_new _ _ _ 4 _ rfl
  have kt_1_5 : w_t_1.cell? ⟨w_a_0.heap.size, 5, none⟩ = some (.int .i64 0) := by rw [← hw_t_1]; exact box_new _ _ _ 5 _ rfl
  have kt_1_6 : w_t_1.cell? ⟨w_a_0.heap.size, 6, none⟩ = some (.int .i64 0) := by rw [← hw_t_1]; exact box_new _ _ _ 6 _ rfl
  have kt_1_7 : w_t_1.cell? ⟨w_a_0.heap.size, 7, none⟩ = some (.int .i64 0) := by rw [← hw_t_1]; exact box_new _ _ _ 7 _ rfl
  have kt_1_8 : w_t_1.cell? ⟨w_a_0.heap.size, 8, none⟩ = some (.int .i64 0) := by rw [← hw_t_1]; exact box_new _ _ _ 8 _ rfl
  have Ot_1 : Hid (w_t_1.ownsRow w.heap.size 25 9 (.slice (some ⟨w_a_0.heap.size, 0, none⟩) 1 1) 1 [.int .i64 0, .int .i64 0, .int .i64 0, .int .i64 0, .int .i64 0, .int .i64 0, .int .i64 0, .int .i64 0, .int .i64 0]) := Lib.hid (by rw [← hw_t_1]; exact own_laid (n := 1) HBw_a_0.out.size rfl rfl (by unfold maxLen; omega))
  obtain ⟨w_out_2, hw_out_2⟩ : ∃ x, w_t_1.alloc (.cells #[.int .i64 0, .int .i64 0, .int .i64 0, .int .i64 0, .int .i64 0, .int .i64 0, .int .i64 0, .int .i64 0, .int .i64 0] 25) = x := ⟨_, rfl⟩
  have bw_out_2 : Below w_t_1.heap.size w_t_1 w_out_2 := by rw [← hw_out_2]; exact (Below.refl _ _).alloc (Nat.le_refl _) _
  have Dout_2_a_0 := Lib.hid (apart_box ka_0_0__77)
  have Dout_2_t_1 := Lib.hid (apart_box kt_1_0)
  have HBw_out_2 := Lib.hid (Below.step HBw_t_1.out bw_out_2)
  have ka_0_0__86 := cell_below bw_out_2 ka_0_0__77
  have ka_0_1__87 := cell_below bw_out_2 ka_0_1__78
  have ka_0_2__88 := cell_below bw_out_2 ka_0_2__79
  have ka_0_3__89 := cell_below bw_out_2 ka_0_3__80
  have ka_0_4__90 := cell_below bw_out_2 ka_0_4__81
  have ka_0_5__91 := cell_below bw_out_2 ka_0_5__82
  have ka_0_6__92 := cell_below bw_out_2 ka_0_6__83
  have ka_0_7__93 := cell_below bw_out_2 ka_0_7__84
  have ka_0_8__94 := cell_below bw_out_2 ka_0_8__85
  have kt_1_0__95 := cell_below bw_out_2 kt_1_0
  have kt_1_1__96 := cell_below bw_out_2 kt_1_1
  have kt_1_2__97 := cell_below bw_out_2 kt_1_2
  have kt_1_3__98 := cell_below bw_out_2 kt_1_3
  have kt_1_4__99 := cell_below bw_out_2 kt_1_4
  have kt_1_5__100 := cell_below bw_out_2 kt_1_5
  have kt_1_6__101 := cell_below bw_out_2 kt_1_6
  have kt_1_7__102 := cell_below bw_out_2 kt_1_7
  have kt_1_8__103 := cell_below bw_out_2 kt_1_8
  replace Ot_1 := Lib.hid (own_below Ot_1.out bw_out_2)
  clear bw_out_2
  have kout_2_0 : w_out_2.cell? ⟨w_t_1.heap.size, 0, none⟩ = some (.int .i64 0) := by rw [← hw_out_2]; exact box_new _ _ _ 0 _ rfl
  have kout_2_1 : w_out_2.cell? ⟨w_t_1.heap.size, 1, none⟩ = some (.int .i64 0) := by rw [← hw_out_2]; exact box_new _ _ _ 1 _ rfl
  have kout_2_2 : w_out_2.cell? ⟨w_t_1.heap.size, 2, none⟩ = some (.int .i64 0) := by rw [← hw_out_2]; exact box_new _ _ _ 2 _ rfl
  have kout_2_3 : w_out_2.cell? ⟨w_t_1.heap.size, 3, none⟩ = some (.int .i64 0) := by rw [← hw_out_2]; exact box_new _ _ _ 3 _ rfl
  have kout_2_4 : w_out_2.cell? ⟨w_t_1.heap.size, 4, none⟩ = some (.int .i64 0) := by rw [← hw_out_2]; exact box_new _ _ _ 4 _ rfl
  have kout_2_5 : w_out_2.cell? ⟨w_t_1.heap.size, 5, none⟩ = some (.int .i64 0) := by rw [← hw_out_2]; exact box_new _ _ _ 5 _ rfl
  have kout_2_6 : w_out_2.cell? ⟨w_t_1.heap.size, 6, none⟩ = some (.int .i64 0) := by rw [← hw_out_2]; exact box_new _ _ _ 6 _ rfl
  have kout_2_7 : w_out_2.cell? ⟨w_t_1.heap.size, 7, none⟩ = some (.int .i64 0) := by rw [← hw_out_2]; exact box_new _ _ _ 7 _ rfl
  have kout_2_8 : w_out_2.cell? ⟨w_t_1.heap.size, 8, none⟩ = some (.int .i64 0) := by rw [← hw_out_2]; exact box_new _ _ _ 8 _ rfl
  have Oout_2 : Hid (w_out_2.ownsRow w.heap.size 25 9 (.slice (some ⟨w_t_1.heap.size, 0, none⟩) 1 1) 1 [.int .i64 0, .int .i64 0, .int .i64 0, .int .i64 0, .int .i64 0, .int .i64 0, .int .i64 0, .int .i64 0, .int .i64 0]) := Lib.hid (by rw [← hw_out_2]; exact own_laid (n := 1) HBw_t_1.out.size rfl rfl (by unfold maxLen; omega))
  obtain ⟨wb6_6, hwb6_6⟩ : ∃ x, (w_out_2).setCell ⟨w_t_1.heap.size, 0, none⟩ (.int .i64 a_id) = x := ⟨_, rfl⟩
  have z0b6_6 := Oout_2.out.frozenAt 0
  have Sb6_6 := Lib.hid (own_stores [(0, .int .i64 a_id)] Oout_2.out)
  have Pb6_6 : Hid (wb6_6.ownsRow w.heap.size 25 9 (.slice (some ⟨w_t_1.heap.size, 0, none⟩) 1 1) 1 [.int .i64 a_id, .int .i64 0, .int .i64 0, .int .i64 0, .int .i64 0, .int .i64 0, .int .i64 0, .int .i64 0, .int .i64 0]) := Lib.hid (by rw [← hwb6_6]; exact Sb6_6.out.1)
  have Gb6_6 : Hid (w_out_2.grownBy wb6_6 (Value.slice (some ⟨w_t_1.heap.size, 0, none⟩) 1 1).ownBlock) := Lib.hid (by rw [← hwb6_6]; exact Sb6_6.out.2)
  have HBwb6_6 := Lib.hid (HBw_out_2.out.grown Gb6_6.out HBw_out_2.out.size (fun q hq => (Oout_2.out.lt q hq).1))
  clear Sb6_6
  have ka_0_0__104 := cell_other ka_0_0__86 Gb6_6.out Dout_2_a_0.out
  have ka_0_1__105 := cell_other ka_0_1__87 Gb6_6.out Dout_2_a_0.out
  have ka_0_2__106 := cell_other ka_0_2__88 Gb6_6.out Dout_2_a_0.out
  have ka_0_3__107 := cell_other ka_0_3__89 Gb6_6.out Dout_2_a_0.out
  have ka_0_4__108 := cell_other ka_0_4__90 Gb6_6.out Dout_2_a_0.out
  have ka_0_5__109 := cell_other ka_0_5__91 Gb6_6.out Dout_2_a_0.out
  have ka_0_6__110 := cell_other ka_0_6__92 Gb6_6.out Dout_2_a_0.out
  have ka_0_7__111 := cell_other ka_0_7__93 Gb6_6.out Dout_2_a_0.out
  have ka_0_8__112 := cell_other ka_0_8__94 Gb6_6.out Dout_2_a_0.out
  have kt_1_0__113 := cell_other kt_1_0__95 Gb6_6.out Dout_2_t_1.out
  have kt_1_1__114 := cell_other kt_1_1__96 Gb6_6.out Dout_2_t_1.out
  have kt_1_2__115 := cell_other kt_1_2__97 Gb6_6.out Dout_2_t_1.out
  have kt_1_3__116 := cell_other kt_1_3__98 Gb6_6.out Dout_2_t_1.out
  have kt_1_4__117 := cell_other kt_1_4__99 Gb6_6.out Dout_2_t_1.out
  have kt_1_5__118 := cell_other kt_1_5__100 Gb6_6.out Dout_2_t_1.out
  have kt_1_6__119 := cell_other kt_1_6__101 Gb6_6.out Dout_2_t_1.out
  have kt_1_7__120 := cell_other kt_1_7__102 Gb6_6.out Dout_2_t_1.out
  have kt_1_8__121 := cell_other kt_1_8__103 Gb6_6.out Dout_2_t_1.out
  replace Ot_1 := Lib.hid (own_other Ot_1.out Gb6_6.out Dout_2_t_1.out)
  clear Oout_2 Gb6_6
  have kout_2_0__122 : wb6_6.cell? ⟨w_t_1.heap.size, 0, none⟩ = some (.int .i64 a_id) := Pb6_6.out.cells rfl 0 _ rfl
  have kout_2_1__123 : wb6_6.cell? ⟨w_t_1.heap.size, 1, none⟩ = some (.int .i64 0) := Pb6_6.out.cells rfl 1 _ rfl
  have kout_2_2__124 : wb6_6.cell? ⟨w_t_1.heap.size, 2, none⟩ = some (.int .i64 0) := Pb6_6.out.cells rfl 2 _ rfl
  have kout_2_3__125 : wb6_6.cell? ⟨w_t_1.heap.size, 3, none⟩ = some (.int .i64 0) := Pb6_6.out.cells rfl 3 _ rfl
  have kout_2_4__126 : wb6_6.cell? ⟨w_t_1.heap.size, 4, none⟩ = some (.int .i64 0) := Pb6_6.out.cells rfl 4 _ rfl
  have kout_2_5__127 : wb6_6.cell? ⟨w_t_1.heap.size, 5, none⟩ = some (.int .i64 0) := Pb6_6.out.cells rfl 5 _ rfl
  have kout_2_6__128 : wb6_6.cell? ⟨w_t_1.heap.size, 6, none⟩ = some (.int .i64 0) := Pb6_6.out.cells rfl 6 _ rfl
  have kout_2_7__129 : wb6_6.cell? ⟨w_t_1.heap.size, 7, none⟩ = some (.int .i64 0) := Pb6_6.out.cells rfl 7 _ rfl
  have kout_2_8__130 : wb6_6.cell? ⟨w_t_1.heap.size, 8, none⟩ = some (.int .i64 0) := Pb6_6.out.cells rfl 8 _ rfl
  obtain ⟨wb10_10, hwb10_10⟩ : ∃ x, (wb6_6).setCell ⟨w_t_1.heap.size, 1, none⟩ (.int .i64 a_day) = x := ⟨_, rfl⟩
  have z0b10_10 := Pb6_6.out.frozenAt 1
  have Sb10_10 := Lib.hid (own_stores [(1, .int .i64 a_day)] Pb6_6.out)
  have Pb10_10 : Hid (wb10_10.ownsRow w.heap.size 25 9 (.slice (some ⟨w_t_1.heap.size, 0, none⟩) 1 1) 1 [.int .i64 a_id, .int .i64 a_day, .int .i64 0, .int .i64 0, .int .i64 0, .int .i64 0, .int .i64 0, .int .i64 0, .int .i64 0]) := Lib.hid (by rw [← hwb10_10]; exact Sb10_10.out.1)
  have Gb10_10 : Hid (wb6_6.grownBy wb10_10 (Value.slice (some ⟨w_t_1.heap.size, 0, none⟩) 1 1).ownBlock) := Lib.hid (by rw [← hwb10_10]; exact Sb10_10.out.2)
  have HBwb10_10 := Lib.hid (HBwb6_6.out.grown Gb10_10.out HBwb6_6.out.size (fun q hq => (Pb6_6.out.lt q hq).1))
  clear Sb10_10
  have ka_0_0__131 := cell_other ka_0_0__104 Gb10_10.out Dout_2_a_0.out
  have ka_0_1__132 := cell_other ka_0_1__105 Gb10_10.out Dout_2_a_0.out
  have ka_0_2__133 := cell_other ka_0_2__106 Gb10_10.out Dout_2_a_0.out
  have ka_0_3__134 := cell_other ka_0_3__107 Gb10_10.out Dout_2_a_0.out
  have ka_0_4__135 := cell_other ka_0_4__108 Gb10_10.out Dout_2_a_0.out
  have ka_0_5__136 := cell_other ka_0_5__109 Gb10_10.out Dout_2_a_0.out
  have ka_0_6__137 := cell_other ka_0_6__110 Gb10_10.out Dout_2_a_0.out
  have ka_0_7__138 := cell_other ka_0_7__111 Gb10_10.out Dout_2_a_0.out
  have ka_0_8__139 := cell_other ka_0_8__112 Gb10_10.out Dout_2_a_0.out
  have kt_1_0__140 := cell_other kt_1_0__113 Gb10_10.out Dout_2_t_1.out
  have kt_1_1__141 := cell_other kt_1_1__114 Gb10_10.out Dout_2_t_1.out
  have kt_1_2__142 := cell_other kt_1_2__115 Gb10_10.out Dout_2_t_1.out
  have kt_1_3__143 := cell_other kt_1_3__116 Gb10_10.out Dout_2_t_1.out
  have kt_1_4__144 := cell_other kt_1_4__117 Gb10_10.out Dout_2_t_1.out
  have kt_1_5__145 := cell_other kt_1_5__118 Gb10_10.out Dout_2_t_1.out
  have kt_1_6__146 := cell_other kt_1_6__119 Gb10_10.out Dout_2_t_1.out
  have kt_1_7__147 := cell_other kt_1_7__120 Gb10_10.out Dout_2_t_1.out
  have kt_1_8__148 := cell_other kt_1_8__121 Gb10_10.out Dout_2_t_1.out
  replace Ot_1 := Lib.hid (own_other Ot_1.out Gb10_10.out Dout_2_t_1.out)
  clear Pb6_6 Gb10_10
  have kout_2_0__149 : wb10_10.cell? ⟨w_t_1.heap.size, 0, none⟩ = some (.int .i64 a_id) := Pb10_10.out.cells rfl 0 _ rfl
  have kout_2_1__150 : wb10_10.cell? ⟨w_t_1.heap.size, 1, none⟩ = some (.int .i64 a_day) := Pb10_10.out.cells rfl 1 _ rfl
  have kout_2_2__151 : wb10_10.cell? ⟨w_t_1.heap.size, 2, none⟩ = some (.int .i64 0) := Pb10_10.out.cells rfl 2 _ rfl
  have kout_2_3__152 : wb10_10.cell? ⟨w_t_1.heap.size, 3, none⟩ = some (.int .i64 0) := Pb10_10.out.cells rfl 3 _ rfl
  have kout_2_4__153 : wb10_10.cell? ⟨w_t_1.heap.size, 4, none⟩ = some (.int .i64 0) := Pb10_10.out.cells rfl 4 _ rfl
  have kout_2_5__154 : wb10_10.cell? ⟨w_t_1.heap.size, 5, none⟩ = some (.int .i64 0) := Pb10_10.out.cells rfl 5 _ rfl
  have kout_2_6__155 : wb10_10.cell? ⟨w_t_1.heap.size, 6, none⟩ = some (.int .i64 0) := Pb10_10.out.cells rfl 6 _ rfl
  have kout_2_7__156 : wb10_10.cell? ⟨w_t_1.heap.size, 7, none⟩ = some (.int .i64 0) := Pb10_10.out.cells rfl 7 _ rfl
  have kout_2_8__157 : wb10_10.cell? ⟨w_t_1.heap.size, 8, none⟩ = some (.int .i64 0) := Pb10_10.out.cells rfl 8 _ rfl
  obtain ⟨wb14_14, hwb14_14⟩ : ∃ x, (wb10_10).setCell ⟨w_t_1.heap.size, 2, none⟩ (.int .i64 a_zone) = x := ⟨_, rfl⟩
  have z0b14_14 := Pb10_10.out.frozenAt 2
  have Sb14_14 := Lib.hid (own_stores [(2, .int .i64 a_zone)] Pb10_10.out)
  have Pb14_14 : Hid (wb14_14.ownsRow w.heap.size 25 9 (.slice (some ⟨w_t_1.heap.size, 0, none⟩) 1 1) 1 [.int .i64 a_id, .int .i64 a_day, .int .i64 a_zone, .int .i64 0, .int .i64 0, .int .i64 0, .int .i64 0, .int .i64 0, .int .i64 0]) := Lib.hid (by rw [← hwb14_14]; exact Sb14_14.out.1)
  have Gb14_14 : Hid (wb10_10.grownBy wb14_14 (Value.slice (some ⟨w_t_1.heap.size, 0, none⟩) 1 1).ownBlock) := Lib.hid (by rw [← hwb14_14]; exact Sb14_14.out.2)
  have HBwb14_14 := Lib.hid (HBwb10_10.out.grown Gb14_14.out HBwb10_10.out.size (fun q hq => (Pb10_10.out.lt q hq).1))
  clear Sb14_14
  have ka_0_0__158 := cell_other ka_0_0__131 Gb14_14.out Dout_2_a_0.out
  have ka_0_1__159 := cell_other ka_0_1__132 Gb14_14.out Dout_2_a_0.out
  have ka_0_2__160 := cell_other ka_0_2__133 Gb14_14.out Dout_2_a_0.out
  have ka_0_3__161 := cell_other ka_0_3__134 Gb14_14.out Dout_2_a_0.out
  have ka_0_4__162 := cell_other ka_0_4__135 Gb14_14.out Dout_2_a_0.out
  have ka_0_5__163 := cell_other ka_0_5__136 Gb14_14.out Dout_2_a_0.out
  have ka_0_6__164 := cell_other ka_0_6__137 Gb14_14.out Dout_2_a_0.out
  have ka_0_7__165 := cell_other ka_0_7__138 Gb14_14.out Dout_2_a_0.out
  have ka_0_8__166 := cell_other ka_0_8__139 Gb14_14.out Dout_2_a_0.out
  have kt_1_0__167 := cell_other kt_1_0__140 Gb14_14.out Dout_2_t_1.out
  have kt_1_1__168 := cell_other kt_1_1__141 Gb14_14.out Dout_2_t_1.out
  have kt_1_2__169 := cell_other kt_1_2__142 Gb14_14.out Dout_2_t_1.out
  have kt_1_3__170 := cell_other kt_1_3__143 Gb14_14.out Dout_2_t_1.out
  have kt_1_4__171 := cell_other kt_1_4__144 Gb14_14.out Dout_2_t_1.out
  have kt_1_5__172 := cell_other kt_1_5__145 Gb14_14.out Dout_2_t_1.out
  have kt_1_6__173 := cell_other kt_1_6__146 Gb14_14.out Dout_2_t_1.out
  have kt_1_7__174 := cell_other kt_1_7__147 Gb14_14.out Dout_2_t_1.out
  have kt_1_8__175 := cell_other kt_1_8__148 Gb14_14.out Dout_2_t_1.out
  replace Ot_1 := Lib.hid (own_other Ot_1.out Gb14_14.out Dout_2_t_1.out)
  clear Pb10_10 Gb14_14
  have kout_2_0__176 : wb14_14.cell? ⟨w_t_1.heap.size, 0, none⟩ = some (.int .i64 a_id) := Pb14_14.out.cells rfl 0 _ rfl
  have kout_2_1__177 : wb14_14.cell? ⟨w_t_1.heap.size, 1, none⟩ = some (.int .i64 a_day) := Pb14_14.out.cells rfl 1 _ rfl
  have kout_2_2__178 : wb14_14.cell? ⟨w_t_1.heap.size, 2, none⟩ = some (.int .i64 a_zone) := Pb14_14.out.cells rfl 2 _ rfl
  have kout_2_3__179 : wb14_14.cell? ⟨w_t_1.heap.size, 3, none⟩ = some (.int .i64 0) := Pb14_14.out.cells rfl 3 _ rfl
  have kout_2_4__180 : wb14_14.cell? ⟨w_t_1.heap.size, 4, none⟩ = some (.int .i64 0) := Pb14_14.out.cells rfl 4 _ rfl
  have kout_2_5__181 : wb14_14.cell? ⟨w_t_1.heap.size, 5, none⟩ = some (.int .i64 0) := Pb14_14.out.cells rfl 5 _ rfl
  have kout_2_6__182 : wb14_14.cell? ⟨w_t_1.heap.size, 6, none⟩ = some (.int .i64 0) := Pb14_14.out.cells rfl 6 _ rfl
  have kout_2_7__183 : wb14_14.cell? ⟨w_t_1.heap.size, 7, none⟩ = some (.int .i64 0) := Pb14_14.out.cells rfl 7 _ rfl
  have kout_2_8__184 : wb14_14.cell? ⟨w_t_1.heap.size, 8, none⟩ = some (.int .i64 0) := Pb14_14.out.cells rfl 8 _ rfl
  obtain ⟨wb18_18, hwb18_18⟩ : ∃ x, (wb14_14).setCell ⟨w_t_1.heap.size, 3, none⟩ (.int .i64 a_grams) = x := ⟨_, rfl⟩
  have z0b18_18 := Pb14_14.out.frozenAt 3
  have Sb18_18 := Lib.hid (own_stores [(3, .int .i64 a_grams)] Pb14_14.out)
  have Pb18_18 : Hid (wb18_18.ownsRow w.heap.size 25 9 (.slice (some ⟨w_t_1.heap.size, 0, none⟩) 1 1) 1 [.int .i64 a_id, .int .i64 a_day, .int .i64 a_zone, .int .i64 a_grams, .int .i64 0, .int .i64 0, .int .i64 0, .int .i64 0, .int .i64 0]) := Lib.hid (by rw [← hwb18_18]; exact Sb18_18.out.1)
  have Gb18_18 : Hid (wb14_14.grownBy wb18_18 (Value.slice (some ⟨w_t_1.heap.size, 0, none⟩) 1 1).ownBlock) := Lib.hid (by rw [← hwb18_18]; exact Sb18_18.out.2)
  have HBwb18_18 := Lib.hid (HBwb14_14.out.grown Gb18_18.out HBwb14_14.out.size (fun q hq => (Pb14_14.out.lt q hq).1))
  clear Sb18_18
  have ka_0_0__185 := cell_other ka_0_0__158 Gb18_18.out Dout_2_a_0.out
  have ka_0_1__186 := cell_other ka_0_1__159 Gb18_18.out Dout_2_a_0.out
  have ka_0_2__187 := cell_other ka_0_2__160 Gb18_18.out Dout_2_a_0.out
  have ka_0_3__188 := cell_other ka_0_3__161 Gb18_18.out Dout_2_a_0.out
  have ka_0_4__189 := cell_other ka_0_4__162 Gb18_18.out Dout_2_a_0.out
  have ka_0_5__190 := cell_other ka_0_5__163 Gb18_18.out Dout_2_a_0.out
  have ka_0_6__191 := cell_other ka_0_6__164 Gb18_18.out Dout_2_a_0.out
  have ka_0_7__192 := cell_other ka_0_7__165 Gb18_18.out Dout_2_a_0.out
  have ka_0_8__193 := cell_other ka_0_8__166 Gb18_18.out Dout_2_a_0.out
  have kt_1_0__194 := cell_other kt_1_0__167 Gb18_18.out Dout_2_t_1.out
  have kt_1_1__195 := cell_other kt_1_1__168 Gb18_18.out Dout_2_t_1.out
  have kt_1_2__196 := cell_other kt_1_2__169 Gb18_18.out Dout_2_t_1.out
  have kt_1_3__197 := cell_other kt_1_3__170 Gb18_18.out Dout_2_t_1.out
  have kt_1_4__198 := cell_other kt_1_4__171 Gb18_18.out Dout_2_t_1.out
  have kt_1_5__199 := cell_other kt_1_5__172 Gb18_18.out Dout_2_t_1.out
  have kt_1_6__200 := cell_other kt_1_6__173 Gb18_18.out Dout_2_t_1.out
  have kt_1_7__201 := cell_other kt_1_7__174 Gb18_18.out Dout_2_t_1.out
  have kt_1_8__202 := cell_other kt_1_8__175 Gb18_18.out Dout_2_t_1.out
  replace Ot_1 := Lib.hid (own_other Ot_1.out Gb18_18.out Dout_2_t_1.out)
  clear Pb14_14 Gb18_18
  have kout_2_0__203 : wb18_18.cell? ⟨w_t_1.heap.size, 0, none⟩ = some (.int .i64 a_id) := Pb18_18.out.cells rfl 0 _ rfl
  have kout_2_1__204 : wb18_18.cell? ⟨w_t_1.heap.size, 1, none⟩ = some (.int .i64 a_day) := Pb18_18.out.cells rfl 1 _ rfl
  have kout_2_2__205 : wb18_18.cell? ⟨w_t_1.heap.size, 2, none⟩ = some (.int .i64 a_zone) := Pb18_18.out.cells rfl 2 _ rfl
  have kout_2_3__206 : wb18_18.cell? ⟨w_t_1.heap.size, 3, none⟩ = some (.int .i64 a_grams) := Pb18_18.out.cells rfl 3 _ rfl
  have kout_2_4__207 : wb18_18.cell? ⟨w_t_1.heap.size, 4, none⟩ = some (.int .i64 0) := Pb18_18.out.cells rfl 4 _ rfl
  have kout_2_5__208 : wb18_18.cell? ⟨w_t_1.heap.size, 5, none⟩ = some (.int .i64 0) := Pb18_18.out.cells rfl 5 _ rfl
  have kout_2_6__209 : wb18_18.cell? ⟨w_t_1.heap.size, 6, none⟩ = some (.int .i64 0) := Pb18_18.out.cells rfl 6 _ rfl
  have kout_2_7__210 : wb18_18.cell? ⟨w_t_1.heap.size, 7, none⟩ = some (.int .i64 0) := Pb18_18.out.cells rfl 7 _ rfl
  have kout_2_8__211 : wb18_18.cell? ⟨w_t_1.heap.size, 8, none⟩ = some (.int .i64 0) := Pb18_18.out.cells rfl 8 _ rfl
  obtain ⟨wb22_22, hwb22_22⟩ : ∃ x, (wb18_18).setCell ⟨w_t_1.heap.size, 4, none⟩ (.int .i64 a_paid) = x := ⟨_, rfl⟩
  have z0b22_22 := Pb18_18.out.frozenAt 4
  have Sb22_22 := Lib.hid (own_stores [(4, .int .i64 a_paid)] Pb18_18.out)
  have Pb22_22 : Hid (wb22_22.ownsRow w.heap.size 25 9 (.slice (some ⟨w_t_1.heap.size, 0, none⟩) 1 1) 1 [.int .i64 a_id, .int .i64 a_day, .int .i64 a_zone, .int .i64 a_grams, .int .i64 a_paid, .int .i64 0, .int .i64 0, .int .i64 0, .int .i64 0]) := Lib.hid (by rw [← hwb22_22]; exact Sb22_22.out.1)
  have Gb22_22 : Hid (wb18_18.grownBy wb22_22 (Value.slice (some ⟨w_t_1.heap.size, 0, none⟩) 1 1).ownBlock) := Lib.hid (by rw [← hwb22_22]; exact Sb22_22.out.2)
  have HBwb22_22 := Lib.hid (HBwb18_18.out.grown Gb22_22.out HBwb18_18.out.size (fun q hq => (Pb18_18.out.lt q hq).1))
  clear Sb22_22
  have ka_0_0__212 := cell_other ka_0_0__185 Gb22_22.out Dout_2_a_0.out
  have ka_0_1__213 := cell_other ka_0_1__186 Gb22_22.out Dout_2_a_0.out
  have ka_0_2__214 := cell_other ka_0_2__187 Gb22_22.out Dout_2_a_0.out
  have ka_0_3__215 := cell_other ka_0_3__188 Gb22_22.out Dout_2_a_0.out
  have ka_0_4__216 := cell_other ka_0_4__189 Gb22_22.out Dout_2_a_0.out
  have ka_0_5__217 := cell_other ka_0_5__190 Gb22_22.out Dout_2_a_0.out
  have ka_0_6__218 := cell_other ka_0_6__191 Gb22_22.out Dout_2_a_0.out
  have ka_0_7__219 := cell_other ka_0_7__192 Gb22_22.out Dout_2_a_0.out
  have ka_0_8__220 := cell_other ka_0_8__193 Gb22_22.out Dout_2_a_0.out
  have kt_1_0__221 := cell_other kt_1_0__194 Gb22_22.out Dout_2_t_1.out
  have kt_1_1__222 := cell_other kt_1_1__195 Gb22_22.out Dout_2_t_1.out
  have kt_1_2__223 := cell_other kt_1_2__196 Gb22_22.out Dout_2_t_1.out
  have kt_1_3__224 := cell_other kt_1_3__197 Gb22_22.out Dout_2_t_1.out
  have kt_1_4__225 := cell_other kt_1_4__198 Gb22_22.out Dout_2_t_1.out
  have kt_1_5__226 := cell_other kt_1_5__199 Gb22_22.out Dout_2_t_1.out
  have kt_1_6__227 := cell_other kt_1_6__200 Gb22_22.out Dout_2_t_1.out
  have kt_1_7__228 := cell_other kt_1_7__201 Gb22_22.out Dout_2_t_1.out
  have kt_1_8__229 := cell_other kt_1_8__202 Gb22_22.out Dout_2_t_1.out
  replace Ot_1 := Lib.hid (own_other Ot_1.out Gb22_22.out Dout_2_t_1.out)
  clear Pb18_18 Gb22_22
  have kout_2_0__230 : wb22_22.cell? ⟨w_t_1.heap.size, 0, none⟩ = some (.int .i64 a_id) := Pb22_22.out.cells rfl 0 _ rfl
  have kout_2_1__231 : wb22_22.cell? ⟨w_t_1.heap.size, 1, none⟩ = some (.int .i64 a_day) := Pb22_22.out.cells rfl 1 _ rfl
  have kout_2_2__232 : wb22_22.cell? ⟨w_t_1.heap.size, 2, none⟩ = some (.int .i64 a_zone) := Pb22_22.out.cells rfl 2 _ rfl
  have kout_2_3__233 : wb22_22.cell? ⟨w_t_1.heap.size, 3, none⟩ = some (.int .i64 a_grams) := Pb22_22.out.cells rfl 3 _ rfl
  have kout_2_4__234 : wb22_22.cell? ⟨w_t_1.heap.size, 4, none⟩ = some (.int .i64 a_paid) := Pb22_22.out.cells rfl 4 _ rfl
  have kout_2_5__235 : wb22_22.cell? ⟨w_t_1.heap.size, 5, none⟩ = some (.int .i64 0) := Pb22_22.out.cells rfl 5 _ rfl
  have kout_2_6__236 : wb22_22.cell? ⟨w_t_1.heap.size, 6, none⟩ = some (.int .i64 0) := Pb22_22.out.cells rfl 6 _ rfl
  have kout_2_7__237 : wb22_22.cell? ⟨w_t_1.heap.size, 7, none⟩ = some (.int .i64 0) := Pb22_22.out.cells rfl 7 _ rfl
  have kout_2_8__238 : wb22_22.cell? ⟨w_t_1.heap.size, 8, none⟩ = some (.int .i64 0) := Pb22_22.out.cells rfl 8 _ rfl
  obtain ⟨wb26_26, hwb26_26⟩ : ∃ x, (wb22_22).setCell ⟨w_t_1.heap.size, 5, none⟩ (.int .i64 a_from_) = x := ⟨_, rfl⟩
  have z0b26_26 := Pb22_22.out.frozenAt 5
  have Sb26_26 := Lib.hid (own_stores [(5, .int .i64 a_from_)] Pb22_22.out)
  have Pb26_26 : Hid (wb26_26.ownsRow w.heap.size 25 9 (.slice (some ⟨w_t_1.heap.size, 0, none⟩) 1 1) 1 [.int .i64 a_id, .int .i64 a_day, .int .i64 a_zone, .int .i64 a_grams, .int .i64 a_paid, .int .i64 a_from_, .int .i64 0, .int .i64 0, .int .i64 0]) := Lib.hid (by rw [← hwb26_26]; exact Sb26_26.out.1)
  have Gb26_26 : Hid (wb22_22.grownBy wb26_26 (Value.slice (some ⟨w_t_1.heap.size, 0, none⟩) 1 1).ownBlock) := Lib.hid (by rw [← hwb26_26]; exact Sb26_26.out.2)
  have HBwb26_26 := Lib.hid (HBwb22_22.out.grown Gb26_26.out HBwb22_22.out.size (fun q hq => (Pb22_22.out.lt q hq).1))
  clear Sb26_26
  have ka_0_0__239 := cell_other ka_0_0__212 Gb26_26.out Dout_2_a_0.out
  have ka_0_1__240 := cell_other ka_0_1__213 Gb26_26.out Dout_2_a_0.out
  have ka_0_2__241 := cell_other ka_0_2__214 Gb26_26.out Dout_2_a_0.out
  have ka_0_3__242 := cell_other ka_0_3__215 Gb26_26.out Dout_2_a_0.out
  have ka_0_4__243 := cell_other ka_0_4__216 Gb26_26.out Dout_2_a_0.out
  have ka_0_5__244 := cell_other ka_0_5__217 Gb26_26.out Dout_2_a_0.out
  have ka_0_6__245 := cell_other ka_0_6__218 Gb26_26.out Dout_2_a_0.out
  have ka_0_7__246 := cell_other ka_0_7__219 Gb26_26.out Dout_2_a_0.out
  have ka_0_8__247 := cell_other ka_0_8__220 Gb26_26.out Dout_2_a_0.out
  have kt_1_0__248 := cell_other kt_1_0__221 Gb26_26.out Dout_2_t_1.out
  have kt_1_1__249 := cell_other kt_1_1__222 Gb26_26.out Dout_2_t_1.out
  have kt_1_2__250 := cell_other kt_1_2__223 Gb26_26.out Dout_2_t_1.out
  have kt_1_3__251 := cell_other kt_1_3__224 Gb26_26.out Dout_2_t_1.out
  have kt_1_4__252 := cell_other kt_1_4__225 Gb26_26.out Dout_2_t_1.out
  have kt_1_5__253 := cell_other kt_1_5__226 Gb26_26.out Dout_2_t_1.out
  have kt_1_6__254 := cell_other kt_1_6__227 Gb26_26.out Dout_2_t_1.out
  have kt_1_7__255 := cell_other kt_1_7__228 Gb26_26.out Dout_2_t_1.out
  have kt_1_8__256 := cell_other kt_1_8__229 Gb26_26.out Dout_2_t_1.out
  replace Ot_1 := Lib.hid (own_other Ot_1.out Gb26_26.out Dout_2_t_1.out)
  clear Pb22_22 Gb26_26
  have kout_2_0__257 : wb26_26.cell? ⟨w_t_1.heap.size, 0, none⟩ = some (.int .i64 a_id) := Pb26_26.out.cells rfl 0 _ rfl
  have kout_2_1__258 : wb26_26.cell? ⟨w_t_1.heap.size, 1, none⟩ = some (.int .i64 a_day) := Pb26_26.out.cells rfl 1 _ rfl
  have kout_2_2__259 : wb26_26.cell? ⟨w_t_1.heap.size, 2, none⟩ = some (.int .i64 a_zone) := Pb26_26.out.cells rfl 2 _ rfl
  have kout_2_3__260 : wb26_26.cell? ⟨w_t_1.heap.size, 3, none⟩ = some (.int .i64 a_grams) := Pb26_26.out.cells rfl 3 _ rfl
  have kout_2_4__261 : wb26_26.cell? ⟨w_t_1.heap.size, 4, none⟩ = some (.int .i64 a_paid) := Pb26_26.out.cells rfl 4 _ rfl
  have kout_2_5__262 : wb26_26.cell? ⟨w_t_1.heap.size, 5, none⟩ = some (.int .i64 a_from_) := Pb26_26.out.cells rfl 5 _ rfl
  have kout_2_6__263 : wb26_26.cell? ⟨w_t_1.heap.size, 6, none⟩ = some (.int .i64 0) := Pb26_26.out.cells rfl 6 _ rfl
  have kout_2_7__264 : wb26_26.cell? ⟨w_t_1.heap.size, 7, none⟩ = some (.int .i64 0) := Pb26_26.out.cells rfl 7 _ rfl
  have kout_2_8__265 : wb26_26.cell? ⟨w_t_1.heap.size, 8, none⟩ = some (.int .i64 0) := Pb26_26.out.cells rfl 8 _ rfl
  obtain ⟨wb30_30, hwb30_30⟩ : ∃ x, (wb26_26).setCell ⟨w_t_1.heap.size, 6, none⟩ (.int .i64 a_to_) = x := ⟨_, rfl⟩
  have z0b30_30 := Pb26_26.out.frozenAt 6
  have Sb30_30 := Lib.hid (own_stores [(6, .int .i64 a_to_)] Pb26_26.out)
  have Pb30_30 : Hid (wb30_30.ownsRow w.heap.size 25 9 (.slice (some ⟨w_t_1.heap.size, 0, none⟩) 1 1) 1 [.int .i64 a_id, .int .i64 a_day, .int .i64 a_zone, .int .i64 a_grams, .int .i64 a_paid, .int .i64 a_from_, .int .i64 a_to_, .int .i64 0, .int .i64 0]) := Lib.hid (by rw [← hwb30_30]; exact Sb30_30.out.1)
  have Gb30_30 : Hid (wb26_26.grownBy wb30_30 (Value.slice (some ⟨w_t_1.heap.size, 0, none⟩) 1 1).ownBlock) := Lib.hid (by rw [← hwb30_30]; exact Sb30_30.out.2)
  have HBwb30_30 := Lib.hid (HBwb26_26.out.grown Gb30_30.out HBwb26_26.out.size (fun q hq => (Pb26_26.out.lt q hq).1))
  clear Sb30_30
  have ka_0_0__266 := cell_other ka_0_0__239 Gb30_30.out Dout_2_a_0.out
  have ka_0_1__267 := cell_other ka_0_1__240 Gb30_30.out Dout_2_a_0.out
  have ka_0_2__268 := cell_other ka_0_2__241 Gb30_30.out Dout_2_a_0.out
  have ka_0_3__269 := cell_other ka_0_3__242 Gb30_30.out Dout_2_a_0.out
  have ka_0_4__270 := cell_other ka_0_4__243 Gb30_30.out Dout_2_a_0.out
  have ka_0_5__271 := cell_other ka_0_5__244 Gb30_30.out Dout_2_a_0.out
  have ka_0_6__272 := cell_other ka_0_6__245 Gb30_30.out Dout_2_a_0.out
  have ka_0_7__273 := cell_other ka_0_7__246 Gb30_30.out Dout_2_a_0.out
  have ka_0_8__274 := cell_other ka_0_8__247 Gb30_30.out Dout_2_a_0.out
  have kt_1_0__275 := cell_other kt_1_0__248 Gb30_30.out Dout_2_t_1.out
  have kt_1_1__276 := cell_other kt_1_1__249 Gb30_30.out Dout_2_t_1.out
  have kt_1_2__277 := cell_other kt_1_2__250 Gb30_30.out Dout_2_t_1.out
  have kt_1_3__278 := cell_other kt_1_3__251 Gb30_30.out Dout_2_t_1.out
  have kt_1_4__279 := cell_other kt_1_4__252 Gb30_30.out Dout_2_t_1.out
  have kt_1_5__280 := cell_other kt_1_5__253 Gb30_30.out Dout_2_t_1.out
  have kt_1_6__281 := cell_other kt_1_6__254 Gb30_30.out Dout_2_t_1.out
  have kt_1_7__282 := cell_other kt_1_7__255 Gb30_30.out Dout_2_t_1.out
  have kt_1_8__283 := cell_other kt_1_8__256 Gb30_30.out Dout_2_t_1.out
  replace Ot_1 := Lib.hid (own_other Ot_1.out Gb30_30.out Dout_2_t_1.out)
  clear Pb26_26 Gb30_30
  have kout_2_0__284 : wb30_30.cell? ⟨w_t_1.heap.size, 0, none⟩ = some (.int .i64 a_id) := Pb30_30.out.cells rfl 0 _ rfl
  have kout_2_1__285 : wb30_30.cell? ⟨w_t_1.heap.size, 1, none⟩ = some (.int .i64 a_day) := Pb30_30.out.cells rfl 1 _ rfl
  have kout_2_2__286 : wb30_30.cell? ⟨w_t_1.heap.size, 2, none⟩ = some (.int .i64 a_zone) := Pb30_30.out.cells rfl 2 _ rfl
  have kout_2_3__287 : wb30_30.cell? ⟨w_t_1.heap.size, 3, none⟩ = some (.int .i64 a_grams) := Pb30_30.out.cells rfl 3 _ rfl
  have kout_2_4__288 : wb30_30.cell? ⟨w_t_1.heap.size, 4, none⟩ = some (.int .i64 a_paid) := Pb30_30.out.cells rfl 4 _ rfl
  have kout_2_5__289 : wb30_30.cell? ⟨w_t_1.heap.size, 5, none⟩ = some (.int .i64 a_from_) := Pb30_30.out.cells rfl 5 _ rfl
  have kout_2_6__290 : wb30_30.cell? ⟨w_t_1.heap.size, 6, none⟩ = some (.int .i64 a_to_) := Pb30_30.out.cells rfl 6 _ rfl
  have kout_2_7__291 : wb30_30.cell? ⟨w_t_1.heap.size, 7, none⟩ = some (.int .i64 0) := Pb30_30.out.cells rfl 7 _ rfl
  have kout_2_8__292 : wb30_30.cell? ⟨w_t_1.heap.size, 8, none⟩ = some (.int .i64 0) := Pb30_30.out.cells rfl 8 _ rfl
  obtain ⟨wb34_34, hwb34_34⟩ : ∃ x, (wb30_30).setCell ⟨w_t_1.heap.size, 7, none⟩ (.int .i64 a_leave) = x := ⟨_, rfl⟩
  have z0b34_34 := Pb30_30.out.frozenAt 7
  have Sb34_34 := Lib.hid (own_stores [(7, .int .i64 a_leave)] Pb30_30.out)
  have Pb34_34 : Hid (wb34_34.ownsRow w.heap.size 25 9 (.slice (some ⟨w_t_1.heap.size, 0, none⟩) 1 1) 1 [.int .i64 a_id, .int .i64 a_day, .int .i64 a_zone, .int .i64 a_grams, .int .i64 a_paid, .int .i64 a_from_, .int .i64 a_to_, .int .i64 a_leave, .int .i64 0]) := Lib.hid (by rw [← hwb34_34]; exact Sb34_34.out.1)
  have Gb34_34 : Hid (wb30_30.grownBy wb34_34 (Value.slice (some ⟨w_t_1.heap.size, 0, none⟩) 1 1).ownBlock) := Lib.hid (by rw [← hwb34_34]; exact Sb34_34.out.2)
  have HBwb34_34 := Lib.hid (HBwb30_30.out.grown Gb34_34.out HBwb30_30.out.size (fun q hq => (Pb30_30.out.lt q hq).1))
  clear Sb34_34
  have ka_0_0__293 := cell_other ka_0_0__266 Gb34_34.out Dout_2_a_0.out
  have ka_0_1__294 := cell_other ka_0_1__267 Gb34_34.out Dout_2_a_0.out
  have ka_0_2__295 := cell_other ka_0_2__268 Gb34_34.out Dout_2_a_0.out
  have ka_0_3__296 := cell_other ka_0_3__269 Gb34_34.out Dout_2_a_0.out
  have ka_0_4__297 := cell_other ka_0_4__270 Gb34_34.out Dout_2_a_0.out
  have ka_0_5__298 := cell_other ka_0_5__271 Gb34_34.out Dout_2_a_0.out
  have ka_0_6__299 := cell_other ka_0_6__272 Gb34_34.out Dout_2_a_0.out
  have ka_0_7__300 := cell_other ka_0_7__273 Gb34_34.out Dout_2_a_0.out
  have ka_0_8__301 := cell_other ka_0_8__274 Gb34_34.out Dout_2_a_0.out
  have kt_1_0__302 := cell_other kt_1_0__275 Gb34_34.out Dout_2_t_1.out
  have kt_1_1__303 := cell_other kt_1_1__276 Gb34_34.out Dout_2_t_1.out
  have kt_1_2__304 := cell_other kt_1_2__277 Gb34_34.out Dout_2_t_1.out
  have kt_1_3__305 := cell_other kt_1_3__278 Gb34_34.out Dout_2_t_1.out
  have kt_1_4__306 := cell_other kt_1_4__279 Gb34_34.out Dout_2_t_1.out
  have kt_1_5__307 := cell_other kt_1_5__280 Gb34_34.out Dout_2_t_1.out
  have kt_1_6__308 := cell_other kt_1_6__281 Gb34_34.out Dout_2_t_1.out
  have kt_1_7__309 := cell_other kt_1_7__282 Gb34_34.out Dout_2_t_1.out
  have kt_1_8__310 := cell_other kt_1_8__283 Gb34_34.out Dout_2_t_1.out
  replace Ot_1 := Lib.hid (own_other Ot_1.out Gb34_34.out Dout_2_t_1.out)
  clear Pb30_30 Gb34_34
  have kout_2_0__311 : wb34_34.cell? ⟨w_t_1.heap.size, 0, none⟩ = some (.int .i64 a_id) := Pb34_34.out.cells rfl 0 _ rfl
  have kout_2_1__312 : wb34_34.cell? ⟨w_t_1.heap.size, 1, none⟩ = some (.int .i64 a_day) := Pb34_34.out.cells rfl 1 _ rfl
  have kout_2_2__313 : wb34_34.cell? ⟨w_t_1.heap.size, 2, none⟩ = some (.int .i64 a_zone) := Pb34_34.out.cells rfl 2 _ rfl
  have kout_2_3__314 : wb34_34.cell? ⟨w_t_1.heap.size, 3, none⟩ = some (.int .i64 a_grams) := Pb34_34.out.cells rfl 3 _ rfl
  have kout_2_4__315 : wb34_34.cell? ⟨w_t_1.heap.size, 4, none⟩ = some (.int .i64 a_paid) := Pb34_34.out.cells rfl 4 _ rfl
  have kout_2_5__316 : wb34_34.cell? ⟨w_t_1.heap.size, 5, none⟩ = some (.int .i64 a_from_) := Pb34_34.out.cells rfl 5 _ rfl
  have kout_2_6__317 : wb34_34.cell? ⟨w_t_1.heap.size, 6, none⟩ = some (.int .i64 a_to_) := Pb34_34.out.cells rfl 6 _ rfl
  have kout_2_7__318 : wb34_34.cell? ⟨w_t_1.heap.size, 7, none⟩ = some (.int .i64 a_leave) := Pb34_34.out.cells rfl 7 _ rfl
  have kout_2_8__319 : wb34_34.cell? ⟨w_t_1.heap.size, 8, none⟩ = some (.int .i64 0) := Pb34_34.out.cells rfl 8 _ rfl
  obtain ⟨wb38_38, hwb38_38⟩ : ∃ x, (wb34_34).setCell ⟨w_t_1.heap.size, 8, none⟩ (.int .i64 a_arrive) = x := ⟨_, rfl⟩
  have z0b38_38 := Pb34_34.out.frozenAt 8
  have Sb38_38 := Lib.hid (own_stores [(8, .int .i64 a_arrive)] Pb34_34.out)
  have Pb38_38 : Hid (wb38_38.ownsRow w.heap.size 25 9 (.slice (some ⟨w_t_1.heap.size, 0, none⟩) 1 1) 1 [.int .i64 a_id, .int .i64 a_day, .int .i64 a_zone, .int .i64 a_grams, .int .i64 a_paid, .int .i64 a_from_, .int .i64 a_to_, .int .i64 a_leave, .int .i64 a_arrive]) := Lib.hid (by rw [← hwb38_38]; exact Sb38_38.out.1)
  have Gb38_38 : Hid (wb34_34.grownBy wb38_38 (Value.slice (some ⟨w_t_1.heap.size, 0, none⟩) 1 1).ownBlock) := Lib.hid (by rw [← hwb38_38]; exact Sb38_38.out.2)
  have HBwb38_38 := Lib.hid (HBwb34_34.out.grown Gb38_38.out HBwb34_34.out.size (fun q hq => (Pb34_34.out.lt q hq).1))
  clear Sb38_38
  have ka_0_0__320 := cell_other ka_0_0__293 Gb38_38.out Dout_2_a_0.out
  have ka_0_1__321 := cell_other ka_0_1__294 Gb38_38.out Dout_2_a_0.out
  have ka_0_2__322 := cell_other ka_0_2__295 Gb38_38.out Dout_2_a_0.out
  have ka_0_3__323 := cell_other ka_0_3__296 Gb38_38.out Dout_2_a_0.out
  have ka_0_4__324 := cell_other ka_0_4__297 Gb38_38.out Dout_2_a_0.out
  have ka_0_5__325 := cell_other ka_0_5__298 Gb38_38.out Dout_2_a_0.out
  have ka_0_6__326 := cell_other ka_0_6__299 Gb38_38.out Dout_2_a_0.out
  have ka_0_7__327 := cell_other ka_0_7__300 Gb38_38.out Dout_2_a_0.out
  have ka_0_8__328 := cell_other ka_0_8__301 Gb38_38.out Dout_2_a_0.out
  have kt_1_0__329 := cell_other kt_1_0__302 Gb38_38.out Dout_2_t_1.out
  have kt_1_1__330 := cell_other kt_1_1__303 Gb38_38.out Dout_2_t_1.out
  have kt_1_2__331 := cell_other kt_1_2__304 Gb38_38.out Dout_2_t_1.out
  have kt_1_3__332 := cell_other kt_1_3__305 Gb38_38.out Dout_2_t_1.out
  have kt_1_4__333 := cell_other kt_1_4__306 Gb38_38.out Dout_2_t_1.out
  have kt_1_5__334 := cell_other kt_1_5__307 Gb38_38.out Dout_2_t_1.out
  have kt_1_6__335 := cell_other kt_1_6__308 Gb38_38.out Dout_2_t_1.out
  have kt_1_7__336 := cell_other kt_1_7__309 Gb38_38.out Dout_2_t_1.out
  have kt_1_8__337 := cell_other kt_1_8__310 Gb38_38.out Dout_2_t_1.out
  replace Ot_1 := Lib.hid (own_other Ot_1.out Gb38_38.out Dout_2_t_1.out)
  clear Pb34_34 Gb38_38
  have kout_2_0__338 : wb38_38.cell? ⟨w_t_1.heap.size, 0, none⟩ = some (.int .i64 a_id) := Pb38_38.out.cells rfl 0 _ rfl
  have kout_2_1__339 : wb38_38.cell? ⟨w_t_1.heap.size, 1, none⟩ = some (.int .i64 a_day) := Pb38_38.out.cells rfl 1 _ rfl
  have kout_2_2__340 : wb38_38.cell? ⟨w_t_1.heap.size, 2, none⟩ = some (.int .i64 a_zone) := Pb38_38.out.cells rfl 2 _ rfl
  have kout_2_3__341 : wb38_38.cell? ⟨w_t_1.heap.size, 3, none⟩ = some (.int .i64 a_grams) := Pb38_38.out.cells rfl 3 _ rfl
  have kout_2_4__342 : wb38_38.cell? ⟨w_t_1.heap.size, 4, none⟩ = some (.int .i64 a_paid) := Pb38_38.out.cells rfl 4 _ rfl
  have kout_2_5__343 : wb38_38.cell? ⟨w_t_1.heap.size, 5, none⟩ = some (.int .i64 a_from_) := Pb38_38.out.cells rfl 5 _ rfl
  have kout_2_6__344 : wb38_38.cell? ⟨w_t_1.heap.size, 6, none⟩ = some (.int .i64 a_to_) := Pb38_38.out.cells rfl 6 _ rfl
  have kout_2_7__345 : wb38_38.cell? ⟨w_t_1.heap.size, 7, none⟩ = some (.int .i64 a_leave) := Pb38_38.out.cells rfl 7 _ rfl
  have kout_2_8__346 : wb38_38.cell? ⟨w_t_1.heap.size, 8, none⟩ = some (.int .i64 a_arrive) := Pb38_38.out.cells rfl 8 _ rfl
  obtain ⟨wb40_40, hwb40_40⟩ : ∃ x, (((((((((wb38_38).setCell ⟨w_a_0.heap.size, 0, none⟩ (.int .i64 a_id)).setCell ⟨w_a_0.heap.size, 1, none⟩ (.int .i64 a_day)).setCell ⟨w_a_0.heap.size, 2, none⟩ (.int .i64 a_zone)).setCell ⟨w_a_0.heap.size, 3, none⟩ (.int .i64 a_grams)).setCell ⟨w_a_0.heap.size, 4, none⟩ (.int .i64 a_paid)).setCell ⟨w_a_0.heap.size, 5, none⟩ (.int .i64 a_from_)).setCell ⟨w_a_0.heap.size, 6, none⟩ (.int .i64 a_to_)).setCell ⟨w_a_0.heap.size, 7, none⟩ (.int .i64 a_leave)).setCell ⟨w_a_0.heap.size, 8, none⟩ (.int .i64 a_arrive) = x := ⟨_, rfl⟩
  have z0b40_40 := Ot_1.out.frozenAt 0
  have z1b40_40 := Ot_1.out.frozenAt 1
  have z2b40_40 := Ot_1.out.frozenAt 2
  have z3b40_40 := Ot_1.out.frozenAt 3
  have z4b40_40 := Ot_1.out.frozenAt 4
  have z5b40_40 := Ot_1.out.frozenAt 5
  have z6b40_40 := Ot_1.out.frozenAt 6
  have z7b40_40 := Ot_1.out.frozenAt 7
  have z8b40_40 := Ot_1.out.frozenAt 8
  have Sb40_40 := Lib.hid (own_stores [(0, .int .i64 a_id), (1, .int .i64 a_day), (2, .int .i64 a_zone), (3, .int .i64 a_grams), (4, .int .i64 a_paid), (5, .int .i64 a_from_), (6, .int .i64 a_to_), (7, .int .i64 a_leave), (8, .int .i64 a_arrive)] Ot_1.out)
  have Pb40_40 : Hid (wb40_40.ownsRow w.heap.size 25 9 (.slice (some ⟨w_a_0.heap.size, 0, none⟩) 1 1) 1 [.int .i64 a_id, .int .i64 a_day, .int .i64 a_zone, .int .i64 a_grams, .int .i64 a_paid, .int .i64 a_from_, .int .i64 a_to_, .int .i64 a_leave, .int .i64 a_arrive]) := Lib.hid (by rw [← hwb40_40]; exact Sb40_40.out.1)
  have Gb40_40 : Hid (wb38_38.grownBy wb40_40 (Value.slice (some ⟨w_a_0.heap.size, 0, none⟩) 1 1).ownBlock) := Lib.hid (by rw [← hwb40_40]; exact Sb40_40.out.2)
  have HBwb40_40 := Lib.hid (HBwb38_38.out.grown Gb40_40.out HBwb38_38.out.size (fun q hq => (Ot_1.out.lt q hq).1))
  clear Sb40_40
  have ka_0_0__347 := cell_other ka_0_0__320 Gb40_40.out Dt_1_a_0.out
  have ka_0_1__348 := cell_other ka_0_1__321 Gb40_40.out Dt_1_a_0.out
  have ka_0_2__349 := cell_other ka_0_2__322 Gb40_40.out Dt_1_a_0.out
  have ka_0_3__350 := cell_other ka_0_3__323 Gb40_40.out Dt_1_a_0.out
  have ka_0_4__351 := cell_other ka_0_4__324 Gb40_40.out Dt_1_a_0.out
  have ka_0_5__352 := cell_other ka_0_5__325 Gb40_40.out Dt_1_a_0.out
  have ka_0_6__353 := cell_other ka_0_6__326 Gb40_40.out Dt_1_a_0.out
  have ka_0_7__354 := cell_other ka_0_7__327 Gb40_40.out Dt_1_a_0.out
  have ka_0_8__355 := cell_other ka_0_8__328 Gb40_40.out Dt_1_a_0.out
  have kout_2_0__356 := cell_other kout_2_0__338 Gb40_40.out (Apart.symm Dout_2_t_1.out)
  have kout_2_1__357 := cell_other kout_2_1__339 Gb40_40.out (Apart.symm Dout_2_t_1.out)
  have kout_2_2__358 := cell_other kout_2_2__340 Gb40_40.out (Apart.symm Dout_2_t_1.out)
  have kout_2_3__359 := cell_other kout_2_3__341 Gb40_40.out (Apart.symm Dout_2_t_1.out)
  have kout_2_4__360 := cell_other kout_2_4__342 Gb40_40.out (Apart.symm Dout_2_t_1.out)
  have kout_2_5__361 := cell_other kout_2_5__343 Gb40_40.out (Apart.symm Dout_2_t_1.out)
  have kout_2_6__362 := cell_other kout_2_6__344 Gb40_40.out (Apart.symm Dout_2_t_1.out)
  have kout_2_7__363 := cell_other kout_2_7__345 Gb40_40.out (Apart.symm Dout_2_t_1.out)
  have kout_2_8__364 := cell_other kout_2_8__346 Gb40_40.out (Apart.symm Dout_2_t_1.out)
  replace Pb38_38 := Lib.hid (own_other Pb38_38.out Gb40_40.out (Apart.symm Dout_2_t_1.out))
  clear Ot_1 Gb40_40
  have kt_1_0__365 : wb40_40.cell? ⟨w_a_0.heap.size, 0, none⟩ = some (.int .i64 a_id) := Pb40_40.out.cells rfl 0 _ rfl
  have kt_1_1__366 : wb40_40.cell? ⟨w_a_0.heap.size, 1, none⟩ = some (.int .i64 a_day) := Pb40_40.out.cells rfl 1 _ rfl
  have kt_1_2__367 : wb40_40.cell? ⟨w_a_0.heap.size, 2, none⟩ = some (.int .i64 a_zone) := Pb40_40.out.cells rfl 2 _ rfl
  have kt_1_3__368 : wb40_40.cell? ⟨w_a_0.heap.size, 3, none⟩ = some (.int .i64 a_grams) := Pb40_40.out.cells rfl 3 _ rfl
  have kt_1_4__369 : wb40_40.cell? ⟨w_a_0.heap.size, 4, none⟩ = some (.int .i64 a_paid) := Pb40_40.out.cells rfl 4 _ rfl
  have kt_1_5__370 : wb40_40.cell? ⟨w_a_0.heap.size, 5, none⟩ = some (.int .i64 a_from_) := Pb40_40.out.cells rfl 5 _ rfl
  have kt_1_6__371 : wb40_40.cell? ⟨w_a_0.heap.size, 6, none⟩ = some (.int .i64 a_to_) := Pb40_40.out.cells rfl 6 _ rfl
  have kt_1_7__372 : wb40_40.cell? ⟨w_a_0.heap.size, 7, none⟩ = some (.int .i64 a_leave) := Pb40_40.out.cells rfl 7 _ rfl
  have kt_1_8__373 : wb40_40.cell? ⟨w_a_0.heap.size, 8, none⟩ = some (.int .i64 a_arrive) := Pb40_40.out.cells rfl 8 _ rfl
  cases ret_hid H
  go_wp2_with fail
  (try simp only [Exit.inBlock, Exit.then])
  refine bodyPost_ret (v := .agg #[.int .i64 a_id, .int .i64 a_day, .int .i64 a_zone, .int .i64 a_grams, .int .i64 a_paid, .int .i64 a_from_, .int .i64 a_to_, .int .i64 a_leave, .int .i64 a_arrive]) ?hr_ ?hd_ ?_
  case hd_ => rfl
  case hr_ => simp [results, Try.results17, kt_1_0__365, kt_1_1__366, kt_1_2__367, kt_1_3__368, kt_1_4__369, kt_1_5__370, kt_1_6__371, kt_1_7__372, kt_1_8__373, go_sem]
  exact ⟨rfl, HBwb40_40.out⟩
end Go.Proofs.Ytlljmgphgmklcaa.GlToCover

/- loop.example/g01062/laws.toCoverS as a plain function, and the contract of the program's: where the plain one has an answer, the program has it. Conditions: slices read as lists. -/
namespace Go.Proofs.Ytlljmgphgmklcaa.GlToCoverS
set_option linter.unusedVariables false
set_option linter.unusedSimpArgs false
open Go.RowKit
open Go.Proofs.Ytlljmgphgmklcaa.Rowed Go.Proofs.Ytlljmgphgmklcaa.Turn Go.Proofs.Ytlljmgphgmklcaa.Aid Go.Proofs.Ytlljmgphgmklcaa.GoP Go.Proofs.Ytlljmgphgmklcaa.GoM

def l0 (a : (List Go.Proofs.Ytlljmgphgmklcaa.PCover.Cover)) (k0 : Nat) (s : (List Go.Proofs.Ytlljmgphgmklcaa.PCover.Cover)) (nx0 bk0 : (List Go.Proofs.Ytlljmgphgmklcaa.PCover.Cover) → Option ((List Go.Proofs.Ytlljmgphgmklcaa.PCover.Cover))) : Option ((List Go.Proofs.Ytlljmgphgmklcaa.PCover.Cover)) :=
  letK s fun out_3l0 =>
  Option.bind (idx a (k0 : Int)) fun (yt_14 : Go.Proofs.Ytlljmgphgmklcaa.PCover.Cover) =>
  unCover yt_14 fun (t_14_id : Int) (t_14_day : Int) (t_14_zone : Int) (t_14_grams : Int) (t_14_paid : Int) (t_14_from_ : Int) (t_14_to_ : Int) (t_14_leave : Int) (t_14_arrive : Int) =>
  Option.bind (Go.Proofs.Ytlljmgphgmklcaa.GlToCover.P (Go.Proofs.Ytlljmgphgmklcaa.PCover.Cover.mk t_14_id t_14_day t_14_zone t_14_grams t_14_paid t_14_from_ t_14_to_ t_14_leave t_14_arrive)) fun (t_16 : Go.Proofs.Ytlljmgphgmklcaa.PCover.Cover) =>
  unCover t_16 fun (t_16_id : Int) (t_16_day : Int) (t_16_zone : Int) (t_16_grams : Int) (t_16_paid : Int) (t_16_from_ : Int) (t_16_to_ : Int) (t_16_leave : Int) (t_16_arrive : Int) =>
  Option.bind (idx out_3l0 (k0 : Int)) fun (yt_17 : Go.Proofs.Ytlljmgphgmklcaa.PCover.Cover) =>
  unCover yt_17 fun (t_17_id : Int) (t_17_day : Int) (t_17_zone : Int) (t_17_grams : Int) (t_17_paid : Int) (t_17_from_ : Int) (t_17_to_ : Int) (t_17_leave : Int) (t_17_arrive : Int) =>
  letK (out_3l0.set k0 (Go.Proofs.Ytlljmgphgmklcaa.PCover.Cover.mk t_16_id t_16_day t_16_zone t_16_grams t_16_paid t_16_from_ t_16_to_ t_16_leave t_16_arrive)) fun (l18_18 : (List Go.Proofs.Ytlljmgphgmklcaa.PCover.Cover)) =>
  appK nx0 (l18_18)

def e0  (s : (List Go.Proofs.Ytlljmgphgmklcaa.PCover.Cover)) : Option ((List Go.Proofs.Ytlljmgphgmklcaa.PCover.Cover)) :=
  letK s fun out_3l0 =>
  some out_3l0

def P (a : (List Go.Proofs.Ytlljmgphgmklcaa.PCover.Cover)) : Option ((List Go.Proofs.Ytlljmgphgmklcaa.PCover.Cover)) :=
  guardK (0 ≤ (a.length : Int) ∧ (a.length : Int) ≤ 1099511627776) <|
  letK (List.replicate a.length (Go.Proofs.Ytlljmgphgmklcaa.PCover.Cover.mk 0 0 0 0 0 0 0 0 0)) fun (t_3 : (List Go.Proofs.Ytlljmgphgmklcaa.PCover.Cover)) =>
  cntK (l0 a) (a.length) 0 (t_3) (e0 )

set_option maxRecDepth 100000 in
set_option maxHeartbeats 2000000 in
theorem C (a : (List Go.Proofs.Ytlljmgphgmklcaa.PCover.Cover)) (A0 : Option Addr) (c0 : Nat)  (w : World) (M0 : Hid (Cells w 9 A0 a.length (Go.Proofs.Ytlljmgphgmklcaa.PCover.flat a))) (N0 : Hid (a.length ≤ 9223372036854775807))  {r : (List Go.Proofs.Ytlljmgphgmklcaa.PCover.Cover)} (H : Hid (P a = some r)) :
    Calls Try.prog 21 #[.slice A0 a.length c0] w (fun e w' => ∃ A_r c_r, e = .returned (.slice A_r r.length c_r) ∧ w'.ownsRow w.heap.size 25 9 (.slice A_r r.length c_r) r.length (Go.Proofs.Ytlljmgphgmklcaa.PCover.flat r) ∧ Below w.heap.size w w') := by
  have HB := Lib.hid (Below.refl w.heap.size w)
  unfold P at H
  have N0o := N0.out
  obtain ⟨i0_25, hi_25, hz0_25, hz1_25, hz2_25⟩ := Aid.info_parts (P := Try.prog) (T := 25) (z := .agg #[.int .i64 0, .int .i64 0, .int .i64 0, .int .i64 0, .int .i64 0, .int .i64 0, .int .i64 0, .int .i64 0, .int .i64 0]) (s := 9) (b := 72) (by kernel_rfl)
  go_enter Try.func21, Try.ntmps21
  replace H := guard_hid H
  obtain ⟨hnt_3, H⟩ := H
  replace H := let_hid H
  obtain ⟨t_3, ht_3, H⟩ := H
  have hst_3 := HB.out.size
  have hlt_3 : t_3.length = a.length := by rw [← ht_3]; simp
  have hht_3 := Lib.hid ht_3
  clear ht_3
  go_wp2_with (at_make; refine wpList_make_full _ rfl _ _ 31 rfl w.heap.size 25 i0_25 (.agg #[.int .i64 0, .int .i64 0, .int .i64 0, .int .i64 0, .int .i64 0, .int .i64 0, .int .i64 0, .int .i64 0, .int .i64 0]) 9 Try.underlying31 hi_25 hz0_25 hz1_25 .i64 .i64 _ _ a.length rfl rfl (by omega) (by omega) (by rw [hz2_25]; omega) (by unfold maxLen; omega) hst_3 ?_; intro wt_3 ot_3 gt_3; have Qt_3 := Lib.hid ot_3; have Gt_3 := Lib.hid gt_3; clear ot_3 gt_3; refine stop_in ?_)
  refine stop_out ?_
  have hv_ : (Value.slice (some ⟨w.heap.size, 0, none⟩) a.length a.length : Value) = Value.slice (some ⟨w.heap.size, 0, none⟩) t_3.length a.length := by rw [hlt_3]
  rw [hv_]
  clear hv_
  have Et_3 : (Go.Proofs.Ytlljmgphgmklcaa.PCover.flat t_3) = (madeCells (.agg #[.int .i64 0, .int .i64 0, .int .i64 0, .int .i64 0, .int .i64 0, .int .i64 0, .int .i64 0, .int .i64 0, .int .i64 0] : Value).cells (a.length * 9)).toList := by
    rw [made_flat Go.Proofs.Ytlljmgphgmklcaa.PCover.Cover.cells (Go.Proofs.Ytlljmgphgmklcaa.PCover.Cover.mk 0 0 0 0 0 0 0 0 0) _ 9 _ rfl rfl (by decide), ← hht_3.out]
    rfl
  have Pt_3 : Hid (wt_3.ownsRow w.heap.size 25 9 (.slice (some ⟨w.heap.size, 0, none⟩) a.length a.length) a.length (Go.Proofs.Ytlljmgphgmklcaa.PCover.flat t_3)) := Lib.hid (by rw [Et_3]; exact Qt_3.out)
  clear Et_3
  replace hlt_3 := Lib.hid hlt_3
  clear Qt_3 hst_3
  have bt_3 : Below w.heap.size w wt_3 := (Below.refl _ _).grown Gt_3.out (Nat.le_refl _) (by simp)
  clear Gt_3
  have HBwt_3 := Lib.hid (Below.step HB.out bt_3)
  clear bt_3
  replace Pt_3 := Lib.hid (own_len hlt_3.out Pt_3.out)
  go_wp2_with fail
  go_wp2_with fail
  go_loopg [4] (a.length) (fun m_ v4_ wr => ∃ (k0 : Nat) (out_3l0 : (List Go.Proofs.Ytlljmgphgmklcaa.PCover.Cover)), k0 + m_ = a.length ∧ v4_ = .int .i64 (k0 : Int) ∧ Hid (cntK (l0 a) m_ k0 (out_3l0) (e0 ) = some r) ∧ Hid (Below w.heap.size w wr) ∧ Hid (wr.ownsRow w.heap.size 25 9 (.slice (some ⟨w.heap.size, 0, none⟩) t_3.length a.length) t_3.length (Go.Proofs.Ytlljmgphgmklcaa.PCover.flat out_3l0)) ∧ Hid (out_3l0.length = t_3.length))
  case atStart => exact ⟨0, _, by omega, rfl, H, HBwt_3, Pt_3, Lib.hid (rfl)⟩
  case round =>
    obtain ⟨k0, out_3l0, hkm0, rfl, H, HBwr0, Oout_3l0, hnout_3l0⟩ := hrel
    rename World => wr0
    cases gk with
    | zero =>
      obtain rfl : k0 = a.length := by omega
      have hc0 : decide (((a.length : Nat) : Int) < ((a.length : Nat) : Int)) = false := by simp
      replace H := cnt_zero H
      unfold e0 at H
      replace H := let_hid H
      obtain ⟨_, rfl, H⟩ := H
      obtain rfl := ret_hid H
      go_wp2_with fail
      go_ret
      have hr_0 := hnout_3l0.out
      replace Oout_3l0 := Lib.hid (own_len hr_0 Oout_3l0.out)
      exact ⟨(some ⟨w.heap.size, 0, none⟩), a.length, (by first | (rw [hr_0]; done) | (rw [hr_0]; rfl)), Oout_3l0.out, HBwr0.out⟩
    | succ m0 =>
      have hlt0 : k0 < a.length := by omega
      have hc0 : decide ((k0 : Int) < ((a.length : Nat) : Int)) = true := by simp; omega
      replace H := cnt_succ H
      unfold l0 at H
      replace H := let_hid H
      obtain ⟨_, rfl, H⟩ := H
      replace H := idx_hid H
      obtain ⟨nt_14, yt_14, et_14, lt_14, gt_14, H⟩ := H
      obtain rfl : k0 = nt_14 := by omega
      clear et_14
      obtain ⟨t_14_id, t_14_day, t_14_zone, t_14_grams, t_14_paid, t_14_from_, t_14_to_, t_14_leave, t_14_arrive⟩ := yt_14
      replace H := unCover_hid H
      obtain ⟨ab_t_14, ao_t_14, zt_14, At_14, z_t_14, ct_14_0, ct_14_1, ct_14_2, ct_14_3, ct_14_4, ct_14_5, ct_14_6, ct_14_7, ct_14_8⟩ := Go.Proofs.Ytlljmgphgmklcaa.OCover.at_ M0.out lt_14
      obtain rfl := Option.some.inj (gt_14.out.symm.trans z_t_14)
      subst At_14
      have ltt_14 := cell_lt ct_14_0
      replace ct_14_0 := cell_below HBwr0.out ct_14_0
      replace ct_14_1 := cell_below HBwr0.out ct_14_1
      replace ct_14_2 := cell_below HBwr0.out ct_14_2
      replace ct_14_3 := cell_below HBwr0.out ct_14_3
      replace ct_14_4 := cell_below HBwr0.out ct_14_4
      replace ct_14_5 := cell_below HBwr0.out ct_14_5
      replace ct_14_6 := cell_below HBwr0.out ct_14_6
      replace ct_14_7 := cell_below HBwr0.out ct_14_7
      replace ct_14_8 := cell_below HBwr0.out ct_14_8
      clear z_t_14
      have b0t_14 : (0 : Int) ≤ (k0 : Int) := by omega
      have b1t_14 : (k0 : Int) < ((a.length : Nat) : Int) := by omega
      have b2t_14 : ((k0 : Int)).toNat = k0 := by omega
      replace H := bind_hid H
      obtain ⟨t_16, qt_16, H⟩ := H
      obtain ⟨t_16_id, t_16_day, t_16_zone, t_16_grams, t_16_paid, t_16_from_, t_16_to_, t_16_leave, t_16_arrive⟩ := t_16
      replace H := unCover_hid H
      go_wp2_with fail
      go_at_call 17
      refine (Go.Proofs.Ytlljmgphgmklcaa.GlToCover.C ((Go.Proofs.Ytlljmgphgmklcaa.PCover.Cover.mk t_14_id t_14_day t_14_zone t_14_grams t_14_paid t_14_from_ t_14_to_ t_14_leave t_14_arrive))  _    qt_16).mono ?_
      rintro e_t_16 wt_16 ⟨rfl, bt_16⟩
      unfold Go.Proofs.Ytlljmgphgmklcaa.PCover.Cover.val
      have HBwt_16 := Lib.hid (Below.step HBwr0.out bt_16)
      replace ct_14_0 := cell_below bt_16 ct_14_0
      replace ct_14_1 := cell_below bt_16 ct_14_1
      replace ct_14_2 := cell_below bt_16 ct_14_2
      replace ct_14_3 := cell_below bt_16 ct_14_3
      replace ct_14_4 := cell_below bt_16 ct_14_4
      replace ct_14_5 := cell_below bt_16 ct_14_5
      replace ct_14_6 := cell_below bt_16 ct_14_6
      replace ct_14_7 := cell_below bt_16 ct_14_7
      replace ct_14_8 := cell_below bt_16 ct_14_8
      replace Oout_3l0 := Lib.hid (own_below Oout_3l0.out bt_16)
      clear bt_16
      replace H := idx_hid H
      obtain ⟨nt_17, yt_17, et_17, lt_17, gt_17, H⟩ := H
      obtain rfl : k0 = nt_17 := by omega
      clear et_17
      obtain ⟨t_17_id, t_17_day, t_17_zone, t_17_grams, t_17_paid, t_17_from_, t_17_to_, t_17_leave, t_17_arrive⟩ := yt_17
      replace H := unCover_hid H
      have hqt_17 := hnout_3l0.out
      obtain ⟨ab_t_17, ao_t_17, zt_17, At_17, z_t_17, ct_17_0, ct_17_1, ct_17_2, ct_17_3, ct_17_4, ct_17_5, ct_17_6, ct_17_7, ct_17_8⟩ := Go.Proofs.Ytlljmgphgmklcaa.OCover.at_ (own_cells Oout_3l0.out) (k := k0) (by omega)
      obtain rfl := Option.some.inj (gt_17.out.symm.trans z_t_17)
      simp only [Option.some.injEq, Addr.mk.injEq] at At_17
      obtain ⟨rfl, rfl, _⟩ := At_17
      clear z_t_17
      simp only [Nat.zero_add] at ct_17_0 ct_17_1 ct_17_2 ct_17_3 ct_17_4 ct_17_5 ct_17_6 ct_17_7 ct_17_8
      have b0t_17 : (0 : Int) ≤ (k0 : Int) := by omega
      have b1t_17 : (k0 : Int) < ((t_3.length : Nat) : Int) := by omega
      have b2t_17 : ((k0 : Int)).toNat = k0 := by omega
      clear hqt_17
      replace H := let_hid H
      obtain ⟨l18_18, hl18_18, H⟩ := H
      try simp only [Int.toNat_natCast] at hl18_18
      obtain ⟨wl18_18, hwl18_18⟩ : ∃ x, (((((((((wt_16).setCell ⟨w.heap.size, k0 * 9, none⟩ (.int .i64 t_16_id)).setCell ⟨w.heap.size, k0 * 9 + 1, none⟩ (.int .i64 t_16_day)).setCell ⟨w.heap.size, k0 * 9 + 2, none⟩ (.int .i64 t_16_zone)).setCell ⟨w.heap.size, k0 * 9 + 3, none⟩ (.int .i64 t_16_grams)).setCell ⟨w.heap.size, k0 * 9 + 4, none⟩ (.int .i64 t_16_paid)).setCell ⟨w.heap.size, k0 * 9 + 5, none⟩ (.int .i64 t_16_from_)).setCell ⟨w.heap.size, k0 * 9 + 6, none⟩ (.int .i64 t_16_to_)).setCell ⟨w.heap.size, k0 * 9 + 7, none⟩ (.int .i64 t_16_leave)).setCell ⟨w.heap.size, k0 * 9 + 8, none⟩ (.int .i64 t_16_arrive) = x := ⟨_, rfl⟩
      have z0l18_18 := Oout_3l0.out.frozenAt (k0 * 9)
      have z1l18_18 := Oout_3l0.out.frozenAt (k0 * 9 + 1)
      have z2l18_18 := Oout_3l0.out.frozenAt (k0 * 9 + 2)
      have z3l18_18 := Oout_3l0.out.frozenAt (k0 * 9 + 3)
      have z4l18_18 := Oout_3l0.out.frozenAt (k0 * 9 + 4)
      have z5l18_18 := Oout_3l0.out.frozenAt (k0 * 9 + 5)
      have z6l18_18 := Oout_3l0.out.frozenAt (k0 * 9 + 6)
      have z7l18_18 := Oout_3l0.out.frozenAt (k0 * 9 + 7)
      have z8l18_18 := Oout_3l0.out.frozenAt (k0 * 9 + 8)
      have Sl18_18 := Lib.hid (own_stores [(k0 * 9, .int .i64 t_16_id), (k0 * 9 + 1, .int .i64 t_16_day), (k0 * 9 + 2, .int .i64 t_16_zone), (k0 * 9 + 3, .int .i64 t_16_grams), (k0 * 9 + 4, .int .i64 t_16_paid), (k0 * 9 + 5, .int .i64 t_16_from_), (k0 * 9 + 6, .int .i64 t_16_to_), (k0 * 9 + 7, .int .i64 t_16_leave), (k0 * 9 + 8, .int .i64 t_16_arrive)] Oout_3l0.out)
      have nl18_18 : Hid (l18_18.length = t_3.length) := Lib.hid (by rw [← hl18_18, List.length_set]; exact hnout_3l0.out)
      have Pl18_18 : Hid (wl18_18.ownsRow w.heap.size 25 9 (.slice (some ⟨w.heap.size, 0, none⟩) t_3.length a.length) t_3.length (Go.Proofs.Ytlljmgphgmklcaa.PCover.flat l18_18)) := Lib.hid (by have es_ := set_self gt_17.out; have e0_ := flat_set Go.Proofs.Ytlljmgphgmklcaa.PCover.Cover.cells 9 (fun _ => rfl) out_3l0 (k0) 0 (Go.Proofs.Ytlljmgphgmklcaa.PCover.Cover.mk t_17_id t_17_day t_17_zone t_17_grams t_17_paid t_17_from_ t_17_to_ t_17_leave t_17_arrive) (Go.Proofs.Ytlljmgphgmklcaa.PCover.Cover.mk t_16_id t_17_day t_17_zone t_17_grams t_17_paid t_17_from_ t_17_to_ t_17_leave t_17_arrive) (.int .i64 t_16_id) lt_17 (by decide) rfl; have e1_ := flat_set Go.Proofs.Ytlljmgphgmklcaa.PCover.Cover.cells 9 (fun _ => rfl) out_3l0 (k0) 1 (Go.Proofs.Ytlljmgphgmklcaa.PCover.Cover.mk t_16_id t_17_day t_17_zone t_17_grams t_17_paid t_17_from_ t_17_to_ t_17_leave t_17_arrive) (Go.Proofs.Ytlljmgphgmklcaa.PCover.Cover.mk t_16_id t_16_day t_17_zone t_17_grams t_17_paid t_17_from_ t_17_to_ t_17_leave t_17_arrive) (.int .i64 t_16_day) lt_17 (by decide) rfl; have e2_ := flat_set Go.Proofs.Ytlljmgphgmklcaa.PCover.Cover.cells 9 (fun _ => rfl) out_3l0 (k0) 2 (Go.Proofs.Ytlljmgphgmklcaa.PCover.Cover.mk t_16_id t_16_day t_17_zone t_17_grams t_17_paid t_17_from_ t_17_to_ t_17_leave t_17_arrive) (Go.Proofs.Ytlljmgphgmklcaa.PCover.Cover.mk t_16_id t_16_day t_16_zone t_17_grams t_17_paid t_17_from_ t_17_to_ t_17_leave t_17_arrive) (.int .i64 t_16_zone) lt_17 (by decide) rfl; have e3_ := flat_set Go.Proofs.Ytlljmgphgmklcaa.PCover.Cover.cells 9 (fun _ => rfl) out_3l0 (k0) 3 (Go.Proofs.Ytlljmgphgmklcaa.PCover.Cover.mk t_16_id t_16_day t_16_zone t_17_grams t_17_paid t_17_from_ t_17_to_ t_17_leave t_17_arrive) (Go.Proofs.Ytlljmgphgmklcaa.PCover.Cover.mk t_16_id t_16_day t_16_zone t_16_grams t_17_paid t_17_from_ t_17_to_ t_17_leave t_17_arrive) (.int .i64 t_16_grams) lt_17 (by decide) rfl; have e4_ := flat_set Go.Proofs.Ytlljmgphgmklcaa.PCover.Cover.cells 9 (fun _ => rfl) out_3l0 (k0) 4 (Go.Proofs.Ytlljmgphgmklcaa.PCover.Cover.mk t_16_id t_16_day t_16_zone t_16_grams t_17_paid t_17_from_ t_17_to_ t_17_leave t_17_arrive) (Go.Proofs.Ytlljmgphgmklcaa.PCover.Cover.mk t_16_id t_16_day t_16_zone t_16_grams t_16_paid t_17_from_ t_17_to_ t_17_leave t_17_arrive) (.int .i64 t_16_paid) lt_17 (by decide) rfl; have e5_ := flat_set Go.Proofs.Ytlljmgphgmklcaa.PCover.Cover.cells 9 (fun _ => rfl) out_3l0 (k0) 5 (Go.Proofs.Ytlljmgphgmklcaa.PCover.Cover.mk t_16_id t_16_day t_16_zone t_16_grams t_16_paid t_17_from_ t_17_to_ t_17_leave t_17_arrive) (Go.Proofs.Ytlljmgphgmklcaa.PCover.Cover.mk t_16_id t_16_day t_16_zone t_16_grams t_16_paid t_16_from_ t_17_to_ t_17_leave t_17_arrive) (.int .i64 t_16_from_) lt_17 (by decide) rfl; have e6_ := flat_set Go.Proofs.Ytlljmgphgmklcaa.PCover.Cover.cells 9 (fun _ => rfl) out_3l0 (k0) 6 (Go.Proofs.Ytlljmgphgmklcaa.PCover.Cover.mk t_16_id t_16_day t_16_zone t_16_grams t_16_paid t_16_from_ t_17_to_ t_17_leave t_17_arrive) (Go.Proofs.Ytlljmgphgmklcaa.PCover.Cover.mk t_16_id t_16_day t_16_zone t_16_grams t_16_paid t_16_from_ t_16_to_ t_17_leave t_17_arrive) (.int .i64 t_16_to_) lt_17 (by decide) rfl; have e7_ := flat_set Go.Proofs.Ytlljmgphgmklcaa.PCover.Cover.cells 9 (fun _ => rfl) out_3l0 (k0) 7 (Go.Proofs.Ytlljmgphgmklcaa.PCover.Cover.mk t_16_id t_16_day t_16_zone t_16_grams t_16_paid t_16_from_ t_16_to_ t_17_leave t_17_arrive) (Go.Proofs.Ytlljmgphgmklcaa.PCover.Cover.mk t_16_id t_16_day t_16_zone t_16_grams t_16_paid t_16_from_ t_16_to_ t_16_leave t_17_arrive) (.int .i64 t_16_leave) lt_17 (by decide) rfl; have e8_ := flat_set Go.Proofs.Ytlljmgphgmklcaa.PCover.Cover.cells 9 (fun _ => rfl) out_3l0 (k0) 8 (Go.Proofs.Ytlljmgphgmklcaa.PCover.Cover.mk t_16_id t_16_day t_16_zone t_16_grams t_16_paid t_16_from_ t_16_to_ t_16_leave t_17_arrive) (Go.Proofs.Ytlljmgphgmklcaa.PCover.Cover.mk t_16_id t_16_day t_16_zone t_16_grams t_16_paid t_16_from_ t_16_to_ t_16_leave t_16_arrive) (.int .i64 t_16_arrive) lt_17 (by decide) rfl; rw [es_] at e0_; have e_ : ([(k0 * 9, .int .i64 t_16_id), (k0 * 9 + 1, .int .i64 t_16_day), (k0 * 9 + 2, .int .i64 t_16_zone), (k0 * 9 + 3, .int .i64 t_16_grams), (k0 * 9 + 4, .int .i64 t_16_paid), (k0 * 9 + 5, .int .i64 t_16_from_), (k0 * 9 + 6, .int .i64 t_16_to_), (k0 * 9 + 7, .int .i64 t_16_leave), (k0 * 9 + 8, .int .i64 t_16_arrive)] : List (Nat × Value)).foldl (fun xs p => xs.set p.1 p.2) (Go.Proofs.Ytlljmgphgmklcaa.PCover.flat out_3l0) = (Go.Proofs.Ytlljmgphgmklcaa.PCover.flat l18_18) := (by rw [← hl18_18]; show _ = List.flatMap Go.Proofs.Ytlljmgphgmklcaa.PCover.Cover.cells _; first | (rw [← e8_, ← e7_, ← e6_, ← e5_, ← e4_, ← e3_, ← e2_, ← e1_, ← e0_]; first | done | rfl) | (rw [← e8_, ← e7_, ← e6_, ← e5_, ← e4_, ← e3_, ← e2_, ← e1_, es_, ← e0_]; first | done | rfl)); rw [← hwl18_18, ← e_]; exact Sl18_18.out.1)
      have Gl18_18 : Hid (wt_16.grownBy wl18_18 (Value.slice (some ⟨w.heap.size, 0, none⟩) t_3.length a.length).ownBlock) := Lib.hid (by rw [← hwl18_18]; exact Sl18_18.out.2)
      have HBwl18_18 := Lib.hid (HBwt_16.out.grown Gl18_18.out HBwt_16.out.size (fun q hq => (Oout_3l0.out.lt q hq).1))
      have hhl18_18 := Lib.hid hl18_18
      clear hl18_18 Sl18_18
      have ct_14_0__374 := cell_other ct_14_0 Gl18_18.out (apart_old Oout_3l0.out ltt_14)
      have ct_14_1__375 := cell_other ct_14_1 Gl18_18.out (apart_old Oout_3l0.out ltt_14)
      have ct_14_2__376 := cell_other ct_14_2 Gl18_18.out (apart_old Oout_3l0.out ltt_14)
      have ct_14_3__377 := cell_other ct_14_3 Gl18_18.out (apart_old Oout_3l0.out ltt_14)
      have ct_14_4__378 := cell_other ct_14_4 Gl18_18.out (apart_old Oout_3l0.out ltt_14)
      have ct_14_5__379 := cell_other ct_14_5 Gl18_18.out (apart_old Oout_3l0.out ltt_14)
      have ct_14_6__380 := cell_other ct_14_6 Gl18_18.out (apart_old Oout_3l0.out ltt_14)
      have ct_14_7__381 := cell_other ct_14_7 Gl18_18.out (apart_old Oout_3l0.out ltt_14)
      have ct_14_8__382 := cell_other ct_14_8 Gl18_18.out (apart_old Oout_3l0.out ltt_14)
      clear Oout_3l0 Gl18_18
      replace H := app_hid H
      go_wp2_with fail
      clear z0l18_18 z1l18_18 z2l18_18 z3l18_18 z4l18_18 z5l18_18 z6l18_18 z7l18_18 z8l18_18 ct_14_0 ct_14_1 ct_14_2 ct_14_3 ct_14_4 ct_14_5 ct_14_6 ct_14_7 ct_14_8 ct_17_0 ct_17_1 ct_17_2 ct_17_3 ct_17_4 ct_17_5 ct_17_6 ct_17_7 ct_17_8
      go_roundg m0
      case measure => omega
      case rel => exact ⟨k0 + 1, _, by omega, by go_num, H, HBwl18_18, Pl18_18, Lib.hid (nl18_18.out)⟩
end Go.Proofs.Ytlljmgphgmklcaa.GlToCoverS

/- The contracts of the laws' helpers on slices of ints: toIntS, eqIntS, markIntS, heldIntS. Condition: the slice reads as a list of ints. -/
namespace Go.Proofs.Ytlljmgphgmklcaa.HelpInt
set_option linter.unusedVariables false
open Go.RowKit
open Go.Proofs.Ytlljmgphgmklcaa.Rowed

/-- ints as values -/
def iv (l : List Int) : List Value := l.map (Value.int .i64)
theorem iv_len (l : List Int) : (iv l).length = l.length := by simp [iv]
theorem iv_at (l : List Int) (k : Nat) : (iv l)[k]? = (l[k]?).map (Value.int .i64) := by simp [iv]
theorem iv_snoc (l : List Int) (x : Int) : iv (l ++ [x]) = iv l ++ [.int .i64 x] := by simp [iv]
/-- the slice 'A, n' reads as the ints l -/
abbrev Ints (w : World) (A : Option Addr) (n : Nat) (l : List Int) : Prop := Cells w 1 A n (iv l)
theorem add_none (b o n : Nat) : (⟨b, o, none⟩ : Addr).add n = ⟨b, o + n, none⟩ := by
  unfold Addr.add; split
  · rename_i h; subst h; rfl
  · rfl
theorem Ints.at_ {w : World} {A : Option Addr} {n k : Nat} {l : List Int} (h : Ints w A n l) (hk : k < n) : ∃ (b o : Nat) (x : Int), A = some ⟨b, o, none⟩ ∧ l[k]? = some x ∧ w.cell? ⟨b, o + k, none⟩ = some (.int .i64 x) := by
  have hl : k < l.length := by have := h.1; rw [iv_len] at this; omega
  obtain ⟨⟨b, o, sp⟩, e, hc⟩ := h.2 (by rw [iv_len]; omega)
  have h0 := hc 0 _ (by rw [iv_at, List.getElem?_eq_getElem (show 0 < l.length by omega)]; rfl)
  obtain rfl : sp = none := cell_spot (b := b) (o := o) h0
  have hs := List.getElem?_eq_getElem hl
  have := hc k (.int .i64 l[k]) (by rw [iv_at, hs]; rfl)
  rw [add_none] at this
  exact ⟨b, o, l[k], e, hs, this⟩

set_option maxHeartbeats 800000 in
/-- eqIntS, where both slices hold the same ints -/
theorem eq_same (A B : Option Addr) (n c d : Nat) (l : List Int) (w : World) (h1 : Ints w A n l) (h2 : Ints w B n l) (hn : n ≤ 9223372036854775807) :
    Calls Try.prog 34 #[.slice A n c, .slice B n d] w fun e w' => e = .returned (.bool true) ∧ DrawnTo w w' := by
  have H1 := Lib.hid h1
  have H2 := Lib.hid h2
  clear h1 h2
  go_enter Try.func34, Try.ntmps34
  go_wp2
  go_loopw [5] (fun i wr => ∃ k : Nat, k ≤ n ∧ i = .int .i64 k ∧ DrawnTo w wr) (fun i _ => n - (intOf i).toNat)
  case atStart => exact ⟨0, Nat.zero_le _, rfl, 0, rfl⟩
  case round =>
    obtain ⟨k, hk, rfl, m, rfl⟩ := hrel
    by_cases hlt : k < n
    · obtain ⟨ab, ao, x, rfl, hx, hc1⟩ := Ints.at_ H1.out hlt
      obtain ⟨bb, bo, y, rfl, hy, hc2⟩ := Ints.at_ H2.out hlt
      obtain rfl : x = y := by rw [hx] at hy; exact Option.some.inj hy
      clear hx hy
      have hb1 : 0 ≤ (k : Int) := by omega
      have hb2 : (k : Int) < n := by omega
      go_wp2_with fail
      go_quiet (fail)
      go_wp2_with fail
      go_roundw
      case rel => exact ⟨k + 1, by omega, by go_num, _, rfl⟩
      case measure => simp [intOf]; omega
    · go_wp2
      go_ret
      exact ⟨rfl, m, rfl⟩

/-- the marks k, k + 1, .. -/
def imarks (k n : Nat) : List Value := (List.range n).map fun i => Value.int .i64 ((k + i : Nat) : Int)
theorem imarks_len (k n : Nat) : (imarks k n).length = n := by simp [imarks]
theorem imarks_at (k n i : Nat) (h : i < n) : (imarks k n)[i]? = some (.int .i64 ((k + i : Nat) : Int)) := by
  unfold imarks; rw [List.getElem?_map, List.getElem?_range h]; rfl
theorem grown_of {W W' : World} (h : Below W.heap.size W W') : W.grownBy W' none := ⟨h.os, h.tape, h.output, h.size, fun k hk _ => h.block k hk⟩
theorem grown_tr {a b c : World} {r : Option Nat} (h : a.grownBy b r) (k : b.grownBy c r) : a.grownBy c r :=
  ⟨k.os.trans h.os, k.tape.trans h.tape, k.output.trans h.output, Nat.le_trans h.size k.size, fun i hi hr => (k.block i (Nat.lt_of_lt_of_le hi h.size) hr).trans (h.block i hi hr)⟩
theorem grown_refl (w : World) (r : Option Nat) : w.grownBy w r := ⟨rfl, rfl, rfl, Nat.le_refl _, fun _ _ _ => rfl⟩

def MarkRel (w : World) (base n c k : Nat) (A : Option Addr) (xs : List Value) (i : Nat) (wr : World) : Prop :=
  wr.ownsRow base 3 1 (.slice A n c) n (fill (imarks k n) xs i) ∧ w.grownBy wr (Value.slice A n c).ownBlock

theorem mark_next {w wr : World} {base n c k i : Nat} {A : Option Addr} {xs : List Value} (h : MarkRel w base n c k A xs i wr) (hxs : xs.length = n) (hi : i < n) :
    ∃ g y, A = some ⟨g, 0, none⟩ ∧ wr.cell? ⟨g, i, none⟩ = some y ∧ wr.frozen? ⟨g, i, none⟩ = false ∧ MarkRel w base n c k A xs (i + 1) (wr.setCell ⟨g, i, none⟩ (.int .i64 ((k + i : Nat) : Int))) := by
  obtain ⟨g, rfl⟩ : ∃ g, A = some ⟨g, 0, none⟩ := by
    rcases h.1.2 with ⟨_, h0⟩ | ⟨g, cap, cur, hv, _⟩
    · omega
    · injection hv with h1 h2 h3; exact ⟨g, h1⟩
  have h1 := h.1
  have hlen : (fill (imarks k n) xs i).length = n := by rw [fill_len _ _ _ (by rw [imarks_len, hxs])]; exact hxs
  have hc := h1.cellAt i (by omega)
  rw [List.getElem?_eq_getElem (by omega)] at hc
  refine ⟨g, _, rfl, hc, h1.frozenAt i, ?_, ?_⟩
  · have := (h1.stored i (.int .i64 ((k + i : Nat) : Int))).1
    rw [fill_set _ _ _ _ (by omega) (imarks_at k n i hi)] at this
    exact this
  · exact grown_tr h.2 (h1.stored i (.int .i64 ((k + i : Nat) : Int))).2

def MarkPost (w : World) (base n c k : Nat) (A : Option Addr) (e : Ending) (w' : World) : Prop :=
  e = .returned (.int .i64 ((k + n : Nat) : Int)) ∧ w'.ownsRow base 3 1 (.slice A n c) n (imarks k n) ∧ w.grownBy w' (Value.slice A n c).ownBlock

set_option maxHeartbeats 1000000 in
theorem mark_any (w : World) (base n c k : Nat) (A : Option Addr) (xs : List Value) (h : w.ownsRow base 3 1 (.slice A n c) n xs) (hn : n ≤ 1048576) (hk2 : k ≤ 100000000000) :
    Calls Try.prog 38 #[.slice A n c, .int .i64 (k : Int)] w (MarkPost w base n c k A) := by
  have hxs : Hid (xs.length = n) := Lib.hid (by have := h.1; omega)
  have HR0 : Hid (MarkRel w base n c k A xs 0 w) := Lib.hid ⟨by rw [fill_zero]; exact h, grown_refl _ _⟩
  clear h
  go_enter Try.func38, Try.ntmps38
  go_wp2_with fail
  go_loopw [1, 5] (fun t i wr => ∃ j : Nat, j ≤ n ∧ i = .int .i64 j ∧ t = .int .i64 ((k + j : Nat) : Int) ∧ Hid (MarkRel w base n c k A xs j wr)) (fun _ i _ => n - (intOf i).toNat)
  case atStart => exact ⟨0, Nat.zero_le _, rfl, rfl, HR0⟩
  case round =>
    obtain ⟨j, hj, rfl, rfl, HR⟩ := hrel
    by_cases hlt : j < n
    · obtain ⟨g, y, rfl, hc, hf, hR1⟩ := mark_next HR.out hxs.out hlt
      have HR1 := Lib.hid hR1
      clear hR1
      go_wp2_with fail
      go_roundw
      case rel => exact ⟨j + 1, by omega, by go_num, by go_num, HR1⟩
      case measure => simp [intOf]; omega
    · obtain rfl : j = n := by omega
      have HF := Lib.hid HR.out.1
      go_wp2_with fail
      go_ret
      exact ⟨rfl, by rw [← fill_all (imarks k j) xs (by rw [imarks_len]; exact hxs.out), imarks_len]; exact HF.out, HR.out.2⟩

set_option maxHeartbeats 1000000 in
theorem held_any (w : World) (n c k : Nat) (A : Option Addr) (h : Cells w 1 A n (imarks k n)) (hn : n ≤ 1048576) (hk2 : k ≤ 100000000000) :
    Calls Try.prog 39 #[.slice A n c, .int .i64 (k : Int)] w fun e w' => e = .returned (.int .i64 ((k + n : Nat) : Int)) ∧ w = w' := by
  have HH : Hid (Ints w A n ((List.range n).map fun i => ((k + i : Nat) : Int))) := Lib.hid (by show Cells w 1 A n _; unfold iv; rw [List.map_map]; exact h)
  clear h
  go_enter Try.func39, Try.ntmps39
  go_wp2_with fail
  go_loop [1, 5] (fun t i => ∃ j : Nat, j ≤ n ∧ i = .int .i64 j ∧ t = .int .i64 ((k + j : Nat) : Int)) (fun _ i => n - (intOf i).toNat)
  case atStart => exact ⟨0, Nat.zero_le _, rfl, rfl⟩
  case round =>
    obtain ⟨j, hj, rfl, rfl⟩ := hrel
    by_cases hlt : j < n
    · obtain ⟨ab, ao, x, rfl, hx, hc⟩ := Ints.at_ HH.out hlt
      rw [List.getElem?_map, List.getElem?_range hlt] at hx
      obtain rfl : ((k + j : Nat) : Int) = x := by simpa using hx
      clear hx
      go_wp2_with fail
      go_round
      case rel => exact ⟨j + 1, by omega, by go_num, by go_num⟩
      case measure => simp [intOf]; omega
    · obtain rfl : j = n := by omega
      go_wp2_with fail
      go_ret
      exact ⟨rfl, rfl⟩

/-- a slice that is owned, as a slice that reads -/
theorem own_cells {w : World} {base n c size : Nat} {A : Option Addr} {e : TypeId} {xs : List Value} (h : w.ownsRow base e size (.slice A n c) n xs) : Cells w size A n xs := by
  rcases h.2 with ⟨hv, h0⟩ | ⟨g, cap, cur, hv, _⟩
  · subst h0
    have := h.1
    exact ⟨h.1, fun hn => by omega⟩
  · injection hv with h1 h2 h3
    subst h1
    exact Cells.of_own h
theorem own_base_le {w : World} {base n c size b : Nat} {A : Option Addr} {e : TypeId} {xs : List Value} (h : w.ownsRow base e size (.slice A n c) n xs) (hb : (Value.slice A n c).ownBlock = some b) : base ≤ b ∧ b < w.heap.size := h.lt b hb
theorem own_below {w w' : World} {base n c size : Nat} {A : Option Addr} {e : TypeId} {xs : List Value} (h : w.ownsRow base e size (.slice A n c) n xs) (hb : Below w.heap.size w w') : w'.ownsRow base e size (.slice A n c) n xs :=
  h.kept (grown_of hb) (by cases (Value.slice A n c).ownBlock <;> simp)
/-- what is written is another block -/
theorem own_grown {w w' : World} {base n c size : Nat} {A : Option Addr} {e : TypeId} {xs : List Value} {r : Option Nat} (h : w.ownsRow base e size (.slice A n c) n xs) (hg : w.grownBy w' r) (hne : ∀ b, (Value.slice A n c).ownBlock = some b → r ≠ some b) : w'.ownsRow base e size (.slice A n c) n xs := by
  refine h.kept hg ?_
  cases ho : (Value.slice A n c).ownBlock with
  | none => exact .inl rfl
  | some b => exact .inr (fun e => hne b ho e.symm)
theorem cells_grown {w w' : World} {size n : Nat} {A : Option Addr} {xs : List Value} {r : Option Nat} (h : Cells w size A n xs) (hg : w.grownBy w' r) (hne : ∀ a, A = some a → r ≠ some a.block) : Cells w' size A n xs :=
  ⟨h.1, fun hn => by
    obtain ⟨ad, rfl, hc⟩ := h.2 hn
    exact ⟨_, rfl, fun j u hu => hg.cell (hc j u hu) (by rw [add_block]; exact fun e => hne ad rfl e.symm)⟩⟩
end Go.Proofs.Ytlljmgphgmklcaa.HelpInt

/- loop.example/g01062/spec.l1In as a plain function, and the contract of the program's: where the plain one has an answer, the program has it. Conditions: slices read as lists. -/
namespace Go.Proofs.Ytlljmgphgmklcaa.GsL1In
set_option linter.unusedVariables false
set_option linter.unusedSimpArgs false
open Go.RowKit
open Go.Proofs.Ytlljmgphgmklcaa.Rowed Go.Proofs.Ytlljmgphgmklcaa.Turn Go.Proofs.Ytlljmgphgmklcaa.Aid Go.Proofs.Ytlljmgphgmklcaa.GoP Go.Proofs.Ytlljmgphgmklcaa.GoM

def P (x : Int) (a : Int) (b : Int) : Option (Bool) :=
  letK (decide (a ≤ x)) fun (t_3 : Bool) =>
  joinK (fun (t_8 : Bool) =>
  some t_8) fun jt_8 => iteK t_3 (letK (decide (x ≤ b)) fun (t_7 : Bool) =>
  appK jt_8 t_7) (appK jt_8 false)

set_option maxRecDepth 100000 in
set_option maxHeartbeats 2000000 in
theorem C (x : Int) (a : Int) (b : Int)   (w : World)   {r : Bool} (H : Hid (P x a b = some r)) :
    Calls Try.prog 113 #[.int .i64 x, .int .i64 a, .int .i64 b] w (Gives (.bool r) w) := by
  have HB := Lib.hid (Below.refl w.heap.size w)
  unfold P at H
  go_enter Try.func113, Try.ntmps113
  replace H := let_hid H
  obtain ⟨t_3, ht_3, H⟩ := H
  replace H := join_hid H
  cases t_3 with
  | false =>
    replace H := ite_f H
    replace H := app_hid H
    obtain rfl := ret_hid H
    go_wp2_with fail
    go_ret
    exact ⟨rfl, HB.out⟩
  | true =>
    replace H := ite_t H
    replace H := let_hid H
    obtain ⟨t_7, ht_7, H⟩ := H
    replace H := app_hid H
    obtain rfl := ret_hid H
    go_wp2_with fail
    go_ret
    exact ⟨rfl, HB.out⟩

set_option maxRecDepth 100000 in
set_option maxHeartbeats 2000000 in
theorem C0 (x : Int) (a : Int) (b : Int)   (w : World)   {r : Bool} (H : Hid (P x a b = some r)) :
    Calls Try.prog 113 #[.int .i64 x, .int .i64 a, .int .i64 b] w (fun e w'' => e = .returned (.bool r) ∧ w'' = w) := by
  have HB := Lib.hid (Below.refl w.heap.size w)
  unfold P at H
  go_enter Try.func113, Try.ntmps113
  replace H := let_hid H
  obtain ⟨t_3, ht_3, H⟩ := H
  replace H := join_hid H
  cases t_3 with
  | false =>
    replace H := ite_f H
    replace H := app_hid H
    obtain rfl := ret_hid H
    go_wp2_with fail
    go_ret
    exact ⟨rfl, rfl⟩
  | true =>
    replace H := ite_t H
    replace H := let_hid H
    obtain ⟨t_7, ht_7, H⟩ := H
    replace H := app_hid H
    obtain rfl := ret_hid H
    go_wp2_with fail
    go_ret
    exact ⟨rfl, rfl⟩
end Go.Proofs.Ytlljmgphgmklcaa.GsL1In

/- loop.example/g01062/spec.l9Office as a plain function, and the contract of the program's: where the plain one has an answer, the program has it. Conditions: slices read as lists. -/
namespace Go.Proofs.Ytlljmgphgmklcaa.GsL9Office
set_option linter.unusedVariables false
set_option linter.unusedSimpArgs false
open Go.RowKit
open Go.Proofs.Ytlljmgphgmklcaa.Rowed Go.Proofs.Ytlljmgphgmklcaa.Turn Go.Proofs.Ytlljmgphgmklcaa.Aid Go.Proofs.Ytlljmgphgmklcaa.GoP Go.Proofs.Ytlljmgphgmklcaa.GoM

def P (n_0 : Int) : Option (Bool) :=
  Option.bind (Go.Proofs.Ytlljmgphgmklcaa.GsL1In.P n_0 0 9) fun (t_2 : Bool) =>
  some t_2

set_option maxRecDepth 100000 in
set_option maxHeartbeats 2000000 in
theorem C (n_0 : Int)   (w : World)   {r : Bool} (H : Hid (P n_0 = some r)) :
    Calls Try.prog 109 #[.int .i64 n_0] w (Gives (.bool r) w) := by
  have HB := Lib.hid (Below.refl w.heap.size w)
  unfold P at H
  go_enter Try.func109, Try.ntmps109
  replace H := bind_hid H
  obtain ⟨t_2, qt_2, H⟩ := H
  go_wp2_with fail
  go_at_call 113
  refine (Go.Proofs.Ytlljmgphgmklcaa.GsL1In.C (n_0) (0) (9)  _    qt_2).mono ?_
  rintro e_t_2 wt_2 ⟨rfl, bt_2⟩
  have HBwt_2 := Lib.hid (Below.step HB.out bt_2)
  clear bt_2
  obtain rfl := ret_hid H
  go_wp2_with fail
  go_ret
  exact ⟨rfl, HBwt_2.out⟩
end Go.Proofs.Ytlljmgphgmklcaa.GsL9Office

/- loop.example/g01062/spec.l9Minute as a plain function, and the contract of the program's: where the plain one has an answer, the program has it. Conditions: slices read as lists. -/
namespace Go.Proofs.Ytlljmgphgmklcaa.GsL9Minute
set_option linter.unusedVariables false
set_option linter.unusedSimpArgs false
open Go.RowKit
open Go.Proofs.Ytlljmgphgmklcaa.Rowed Go.Proofs.Ytlljmgphgmklcaa.Turn Go.Proofs.Ytlljmgphgmklcaa.Aid Go.Proofs.Ytlljmgphgmklcaa.GoP Go.Proofs.Ytlljmgphgmklcaa.GoM

def P (n_0 : Int) : Option (Bool) :=
  Option.bind (Go.Proofs.Ytlljmgphgmklcaa.GsL1In.P n_0 0 9999) fun (t_2 : Bool) =>
  some t_2

set_option maxRecDepth 100000 in
set_option maxHeartbeats 2000000 in
theorem C (n_0 : Int)   (w : World)   {r : Bool} (H : Hid (P n_0 = some r)) :
    Calls Try.prog 140 #[.int .i64 n_0] w (Gives (.bool r) w) := by
  have HB := Lib.hid (Below.refl w.heap.size w)
  unfold P at H
  go_enter Try.func140, Try.ntmps140
  replace H := bind_hid H
  obtain ⟨t_2, qt_2, H⟩ := H
  go_wp2_with fail
  go_at_call 113
  refine (Go.Proofs.Ytlljmgphgmklcaa.GsL1In.C (n_0) (0) (9999)  _    qt_2).mono ?_
  rintro e_t_2 wt_2 ⟨rfl, bt_2⟩
  have HBwt_2 := Lib.hid (Below.step HB.out bt_2)
  clear bt_2
  obtain rfl := ret_hid H
  go_wp2_with fail
  go_ret
  exact ⟨rfl, HBwt_2.out⟩
end Go.Proofs.Ytlljmgphgmklcaa.GsL9Minute

/- loop.example/g01062/spec.l9One as a plain function, and the contract of the program's: where the plain one has an answer, the program has it. Conditions: slices read as lists. -/
namespace Go.Proofs.Ytlljmgphgmklcaa.GsL9One
set_option linter.unusedVariables false
set_option linter.unusedSimpArgs false
open Go.RowKit
open Go.Proofs.Ytlljmgphgmklcaa.Rowed Go.Proofs.Ytlljmgphgmklcaa.Turn Go.Proofs.Ytlljmgphgmklcaa.Aid Go.Proofs.Ytlljmgphgmklcaa.GoP Go.Proofs.Ytlljmgphgmklcaa.GoM

def P (x : Go.Proofs.Ytlljmgphgmklcaa.PMail.Mail) : Option (Bool) :=
  unMail x fun (x_leave : Int) (x_from_ : Int) (x_to_ : Int) (x_arrive : Int) =>
  Option.bind (Go.Proofs.Ytlljmgphgmklcaa.GsL9Office.P x_from_) fun (t_4 : Bool) =>
  joinK (fun (t_9 : Bool) =>
  joinK (fun (t_16 : Bool) =>
  joinK (fun (t_21 : Bool) =>
  joinK (fun (t_29 : Bool) =>
  some t_29) fun jt_29 => iteK t_21 (letK (IntKind.i64.wrap (x_arrive - 1)) fun (t_27 : Int) =>
  Option.bind (Go.Proofs.Ytlljmgphgmklcaa.GsL1In.P x_leave 0 t_27) fun (t_28 : Bool) =>
  appK jt_29 t_28) (appK jt_29 false)) fun jt_21 => iteK t_16 (Option.bind (Go.Proofs.Ytlljmgphgmklcaa.GsL9Minute.P x_arrive) fun (t_20 : Bool) =>
  appK jt_21 t_20) (appK jt_21 false)) fun jt_16 => iteK t_9 (letK (x_from_ != x_to_) fun (t_15 : Bool) =>
  appK jt_16 t_15) (appK jt_16 false)) fun jt_9 => iteK t_4 (Option.bind (Go.Proofs.Ytlljmgphgmklcaa.GsL9Office.P x_to_) fun (t_8 : Bool) =>
  appK jt_9 t_8) (appK jt_9 false)

set_option maxRecDepth 100000 in
set_option maxHeartbeats 2000000 in
theorem C (x : Go.Proofs.Ytlljmgphgmklcaa.PMail.Mail)   (w : World)   {r : Bool} (H : Hid (P x = some r)) :
    Calls Try.prog 143 #[x.val] w (Gives (.bool r) w) := by
  have HB := Lib.hid (Below.refl w.heap.size w)
  unfold P at H
  obtain ⟨x_leave, x_from_, x_to_, x_arrive⟩ := x
  replace H := unMail_hid H
  unfold Go.Proofs.Ytlljmgphgmklcaa.PMail.Mail.val
  go_enter Try.func143, Try.ntmps143
  obtain ⟨w_x_0, hw_x_0⟩ : ∃ x, w.alloc (.cells #[.int .i64 x_leave, .int .i64 x_from_, .int .i64 x_to_, .int .i64 x_arrive] 108) = x := ⟨_, rfl⟩
  have bw_x_0 : Below w.heap.size w w_x_0 := by rw [← hw_x_0]; exact (Below.refl _ _).alloc (Nat.le_refl _) _
  have HBw_x_0 := Lib.hid (Below.step HB.out bw_x_0)
  clear bw_x_0
  have kx_0_0 : w_x_0.cell? ⟨w.heap.size, 0, none⟩ = some (.int .i64 x_leave) := by rw [← hw_x_0]; exact box_new _ _ _ 0 _ rfl
  have kx_0_1 : w_x_0.cell? ⟨w.heap.size, 1, none⟩ = some (.int .i64 x_from_) := by rw [← hw_x_0]; exact box_new _ _ _ 1 _ rfl
  have kx_0_2 : w_x_0.cell? ⟨w.heap.size, 2, none⟩ = some (.int .i64 x_to_) := by rw [← hw_x_0]; exact box_new _ _ _ 2 _ rfl
  have kx_0_3 : w_x_0.cell? ⟨w.heap.size, 3, none⟩ = some (.int .i64 x_arrive) := by rw [← hw_x_0]; exact box_new _ _ _ 3 _ rfl
  replace H := bind_hid H
  obtain ⟨t_4, qt_4, H⟩ := H
  go_wp2_with fail
  go_at_call 109
  refine (Go.Proofs.Ytlljmgphgmklcaa.GsL9Office.C (x_from_)  _    qt_4).mono ?_
  rintro e_t_4 wt_4 ⟨rfl, bt_4⟩
  have HBwt_4 := Lib.hid (Below.step HBw_x_0.out bt_4)
  replace kx_0_0 := cell_below bt_4 kx_0_0
  replace kx_0_1 := cell_below bt_4 kx_0_1
  replace kx_0_2 := cell_below bt_4 kx_0_2
  replace kx_0_3 := cell_below bt_4 kx_0_3
  clear bt_4
  replace H := join_hid H
  cases t_4 with
  | false =>
    replace H := ite_f H
    replace H := app_hid H
    replace H := join_hid H
    replace H := ite_f H
    replace H := app_hid H
    replace H := join_hid H
    replace H := ite_f H
    replace H := app_hid H
    replace H := join_hid H
    replace H := ite_f H
    replace H := app_hid H
    obtain rfl := ret_hid H
    go_wp2_with fail
    go_ret
    exact ⟨rfl, HBwt_4.out⟩
  | true =>
    replace H := ite_t H
    replace H := bind_hid H
    obtain ⟨t_8, qt_8, H⟩ := H
    go_wp2_with fail
    go_at_call 109
    refine (Go.Proofs.Ytlljmgphgmklcaa.GsL9Office.C (x_to_)  _    qt_8).mono ?_
    rintro e_t_8 wt_8 ⟨rfl, bt_8⟩
    have HBwt_8 := Lib.hid (Below.step HBwt_4.out bt_8)
    replace kx_0_0 := cell_below bt_8 kx_0_0
    replace kx_0_1 := cell_below bt_8 kx_0_1
    replace kx_0_2 := cell_below bt_8 kx_0_2
    replace kx_0_3 := cell_below bt_8 kx_0_3
    clear bt_8
    replace H := app_hid H
    replace H := join_hid H
    cases t_8 with
    | false =>
      replace H := ite_f H
      replace H := app_hid H
      replace H := join_hid H
      replace H := ite_f H
      replace H := app_hid H
      replace H := join_hid H
      replace H := ite_f H
      replace H := app_hid H
      obtain rfl := ret_hid H
      go_wp2_with fail
      go_ret
      exact ⟨rfl, HBwt_8.out⟩
    | true =>
      replace H := ite_t H
      replace H := let_hid H
      obtain ⟨t_15, ht_15, H⟩ := H
      replace H := app_hid H
      replace H := join_hid H
      cases t_15 with
      | false =>
        replace H := ite_f H
        replace H := app_hid H
        replace H := join_hid H
        replace H := ite_f H
        replace H := app_hid H
        obtain rfl := ret_hid H
        go_wp2_with fail
        go_ret
        exact ⟨rfl, HBwt_8.out⟩
      | true =>
        replace H := ite_t H
        replace H := bind_hid H
        obtain ⟨t_20, qt_20, H⟩ := H
        go_wp2_with fail
        go_at_call 140
        refine (Go.Proofs.Ytlljmgphgmklcaa.GsL9Minute.C (x_arrive)  _    qt_20).mono ?_
        rintro e_t_20 wt_20 ⟨rfl, bt_20⟩
        have HBwt_20 := Lib.hid (Below.step HBwt_8.out bt_20)
        replace kx_0_0 := cell_below bt_20 kx_0_0
        replace kx_0_1 := cell_below bt_20 kx_0_1
        replace kx_0_2 := cell_below bt_20 kx_0_2
        replace kx_0_3 := cell_below bt_20 kx_0_3
        clear bt_20
        replace H := app_hid H
        replace H := join_hid H
        cases t_20 with
        | false =>
          replace H := ite_f H
          replace H := app_hid H
          obtain rfl := ret_hid H
          go_wp2_with fail
          go_ret
          exact ⟨rfl, HBwt_20.out⟩
        | true =>
          replace H := ite_t H
          replace H := let_hid H
          obtain ⟨t_27, ht_27, H⟩ := H
          replace H := bind_hid H
          obtain ⟨t_28, qt_28, H⟩ := H
          go_wp2_with fail
          go_at_call 113
          refine (Go.Proofs.Ytlljmgphgmklcaa.GsL1In.C (x_leave) (0) (t_27)  _    qt_28).mono ?_
          rintro e_t_28 wt_28 ⟨rfl, bt_28⟩
          have HBwt_28 := Lib.hid (Below.step HBwt_20.out bt_28)
          replace kx_0_0 := cell_below bt_28 kx_0_0
          replace kx_0_1 := cell_below bt_28 kx_0_1
          replace kx_0_2 := cell_below bt_28 kx_0_2
          replace kx_0_3 := cell_below bt_28 kx_0_3
          clear bt_28
          replace H := app_hid H
          obtain rfl := ret_hid H
          go_wp2_with fail
          go_ret
          exact ⟨rfl, HBwt_28.out⟩
end Go.Proofs.Ytlljmgphgmklcaa.GsL9One

/- loop.example/g01062/spec.l9Code as a plain function, and the contract of the program's: where the plain one has an answer, the program has it. Conditions: slices read as lists. -/
namespace Go.Proofs.Ytlljmgphgmklcaa.GsL9Code
set_option linter.unusedVariables false
set_option linter.unusedSimpArgs false
open Go.RowKit
open Go.Proofs.Ytlljmgphgmklcaa.Rowed Go.Proofs.Ytlljmgphgmklcaa.Turn Go.Proofs.Ytlljmgphgmklcaa.Aid Go.Proofs.Ytlljmgphgmklcaa.GoP Go.Proofs.Ytlljmgphgmklcaa.GoM

def P (x : Go.Proofs.Ytlljmgphgmklcaa.PMail.Mail) : Option (Int) :=
  unMail x fun (x_leave : Int) (x_from_ : Int) (x_to_ : Int) (x_arrive : Int) =>
  letK (IntKind.i64.wrap (x_leave * 10)) fun (t_4 : Int) =>
  letK (IntKind.i64.wrap (t_4 + x_from_)) fun (t_7 : Int) =>
  letK (IntKind.i64.wrap (t_7 * 10)) fun (t_8 : Int) =>
  letK (IntKind.i64.wrap (t_8 + x_to_)) fun (t_11 : Int) =>
  letK (IntKind.i64.wrap (t_11 * 10000)) fun (t_12 : Int) =>
  letK (IntKind.i64.wrap (t_12 + x_arrive)) fun (t_15 : Int) =>
  some t_15

set_option maxRecDepth 100000 in
set_option maxHeartbeats 2000000 in
theorem C (x : Go.Proofs.Ytlljmgphgmklcaa.PMail.Mail)   (w : World)   {r : Int} (H : Hid (P x = some r)) :
    Calls Try.prog 144 #[x.val] w (Gives (.int .i64 r) w) := by
  have HB := Lib.hid (Below.refl w.heap.size w)
  unfold P at H
  obtain ⟨x_leave, x_from_, x_to_, x_arrive⟩ := x
  replace H := unMail_hid H
  unfold Go.Proofs.Ytlljmgphgmklcaa.PMail.Mail.val
  go_enter Try.func144, Try.ntmps144
  obtain ⟨w_x_0, hw_x_0⟩ : ∃ x, w.alloc (.cells #[.int .i64 x_leave, .int .i64 x_from_, .int .i64 x_to_, .int .i64 x_arrive] 108) = x := ⟨_, rfl⟩
  have bw_x_0 : Below w.heap.size w w_x_0 := by rw [← hw_x_0]; exact (Below.refl _ _).alloc (Nat.le_refl _) _
  have HBw_x_0 := Lib.hid (Below.step HB.out bw_x_0)
  clear bw_x_0
  have kx_0_0 : w_x_0.cell? ⟨w.heap.size, 0, none⟩ = some (.int .i64 x_leave) := by rw [← hw_x_0]; exact box_new _ _ _ 0 _ rfl
  have kx_0_1 : w_x_0.cell? ⟨w.heap.size, 1, none⟩ = some (.int .i64 x_from_) := by rw [← hw_x_0]; exact box_new _ _ _ 1 _ rfl
  have kx_0_2 : w_x_0.cell? ⟨w.heap.size, 2, none⟩ = some (.int .i64 x_to_) := by rw [← hw_x_0]; exact box_new _ _ _ 2 _ rfl
  have kx_0_3 : w_x_0.cell? ⟨w.heap.size, 3, none⟩ = some (.int .i64 x_arrive) := by rw [← hw_x_0]; exact box_new _ _ _ 3 _ rfl
  replace H := let_hid H
  obtain ⟨t_4, ht_4, H⟩ := H
  replace H := let_hid H
  obtain ⟨t_7, ht_7, H⟩ := H
  replace H := let_hid H
  obtain ⟨t_8, ht_8, H⟩ := H
  replace H := let_hid H
  obtain ⟨t_11, ht_11, H⟩ := H
  replace H := let_hid H
  obtain ⟨t_12, ht_12, H⟩ := H
  replace H := let_hid H
  obtain ⟨t_15, ht_15, H⟩ := H
  obtain rfl := ret_hid H
  go_wp2_with fail
  go_ret
  exact ⟨rfl, HBw_x_0.out⟩
end Go.Proofs.Ytlljmgphgmklcaa.GsL9Code

