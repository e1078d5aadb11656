/- Texts on which the proofs of several laws stand, one behind the other (3 of 9). No condition of their own. -/
import Derived.Test.YtgimcnpkngpmiaaDoorChecked
import Derived.Test.YtgimcnpkngpmiaaDoorX11P1
import Derived.Test.YtgimcnpkngpmiaaDoorX11P2
import Derived.Deep.Slices
import Derived.Deep.Fields
import Derived.ChangeSame
import Derived.Lib.LaidU8
import Derived.WalkKit
import Derived.WalkSpells
import Derived.WalkLawsBesides
import Derived.BigQuiet
import Derived.OwnWalk
import Derived.Deep.LoopGhost
import Derived.Deep.QuietTactic
import Derived.IntWalk
import Derived.Lib.QuietBelow
import Derived.Lib.Hide
import Derived.Outline
/- The record Postmark as data that comes in, and a slice of it. No condition. -/
namespace Go.Proofs.YtgimcnpkngpmiaaDoor.OPostmark
set_option linter.unusedVariables false
set_option maxRecDepth 100000
open Go.Joins Go.ChangeShapes Go.WideShapes Go.RowKit Go.Deep
open Go.Proofs.YtgimcnpkngpmiaaDoor.Rowed Go.Proofs.YtgimcnpkngpmiaaDoor.OpenAny Go.Proofs.YtgimcnpkngpmiaaDoor.PPostmark

/-- the slice 'A, n' reads as the records l -/
abbrev Postmarks (w : World) (A : Option Addr) (n : Nat) (l : List Postmark) : Prop := Cells w 6 A n (flat l)
theorem at_ {w : World} {A : Option Addr} {n k : Nat} {l : List Postmark} (h : Postmarks w A n l) (hk : k < n) :
    ∃ (b o : Nat) (s : Postmark), A = some ⟨b, o, none⟩ ∧ l[k]? = some s ∧ w.cell? ⟨b, o + k * 6, none⟩ = some (.int .i64 s.id) ∧ w.cell? ⟨b, o + k * 6 + 1, none⟩ = some (.string s.town) ∧ w.cell? ⟨b, o + k * 6 + 2, none⟩ = some (.int .i64 s.kind_) ∧ w.cell? ⟨b, o + k * 6 + 3, none⟩ = some (.int .i64 s.first) ∧ w.cell? ⟨b, o + k * 6 + 4, none⟩ = some (.int .i64 s.last) ∧ w.cell? ⟨b, o + k * 6 + 5, none⟩ = some (.string s.lost) := by
  have hl : k < l.length := by have := h.1; rw [flat_len] at this; omega
  obtain ⟨⟨b, o, sp⟩, e, hc⟩ := h.2 (by rw [flat_len]; omega)
  have h0 := hc 0 _ (flat_at l 0 l[0] (List.getElem?_eq_getElem (by omega)) 0 (by omega))
  obtain rfl : sp = none := cell_spot (b := b) (o := o) h0
  have hs := List.getElem?_eq_getElem hl
  have f := flat_at l k _ hs
  have g := fun j u hu => add_none b o j ▸ hc j u hu
  exact ⟨b, o, l[k], e, hs, g _ _ (f 0 (by omega)), g _ _ (f 1 (by omega)), g _ _ (f 2 (by omega)), g _ _ (f 3 (by omega)), g _ _ (f 4 (by omega)), g _ _ (f 5 (by omega))⟩
theorem len_of {w : World} {A : Option Addr} {n : Nat} {l : List Postmark} (h : Postmarks w A n l) : l.length = n := by
  have := h.1
  rw [flat_len] at this; omega

/-- a slice of records that came in: the list that it reads as -/
structure Came (w : World) (A : Option Addr) (len cap : Nat) (l : List Postmark) : Prop where
  cells : Postmarks w A len l
  small : len ≤ maxLen
  fits : ∀ s ∈ l, s.fits
theorem Came.len {w : World} {A : Option Addr} {len cap : Nat} {l : List Postmark} (h : Came w A len cap l) : l.length = len := len_of h.cells

section
variable {H : Type} {enc : TypeId × Value → H} {w : World} {base : Nat} {spare : Nat → Bool} {held : Bool}
theorem read_one {n : Nat} {cs : List Value} {x : DataW H × List MemPlace} (h : DataW.trod enc Tryd.prog w base spare held n 35 cs = some x) : ∃ s : Postmark, cs = s.cells ∧ s.fits := by
  have hc : Tryd.prog.cellsOf 35 = 6 := by kernel_rfl
  obtain ⟨hl, hf⟩ := read_fields Tryd.underlying35 (by kernel_rfl) hc h
  rw [hc] at hl
  match cs, hl with
  | [v0, v1, v2, v3, v4, v5], _ =>
    obtain ⟨u0, n0, y0, eu0, t0⟩ := hf 0 _ rfl
    obtain ⟨x0, e0, _, f0⟩ := DataW.trod_int Tryd.underlying3 t0
    obtain rfl : v0 = u0 := by simpa using eu0
    obtain rfl : v0 = .int .i64 x0 := by simpa using e0
    obtain ⟨u1, n1, y1, eu1, t1⟩ := hf 1 _ rfl
    obtain ⟨x1, e1, _, f1⟩ := DataW.trod_string Tryd.underlying9 t1
    obtain rfl : v1 = u1 := by simpa using eu1
    obtain rfl : v1 = .string x1 := by simpa using e1
    obtain ⟨u2, n2, y2, eu2, t2⟩ := hf 2 _ rfl
    obtain ⟨x2, e2, _, f2⟩ := DataW.trod_int Tryd.underlying3 t2
    obtain rfl : v2 = u2 := by simpa using eu2
    obtain rfl : v2 = .int .i64 x2 := by simpa using e2
    obtain ⟨u3, n3, y3, eu3, t3⟩ := hf 3 _ rfl
    obtain ⟨x3, e3, _, f3⟩ := DataW.trod_int Tryd.underlying3 t3
    obtain rfl : v3 = u3 := by simpa using eu3
    obtain rfl : v3 = .int .i64 x3 := by simpa using e3
    obtain ⟨u4, n4, y4, eu4, t4⟩ := hf 4 _ rfl
    obtain ⟨x4, e4, _, f4⟩ := DataW.trod_int Tryd.underlying3 t4
    obtain rfl : v4 = u4 := by simpa using eu4
    obtain rfl : v4 = .int .i64 x4 := by simpa using e4
    obtain ⟨u5, n5, y5, eu5, t5⟩ := hf 5 _ rfl
    obtain ⟨x5, e5, _, f5⟩ := DataW.trod_string Tryd.underlying9 t5
    obtain rfl : v5 = u5 := by simpa using eu5
    obtain rfl : v5 = .string x5 := by simpa using e5
    exact ⟨⟨x0, x1, x2, x3, x4, x5⟩, rfl, f0, f1, f2, f3, f4, f5⟩
theorem open_one {r : Reach} {b0 : Nat} {v : Value} {d : DataW H} {p : List MemPlace} (hv : Value.okWide Tryd.prog w r b0 35 v) (h : DataW.Trod enc Tryd.prog w base spare held 35 v d p) :
    ∃ s : Postmark, v = s.val ∧ s.fits := by
  obtain ⟨cs, n, x, rfl, ht⟩ := agg_any Tryd.underlying35 hv h
  obtain ⟨s, e, hs⟩ := read_one ht
  refine ⟨s, ?_, hs⟩
  obtain ⟨l⟩ := cs
  obtain rfl : l = s.cells := by simpa using e
  rfl
end
theorem open_field {H : Type} {enc : TypeId × Value → H} {W : World} {fuel : Nat} {u : Value} {y : DataW H × List MemPlace}
    (hf : DataW.trod enc Tryd.prog W 0 (fun _ => true) true fuel 22 [u] = some y) : ∃ (a : Option Addr) (len cap : Nat) (l : List Postmark), u = .slice a len cap ∧ Came W a len cap l := by
  have ck : Tryd.prog.cellsOf 35 = 6 := by kernel_rfl
  rcases open_slice Tryd.underlying22 hf with ⟨hcs, _⟩ | ⟨x, ln, cp, m, n, D, Pl, hcs, hb, hl, hm, hmm, _, hi⟩
  · obtain rfl : u = .slice none 0 0 := by simpa using hcs
    exact ⟨none, 0, 0, [], rfl, Cells.nil_ _ _ _, by unfold maxLen; omega, by intro s hs; simp at hs⟩
  · obtain rfl : u = .slice (some x) ln cp := by simpa using hcs
    simp only [if_true] at hmm
    subst hmm
    rw [ck] at hi
    obtain ⟨l, hll, hp⟩ := list_of (fun k s => Postmark.fits s ∧ ∀ j, j < 6 → W.cell? (x.add (k * 6 + j)) = s.cells[j]?) ln (fun k hk => by
      obtain ⟨cs', hc, ht⟩ := hi k (by omega)
      obtain ⟨s, rfl, hfit⟩ := read_one ht
      refine ⟨s, hfit, fun j hj => ?_⟩
      have := (World.cells?_some hc).2.2 j hj
      rw [Go.Deep.add_add] at this
      exact this)
    refine ⟨some x, ln, _, l, rfl, ⟨by rw [flat_len, hll], fun h0 => ⟨x, rfl, fun j u hu => ?_⟩⟩, by omega, fun s hs => ?_⟩
    · have hj : j < (flat l).length := (List.getElem?_eq_some_iff.1 hu).1
      rw [flat_len] at hj
      have hk : j / 6 < l.length := by omega
      have e := flat_at l (j / 6) l[j/6] (List.getElem?_eq_getElem hk) (j % 6) (by omega)
      rw [show j / 6 * 6 + j % 6 = j by omega, hu] at e
      have := (hp (j / 6) l[j/6] (List.getElem?_eq_getElem hk)).2 (j % 6) (by omega)
      rw [show j / 6 * 6 + j % 6 = j by omega, ← e] at this
      exact this
    · obtain ⟨k, hk⟩ := List.getElem?_of_mem hs
      exact (hp k s hk).1
theorem open_many {H : Type} {enc : TypeId × Value → H} {W : World} {a : Option Addr} {len cap : Nat} {d : DataW H} {p : List MemPlace}
    (h : DataW.Trod enc Tryd.prog W 0 (fun _ => true) true 22 (.slice a len cap) d p) : ∃ l : List Postmark, Came W a len cap l := by
  obtain ⟨fuel, hf⟩ := h
  obtain ⟨a2, l2, c2, l, e, hl⟩ := open_field (u := .slice a len cap) hf
  simp only [Value.slice.injEq] at e
  obtain ⟨rfl, rfl, rfl⟩ := e
  exact ⟨l, hl⟩

theorem box_new (w : World) (s : Postmark) (T : TypeId) : Cells (w.alloc (.cells #[.int .i64 s.id, .string s.town, .int .i64 s.kind_, .int .i64 s.first, .int .i64 s.last, .string s.lost] T)) 6 (some ⟨w.heap.size, 0, none⟩) 1 s.cells :=
  ⟨by simp [Postmark.cells], fun _ => ⟨_, rfl, fun j u hu => by
    have hj : j < 6 := by have := (List.getElem?_eq_some_iff.1 hu).1; simpa [Postmark.cells] using this
    rw [add_none, World.cell?_alloc_new]
    match j, hj with
    | 0, _ => simpa [Postmark.cells] using hu
    | 1, _ => simpa [Postmark.cells] using hu
    | 2, _ => simpa [Postmark.cells] using hu
    | 3, _ => simpa [Postmark.cells] using hu
    | 4, _ => simpa [Postmark.cells] using hu
    | 5, _ => simpa [Postmark.cells] using hu
⟩⟩
end Go.Proofs.YtgimcnpkngpmiaaDoor.OPostmark

/- loop.example/g01062/laws.szPostmark as a plain function, and the contract of the program's: where the plain one has an answer, the program has it. Conditions: slices read as lists. -/
namespace Go.Proofs.YtgimcnpkngpmiaaDoor.GlSzPostmark
set_option linter.unusedVariables false
set_option linter.unusedSimpArgs false
open Go.RowKit
open Go.Proofs.YtgimcnpkngpmiaaDoor.Rowed Go.Proofs.YtgimcnpkngpmiaaDoor.Turn Go.Proofs.YtgimcnpkngpmiaaDoor.Aid Go.Proofs.YtgimcnpkngpmiaaDoor.GoP Go.Proofs.YtgimcnpkngpmiaaDoor.GoM

def P (a : Go.Proofs.YtgimcnpkngpmiaaDoor.PPostmark.Postmark) (left : Int) : Option (Int) :=
  unPostmark a fun (a_id : Int) (a_town : ByteArray) (a_kind_ : Int) (a_first : Int) (a_last : Int) (a_lost : ByteArray) =>
  letK (IntKind.i64.wrap (left - (a_town.size : Int))) fun (t_6 : Int) =>
  letK (decide (t_6 < 0)) fun (t_9 : Bool) =>
  iteK t_9
  (some (-1))
  (letK (IntKind.i64.wrap (t_6 - (a_lost.size : Int))) fun (t_15 : Int) =>
  letK (decide (t_15 < 0)) fun (t_18 : Bool) =>
  iteK t_18
  (some (-1))
  (some t_15))

set_option maxRecDepth 100000 in
set_option maxHeartbeats 2000000 in
theorem C (a : Go.Proofs.YtgimcnpkngpmiaaDoor.PPostmark.Postmark) (left : Int)   (w : World)   {r : Int} (H : Hid (P a left = some r)) :
    Calls Tryd.prog 15 #[a.val, .int .i64 left] w (Gives (.int .i64 r) w) := by
  have HB := Lib.hid (Below.refl w.heap.size w)
  unfold P at H
  obtain ⟨a_id, a_town, a_kind_, a_first, a_last, a_lost⟩ := a
  replace H := unPostmark_hid H
  unfold Go.Proofs.YtgimcnpkngpmiaaDoor.PPostmark.Postmark.val
  go_enter Tryd.func15, Tryd.ntmps15
  obtain ⟨w_a_0, hw_a_0⟩ : ∃ x, w.alloc (.cells #[.int .i64 a_id, .string a_town, .int .i64 a_kind_, .int .i64 a_first, .int .i64 a_last, .string a_lost] 35) = x := ⟨_, rfl⟩
  have bw_a_0 : Below w.heap.size w w_a_0 := by rw [← hw_a_0]; exact (Below.refl _ _).alloc (Nat.le_refl _) _
  have HBw_a_0 := Lib.hid (Below.step HB.out bw_a_0)
  clear bw_a_0
  have ka_0_0 : w_a_0.cell? ⟨w.heap.size, 0, none⟩ = some (.int .i64 a_id) := by rw [← hw_a_0]; exact box_new _ _ _ 0 _ rfl
  have ka_0_1 : w_a_0.cell? ⟨w.heap.size, 1, none⟩ = some (.string a_town) := by rw [← hw_a_0]; exact box_new _ _ _ 1 _ rfl
  have ka_0_2 : w_a_0.cell? ⟨w.heap.size, 2, none⟩ = some (.int .i64 a_kind_) := by rw [← hw_a_0]; exact box_new _ _ _ 2 _ rfl
  have ka_0_3 : w_a_0.cell? ⟨w.heap.size, 3, none⟩ = some (.int .i64 a_first) := by rw [← hw_a_0]; exact box_new _ _ _ 3 _ rfl
  have ka_0_4 : w_a_0.cell? ⟨w.heap.size, 4, none⟩ = some (.int .i64 a_last) := by rw [← hw_a_0]; exact box_new _ _ _ 4 _ rfl
  have ka_0_5 : w_a_0.cell? ⟨w.heap.size, 5, none⟩ = some (.string a_lost) := by rw [← hw_a_0]; exact box_new _ _ _ 5 _ rfl
  replace H := let_hid H
  obtain ⟨t_6, ht_6, H⟩ := H
  replace H := let_hid H
  obtain ⟨t_9, ht_9, H⟩ := H
  cases t_9 with
  | false =>
    replace H := ite_f H
    replace H := let_hid H
    obtain ⟨t_15, ht_15, H⟩ := H
    replace H := let_hid H
    obtain ⟨t_18, ht_18, H⟩ := H
    cases t_18 with
    | false =>
      replace H := ite_f H
      obtain rfl := ret_hid H
      go_wp2_with fail
      go_ret
      exact ⟨rfl, HBw_a_0.out⟩
    | true =>
      replace H := ite_t H
      obtain rfl := ret_hid H
      go_wp2_with fail
      go_ret
      exact ⟨rfl, HBw_a_0.out⟩
  | true =>
    replace H := ite_t H
    obtain rfl := ret_hid H
    go_wp2_with fail
    go_ret
    exact ⟨rfl, HBw_a_0.out⟩
end Go.Proofs.YtgimcnpkngpmiaaDoor.GlSzPostmark

/- loop.example/g01062/laws.szPostmarkS as a plain function, and the contract of the program's: where the plain one has an answer, the program has it. Conditions: slices read as lists. -/
namespace Go.Proofs.YtgimcnpkngpmiaaDoor.GlSzPostmarkS
set_option linter.unusedVariables false
set_option linter.unusedSimpArgs false
open Go.RowKit
open Go.Proofs.YtgimcnpkngpmiaaDoor.Rowed Go.Proofs.YtgimcnpkngpmiaaDoor.Turn Go.Proofs.YtgimcnpkngpmiaaDoor.Aid Go.Proofs.YtgimcnpkngpmiaaDoor.GoP Go.Proofs.YtgimcnpkngpmiaaDoor.GoM

def l0 (a : (List Go.Proofs.YtgimcnpkngpmiaaDoor.PPostmark.Postmark)) (k0 : Nat) (s : Int) (nx0 bk0 : Int → Option (Int)) : Option (Int) :=
  letK s fun left_1l0 =>
  Option.bind (idx a (k0 : Int)) fun (yt_16 : Go.Proofs.YtgimcnpkngpmiaaDoor.PPostmark.Postmark) =>
  unPostmark yt_16 fun (t_16_id : Int) (t_16_town : ByteArray) (t_16_kind_ : Int) (t_16_first : Int) (t_16_last : Int) (t_16_lost : ByteArray) =>
  Option.bind (Go.Proofs.YtgimcnpkngpmiaaDoor.GlSzPostmark.P (Go.Proofs.YtgimcnpkngpmiaaDoor.PPostmark.Postmark.mk t_16_id t_16_town t_16_kind_ t_16_first t_16_last t_16_lost) left_1l0) fun (t_19 : Int) =>
  letK (decide (t_19 < 0)) fun (t_22 : Bool) =>
  iteK t_22
  (some (-1))
  (appK nx0 (t_19))

def e0  (s : Int) : Option (Int) :=
  letK s fun left_1l0 =>
  some left_1l0

def P (a : (List Go.Proofs.YtgimcnpkngpmiaaDoor.PPostmark.Postmark)) (left : Int) : Option (Int) :=
  letK (IntKind.i64.wrap (left - (a.length : Int))) fun (t_4 : Int) =>
  letK (decide (t_4 < 0)) fun (t_7 : Bool) =>
  iteK t_7
  (some (-1))
  (cntK (l0 a) (a.length) 0 (t_4) (e0 ))

set_option maxRecDepth 100000 in
set_option maxHeartbeats 2000000 in
theorem C (a : (List Go.Proofs.YtgimcnpkngpmiaaDoor.PPostmark.Postmark)) (left : Int) (A0 : Option Addr) (c0 : Nat)  (w : World) (M0 : Hid (Cells w 6 A0 a.length (Go.Proofs.YtgimcnpkngpmiaaDoor.PPostmark.flat a))) (N0 : Hid (a.length ≤ 9223372036854775807))  {r : Int} (H : Hid (P a left = some r)) :
    Calls Tryd.prog 6 #[.slice A0 a.length c0, .int .i64 left] w (Gives (.int .i64 r) w) := by
  have HB := Lib.hid (Below.refl w.heap.size w)
  unfold P at H
  have N0o := N0.out
  go_enter Tryd.func6, Tryd.ntmps6
  replace H := let_hid H
  obtain ⟨t_4, ht_4, H⟩ := H
  replace H := let_hid H
  obtain ⟨t_7, ht_7, H⟩ := H
  cases t_7 with
  | false =>
    replace H := ite_f H
    go_wp2_with fail
    go_loopg [5, 1] (a.length) (fun m_ v5_ v1_ wr => ∃ (k0 : Nat) (left_1l0 : Int), k0 + m_ = a.length ∧ v5_ = .int .i64 (k0 : Int) ∧ v1_ = .int .i64 left_1l0 ∧ Hid (cntK (l0 a) m_ k0 (left_1l0) (e0 ) = some r) ∧ Hid (Below w.heap.size w wr))
    case atStart => exact ⟨0, _, by omega, rfl, rfl, H, HB⟩
    case round =>
      obtain ⟨k0, left_1l0, hkm0, rfl, rfl, H, HBwr0⟩ := hrel
      rename World => wr0
      cases gk with
      | zero =>
        obtain rfl : k0 = a.length := by omega
        have hc0 : decide (((a.length : Nat) : Int) < ((a.length : Nat) : Int)) = false := by simp
        replace H := cnt_zero H
        unfold e0 at H
        replace H := let_hid H
        obtain ⟨_, rfl, H⟩ := H
        obtain rfl := ret_hid H
        go_wp2_with fail
        go_ret
        exact ⟨rfl, HBwr0.out⟩
      | succ m0 =>
        have hlt0 : k0 < a.length := by omega
        have hc0 : decide ((k0 : Int) < ((a.length : Nat) : Int)) = true := by simp; omega
        replace H := cnt_succ H
        unfold l0 at H
        replace H := let_hid H
        obtain ⟨_, rfl, H⟩ := H
        replace H := idx_hid H
        obtain ⟨nt_16, yt_16, et_16, lt_16, gt_16, H⟩ := H
        obtain rfl : k0 = nt_16 := by omega
        clear et_16
        obtain ⟨t_16_id, t_16_town, t_16_kind_, t_16_first, t_16_last, t_16_lost⟩ := yt_16
        replace H := unPostmark_hid H
        obtain ⟨ab_t_16, ao_t_16, zt_16, At_16, z_t_16, ct_16_0, ct_16_1, ct_16_2, ct_16_3, ct_16_4, ct_16_5⟩ := Go.Proofs.YtgimcnpkngpmiaaDoor.OPostmark.at_ M0.out lt_16
        obtain rfl := Option.some.inj (gt_16.out.symm.trans z_t_16)
        subst At_16
        have ltt_16 := cell_lt ct_16_0
        replace ct_16_0 := cell_below HBwr0.out ct_16_0
        replace ct_16_1 := cell_below HBwr0.out ct_16_1
        replace ct_16_2 := cell_below HBwr0.out ct_16_2
        replace ct_16_3 := cell_below HBwr0.out ct_16_3
        replace ct_16_4 := cell_below HBwr0.out ct_16_4
        replace ct_16_5 := cell_below HBwr0.out ct_16_5
        clear z_t_16
        have b0t_16 : (0 : Int) ≤ (k0 : Int) := by omega
        have b1t_16 : (k0 : Int) < ((a.length : Nat) : Int) := by omega
        have b2t_16 : ((k0 : Int)).toNat = k0 := by omega
        replace H := bind_hid H
        obtain ⟨t_19, qt_19, H⟩ := H
        go_wp2_with fail
        go_at_call 15
        refine (Go.Proofs.YtgimcnpkngpmiaaDoor.GlSzPostmark.C ((Go.Proofs.YtgimcnpkngpmiaaDoor.PPostmark.Postmark.mk t_16_id t_16_town t_16_kind_ t_16_first t_16_last t_16_lost)) (left_1l0)  _    qt_19).mono ?_
        rintro e_t_19 wt_19 ⟨rfl, bt_19⟩
        have HBwt_19 := Lib.hid (Below.step HBwr0.out bt_19)
        replace ct_16_0 := cell_below bt_19 ct_16_0
        replace ct_16_1 := cell_below bt_19 ct_16_1
        replace ct_16_2 := cell_below bt_19 ct_16_2
        replace ct_16_3 := cell_below bt_19 ct_16_3
        replace ct_16_4 := cell_below bt_19 ct_16_4
        replace ct_16_5 := cell_below bt_19 ct_16_5
        clear bt_19
        replace H := let_hid H
        obtain ⟨t_22, ht_22, H⟩ := H
        cases t_22 with
        | false =>
          replace H := ite_f H
          replace H := app_hid H
          go_wp2_with fail
          go_roundg m0
          case measure => omega
          case rel => exact ⟨k0 + 1, _, by omega, by go_num, rfl, H, HBwt_19⟩
        | true =>
          replace H := ite_t H
          obtain rfl := ret_hid H
          go_wp2_with fail
          go_ret
          exact ⟨rfl, HBwt_19.out⟩
  | true =>
    replace H := ite_t H
    obtain rfl := ret_hid H
    go_wp2_with fail
    go_ret
    exact ⟨rfl, HB.out⟩
end Go.Proofs.YtgimcnpkngpmiaaDoor.GlSzPostmarkS

/- loop.example/g01062/laws.toPostmark as a plain function, and the contract of the program's: where the plain one has an answer, the program has it. Conditions: slices read as lists. -/
namespace Go.Proofs.YtgimcnpkngpmiaaDoor.GlToPostmark
set_option linter.unusedVariables false
set_option linter.unusedSimpArgs false
open Go.RowKit
open Go.Proofs.YtgimcnpkngpmiaaDoor.Rowed Go.Proofs.YtgimcnpkngpmiaaDoor.Turn Go.Proofs.YtgimcnpkngpmiaaDoor.Aid Go.Proofs.YtgimcnpkngpmiaaDoor.GoP Go.Proofs.YtgimcnpkngpmiaaDoor.GoM

def P (a : Go.Proofs.YtgimcnpkngpmiaaDoor.PPostmark.Postmark) : Option (Go.Proofs.YtgimcnpkngpmiaaDoor.PPostmark.Postmark) :=
  unPostmark a fun (a_id : Int) (a_town : ByteArray) (a_kind_ : Int) (a_first : Int) (a_last : Int) (a_lost : ByteArray) =>
  some (Go.Proofs.YtgimcnpkngpmiaaDoor.PPostmark.Postmark.mk a_id a_town a_kind_ a_first a_last a_lost)

set_option maxRecDepth 100000 in
set_option maxHeartbeats 2000000 in
theorem C (a : Go.Proofs.YtgimcnpkngpmiaaDoor.PPostmark.Postmark)   (w : World)   {r : Go.Proofs.YtgimcnpkngpmiaaDoor.PPostmark.Postmark} (H : Hid (P a = some r)) :
    Calls Tryd.prog 17 #[a.val] w (Gives ((Go.Proofs.YtgimcnpkngpmiaaDoor.PPostmark.Postmark.val r)) w) := by
  have HB := Lib.hid (Below.refl w.heap.size w)
  unfold P at H
  obtain ⟨a_id, a_town, a_kind_, a_first, a_last, a_lost⟩ := a
  replace H := unPostmark_hid H
  unfold Go.Proofs.YtgimcnpkngpmiaaDoor.PPostmark.Postmark.val
  go_enter Tryd.func17, Tryd.ntmps17
  obtain ⟨w_a_0, hw_a_0⟩ : ∃ x, w.alloc (.cells #[.int .i64 a_id, .string a_town, .int .i64 a_kind_, .int .i64 a_first, .int .i64 a_last, .string a_lost] 35) = x := ⟨_, rfl⟩
  have bw_a_0 : Below w.heap.size w w_a_0 := by rw [← hw_a_0]; exact (Below.refl _ _).alloc (Nat.le_refl _) _
  have HBw_a_0 := Lib.hid (Below.step HB.out bw_a_0)
  clear bw_a_0
  have ka_0_0 : w_a_0.cell? ⟨w.heap.size, 0, none⟩ = some (.int .i64 a_id) := by rw [← hw_a_0]; exact box_new _ _ _ 0 _ rfl
  have ka_0_1 : w_a_0.cell? ⟨w.heap.size, 1, none⟩ = some (.string a_town) := by rw [← hw_a_0]; exact box_new _ _ _ 1 _ rfl
  have ka_0_2 : w_a_0.cell? ⟨w.heap.size, 2, none⟩ = some (.int .i64 a_kind_) := by rw [← hw_a_0]; exact box_new _ _ _ 2 _ rfl
  have ka_0_3 : w_a_0.cell? ⟨w.heap.size, 3, none⟩ = some (.int .i64 a_first) := by rw [← hw_a_0]; exact box_new _ _ _ 3 _ rfl
  have ka_0_4 : w_a_0.cell? ⟨w.heap.size, 4, none⟩ = some (.int .i64 a_last) := by rw [← hw_a_0]; exact box_new _ _ _ 4 _ rfl
  have ka_0_5 : w_a_0.cell? ⟨w.heap.size, 5, none⟩ = some (.string a_lost) := by rw [← hw_a_0]; exact box_new _ _ _ 5 _ rfl
  obtain ⟨w_t_1, hw_t_1⟩ : ∃ x, w_a_0.alloc (.cells #[.int .i64 0, .string (⟨#[]⟩ : ByteArray), .int .i64 0, .int .i64 0, .int .i64 0, .string (⟨#[]⟩ : ByteArray)] 39) = x := ⟨_, rfl⟩
  have bw_t_1 : Below w_a_0.heap.size w_a_0 w_t_1 := by rw [← hw_t_1]; exact (Below.refl _ _).alloc (Nat.le_refl _) _
  have Dt_1_a_0 := Lib.hid (apart_box ka_0_0)
  have HBw_t_1 := Lib.hid (Below.step HBw_a_0.out bw_t_1)
  have ka_0_0__1 := cell_below bw_t_1 ka_0_0
  have ka_0_1__2 := cell_below bw_t_1 ka_0_1
  have ka_0_2__3 := cell_below bw_t_1 ka_0_2
  have ka_0_3__4 := cell_below bw_t_1 ka_0_3
  have ka_0_4__5 := cell_below bw_t_1 ka_0_4
  have ka_0_5__6 := cell_below bw_t_1 ka_0_5
  clear bw_t_1
  have kt_1_0 : w_t_1.cell? ⟨w_a_0.heap.size, 0, none⟩ = some (.int .i64 0) := by rw [← hw_t_1]; exact box_new _ _ _ 0 _ rfl
  have kt_1_1 : w_t_1.cell? ⟨w_a_0.heap.size, 1, none⟩ = some (.string (⟨#[]⟩ : ByteArray)) := by rw [← hw_t_1]; exact box_new _ _ _ 1 _ rfl
  have kt_1_2 : w_t_1.cell? ⟨w_a_0.heap.size, 2, none⟩ = some (.int .i64 0) := by rw [← hw_t_1]; exact box_new _ _ _ 2 _ rfl
  have kt_1_3 : w_t_1.cell? ⟨w_a_0.heap.size, 3, none⟩ = some (.int .i64 0) := by rw [← hw_t_1]; exact box_new _ _ _ 3 _ rfl
  have kt_1_4 : w_t_1.cell? ⟨w_a_0.heap.size, 4, none⟩ = some (.int .i64 0) := by rw [← hw_t_1]; exact box_new _ _ _ 4 _ rfl
  have kt_1_5 : w_t_1.cell? ⟨w_a_0.heap.size, 5, none⟩ = some (.string (⟨#[]⟩ : ByteArray)) := by rw [← hw_t_1]; exact box_new _ _ _ 5 _ rfl
  have Ot_1 : Hid (w_t_1.ownsRow w.heap.size 39 6 (.slice (some ⟨w_a_0.heap.size, 0, none⟩) 1 1) 1 [.int .i64 0, .string (⟨#[]⟩ : ByteArray), .int .i64 0, .int .i64 0, .int .i64 0, .string (⟨#[]⟩ : ByteArray)]) := Lib.hid (by rw [← hw_t_1]; exact own_laid (n := 1) HBw_a_0.out.size rfl rfl (by unfold maxLen; omega))
  obtain ⟨w_out_2, hw_out_2⟩ : ∃ x, w_t_1.alloc (.cells #[.int .i64 0, .string (⟨#[]⟩ : ByteArray), .int .i64 0, .int .i64 0, .int .i64 0, .string (⟨#[]⟩ : ByteArray)] 39) = x := ⟨_, rfl⟩
  have bw_out_2 : Below w_t_1.heap.size w_t_1 w_out_2 := by rw [← hw_out_2]; exact (Below.refl _ _).alloc (Nat.le_refl _) _
  have Dout_2_a_0 := Lib.hid (apart_box ka_0_0__1)
  have Dout_2_t_1 := Lib.hid (apart_box kt_1_0)
  have HBw_out_2 := Lib.hid (Below.step HBw_t_1.out bw_out_2)
  have ka_0_0__7 := cell_below bw_out_2 ka_0_0__1
  have ka_0_1__8 := cell_below bw_out_2 ka_0_1__2
  have ka_0_2__9 := cell_below bw_out_2 ka_0_2__3
  have ka_0_3__10 := cell_below bw_out_2 ka_0_3__4
  have ka_0_4__11 := cell_below bw_out_2 ka_0_4__5
  have ka_0_5__12 := cell_below bw_out_2 ka_0_5__6
  have kt_1_0__13 := cell_below bw_out_2 kt_1_0
  have kt_1_1__14 := cell_below bw_out_2 kt_1_1
  have kt_1_2__15 := cell_below bw_out_2 kt_1_2
  have kt_1_3__16 := cell_below bw_out_2 kt_1_3
  have kt_1_4__17 := cell_below bw_out_2 kt_1_4
  have kt_1_5__18 := cell_below bw_out_2 kt_1_5
  replace Ot_1 := Lib.hid (own_below Ot_1.out bw_out_2)
  clear bw_out_2
  have kout_2_0 : w_out_2.cell? ⟨w_t_1.heap.size, 0, none⟩ = some (.int .i64 0) := by rw [← hw_out_2]; exact box_new _ _ _ 0 _ rfl
  have kout_2_1 : w_out_2.cell? ⟨w_t_1.heap.size, 1, none⟩ = some (.string (⟨#[]⟩ : ByteArray)) := by rw [← hw_out_2]; exact box_new _ _ _ 1 _ rfl
  have kout_2_2 : w_out_2.cell? ⟨w_t_1.heap.size, 2, none⟩ = some (.int .i64 0) := by rw [← hw_out_2]; exact box_new _ _ _ 2 _ rfl
  have kout_2_3 : w_out_2.cell? ⟨w_t_1.heap.size, 3, none⟩ = some (.int .i64 0) := by rw [← hw_out_2]; exact box_new _ _ _ 3 _ rfl
  have kout_2_4 : w_out_2.cell? ⟨w_t_1.heap.size, 4, none⟩ = some (.int .i64 0) := by rw [← hw_out_2]; exact box_new _ _ _ 4 _ rfl
  have kout_2_5 : w_out_2.cell? ⟨w_t_1.heap.size, 5, none⟩ = some (.string (⟨#[]⟩ : ByteArray)) := by rw [← hw_out_2]; exact box_new _ _ _ 5 _ rfl
  have Oout_2 : Hid (w_out_2.ownsRow w.heap.size 39 6 (.slice (some ⟨w_t_1.heap.size, 0, none⟩) 1 1) 1 [.int .i64 0, .string (⟨#[]⟩ : ByteArray), .int .i64 0, .int .i64 0, .int .i64 0, .string (⟨#[]⟩ : ByteArray)]) := Lib.hid (by rw [← hw_out_2]; exact own_laid (n := 1) HBw_t_1.out.size rfl rfl (by unfold maxLen; omega))
  obtain ⟨wb6_6, hwb6_6⟩ : ∃ x, (w_out_2).setCell ⟨w_t_1.heap.size, 0, none⟩ (.int .i64 a_id) = x := ⟨_, rfl⟩
  have z0b6_6 := Oout_2.out.frozenAt 0
  have Sb6_6 := Lib.hid (own_stores [(0, .int .i64 a_id)] Oout_2.out)
  have Pb6_6 : Hid (wb6_6.ownsRow w.heap.size 39 6 (.slice (some ⟨w_t_1.heap.size, 0, none⟩) 1 1) 1 [.int .i64 a_id, .string (⟨#[]⟩ : ByteArray), .int .i64 0, .int .i64 0, .int .i64 0, .string (⟨#[]⟩ : ByteArray)]) := Lib.hid (by rw [← hwb6_6]; exact Sb6_6.out.1)
  have Gb6_6 : Hid (w_out_2.grownBy wb6_6 (Value.slice (some ⟨w_t_1.heap.size, 0, none⟩) 1 1).ownBlock) := Lib.hid (by rw [← hwb6_6]; exact Sb6_6.out.2)
  have HBwb6_6 := Lib.hid (HBw_out_2.out.grown Gb6_6.out HBw_out_2.out.size (fun q hq => (Oout_2.out.lt q hq).1))
  clear Sb6_6
  have ka_0_0__19 := cell_other ka_0_0__7 Gb6_6.out Dout_2_a_0.out
  have ka_0_1__20 := cell_other ka_0_1__8 Gb6_6.out Dout_2_a_0.out
  have ka_0_2__21 := cell_other ka_0_2__9 Gb6_6.out Dout_2_a_0.out
  have ka_0_3__22 := cell_other ka_0_3__10 Gb6_6.out Dout_2_a_0.out
  have ka_0_4__23 := cell_other ka_0_4__11 Gb6_6.out Dout_2_a_0.out
  have ka_0_5__24 := cell_other ka_0_5__12 Gb6_6.out Dout_2_a_0.out
  have kt_1_0__25 := cell_other kt_1_0__13 Gb6_6.out Dout_2_t_1.out
  have kt_1_1__26 := cell_other kt_1_1__14 Gb6_6.out Dout_2_t_1.out
  have kt_1_2__27 := cell_other kt_1_2__15 Gb6_6.out Dout_2_t_1.out
  have kt_1_3__28 := cell_other kt_1_3__16 Gb6_6.out Dout_2_t_1.out
  have kt_1_4__29 := cell_other kt_1_4__17 Gb6_6.out Dout_2_t_1.out
  have kt_1_5__30 := cell_other kt_1_5__18 Gb6_6.out Dout_2_t_1.out
  replace Ot_1 := Lib.hid (own_other Ot_1.out Gb6_6.out Dout_2_t_1.out)
  clear Oout_2 Gb6_6
  have kout_2_0__31 : wb6_6.cell? ⟨w_t_1.heap.size, 0, none⟩ = some (.int .i64 a_id) := Pb6_6.out.cells rfl 0 _ rfl
  have kout_2_1__32 : wb6_6.cell? ⟨w_t_1.heap.size, 1, none⟩ = some (.string (⟨#[]⟩ : ByteArray)) := Pb6_6.out.cells rfl 1 _ rfl
  have kout_2_2__33 : wb6_6.cell? ⟨w_t_1.heap.size, 2, none⟩ = some (.int .i64 0) := Pb6_6.out.cells rfl 2 _ rfl
  have kout_2_3__34 : wb6_6.cell? ⟨w_t_1.heap.size, 3, none⟩ = some (.int .i64 0) := Pb6_6.out.cells rfl 3 _ rfl
  have kout_2_4__35 : wb6_6.cell? ⟨w_t_1.heap.size, 4, none⟩ = some (.int .i64 0) := Pb6_6.out.cells rfl 4 _ rfl
  have kout_2_5__36 : wb6_6.cell? ⟨w_t_1.heap.size, 5, none⟩ = some (.string (⟨#[]⟩ : ByteArray)) := Pb6_6.out.cells rfl 5 _ rfl
  obtain ⟨wb10_10, hwb10_10⟩ : ∃ x, (wb6_6).setCell ⟨w_t_1.heap.size, 1, none⟩ (.string a_town) = x := ⟨_, rfl⟩
  have z0b10_10 := Pb6_6.out.frozenAt 1
  have Sb10_10 := Lib.hid (own_stores [(1, .string a_town)] Pb6_6.out)
  have Pb10_10 : Hid (wb10_10.ownsRow w.heap.size 39 6 (.slice (some ⟨w_t_1.heap.size, 0, none⟩) 1 1) 1 [.int .i64 a_id, .string a_town, .int .i64 0, .int .i64 0, .int .i64 0, .string (⟨#[]⟩ : ByteArray)]) := Lib.hid (by rw [← hwb10_10]; exact Sb10_10.out.1)
  have Gb10_10 : Hid (wb6_6.grownBy wb10_10 (Value.slice (some ⟨w_t_1.heap.size, 0, none⟩) 1 1).ownBlock) := Lib.hid (by rw [← hwb10_10]; exact Sb10_10.out.2)
  have HBwb10_10 := Lib.hid (HBwb6_6.out.grown Gb10_10.out HBwb6_6.out.size (fun q hq => (Pb6_6.out.lt q hq).1))
  clear Sb10_10
  have ka_0_0__37 := cell_other ka_0_0__19 Gb10_10.out Dout_2_a_0.out
  have ka_0_1__38 := cell_other ka_0_1__20 Gb10_10.out Dout_2_a_0.out
  have ka_0_2__39 := cell_other ka_0_2__21 Gb10_10.out Dout_2_a_0.out
  have ka_0_3__40 := cell_other ka_0_3__22 Gb10_10.out Dout_2_a_0.out
  have ka_0_4__41 := cell_other ka_0_4__23 Gb10_10.out Dout_2_a_0.out
  have ka_0_5__42 := cell_other ka_0_5__24 Gb10_10.out Dout_2_a_0.out
  have kt_1_0__43 := cell_other kt_1_0__25 Gb10_10.out Dout_2_t_1.out
  have kt_1_1__44 := cell_other kt_1_1__26 Gb10_10.out Dout_2_t_1.out
  have kt_1_2__45 := cell_other kt_1_2__27 Gb10_10.out Dout_2_t_1.out
  have kt_1_3__46 := cell_other kt_1_3__28 Gb10_10.out Dout_2_t_1.out
  have kt_1_4__47 := cell_other kt_1_4__29 Gb10_10.out Dout_2_t_1.out
  have kt_1_5__48 := cell_other kt_1_5__30 Gb10_10.out Dout_2_t_1.out
  replace Ot_1 := Lib.hid (own_other Ot_1.out Gb10_10.out Dout_2_t_1.out)
  clear Pb6_6 Gb10_10
  have kout_2_0__49 : wb10_10.cell? ⟨w_t_1.heap.size, 0, none⟩ = some (.int .i64 a_id) := Pb10_10.out.cells rfl 0 _ rfl
  have kout_2_1__50 : wb10_10.cell? ⟨w_t_1.heap.size, 1, none⟩ = some (.string a_town) := Pb10_10.out.cells rfl 1 _ rfl
  have kout_2_2__51 : wb10_10.cell? ⟨w_t_1.heap.size, 2, none⟩ = some (.int .i64 0) := Pb10_10.out.cells rfl 2 _ rfl
  have kout_2_3__52 : wb10_10.cell? ⟨w_t_1.heap.size, 3, none⟩ = some (.int .i64 0) := Pb10_10.out.cells rfl 3 _ rfl
  have kout_2_4__53 : wb10_10.cell? ⟨w_t_1.heap.size, 4, none⟩ = some (.int .i64 0) := Pb10_10.out.cells rfl 4 _ rfl
  have kout_2_5__54 : wb10_10.cell? ⟨w_t_1.heap.size, 5, none⟩ = some (.string (⟨#[]⟩ : ByteArray)) := Pb10_10.out.cells rfl 5 _ rfl
  obtain ⟨wb14_14, hwb14_14⟩ : ∃ x, (wb10_10).setCell ⟨w_t_1.heap.size, 2, none⟩ (.int .i64 a_kind_) = x := ⟨_, rfl⟩
  have z0b14_14 := Pb10_10.out.frozenAt 2
  have Sb14_14 := Lib.hid (own_stores [(2, .int .i64 a_kind_)] Pb10_10.out)
  have Pb14_14 : Hid (wb14_14.ownsRow w.heap.size 39 6 (.slice (some ⟨w_t_1.heap.size, 0, none⟩) 1 1) 1 [.int .i64 a_id, .string a_town, .int .i64 a_kind_, .int .i64 0, .int .i64 0, .string (⟨#[]⟩ : ByteArray)]) := Lib.hid (by rw [← hwb14_14]; exact Sb14_14.out.1)
  have Gb14_14 : Hid (wb10_10.grownBy wb14_14 (Value.slice (some ⟨w_t_1.heap.size, 0, none⟩) 1 1).ownBlock) := Lib.hid (by rw [← hwb14_14]; exact Sb14_14.out.2)
  have HBwb14_14 := Lib.hid (HBwb10_10.out.grown Gb14_14.out HBwb10_10.out.size (fun q hq => (Pb10_10.out.lt q hq).1))
  clear Sb14_14
  have ka_0_0__55 := cell_other ka_0_0__37 Gb14_14.out Dout_2_a_0.out
  have ka_0_1__56 := cell_other ka_0_1__38 Gb14_14.out Dout_2_a_0.out
  have ka_0_2__57 := cell_other ka_0_2__39 Gb14_14.out Dout_2_a_0.out
  have ka_0_3__58 := cell_other ka_0_3__40 Gb14_14.out Dout_2_a_0.out
  have ka_0_4__59 := cell_other ka_0_4__41 Gb14_14.out Dout_2_a_0.out
  have ka_0_5__60 := cell_other ka_0_5__42 Gb14_14.out Dout_2_a_0.out
  have kt_1_0__61 := cell_other kt_1_0__43 Gb14_14.out Dout_2_t_1.out
  have kt_1_1__62 := cell_other kt_1_1__44 Gb14_14.out Dout_2_t_1.out
  have kt_1_2__63 := cell_other kt_1_2__45 Gb14_14.out Dout_2_t_1.out
  have kt_1_3__64 := cell_other kt_1_3__46 Gb14_14.out Dout_2_t_1.out
  have kt_1_4__65 := cell_other kt_1_4__47 Gb14_14.out Dout_2_t_1.out
  have kt_1_5__66 := cell_other kt_1_5__48 Gb14_14.out Dout_2_t_1.out
  replace Ot_1 := Lib.hid (own_other Ot_1.out Gb14_14.out Dout_2_t_1.out)
  clear Pb10_10 Gb14_14
  have kout_2_0__67 : wb14_14.cell? ⟨w_t_1.heap.size, 0, none⟩ = some (.int .i64 a_id) := Pb14_14.out.cells rfl 0 _ rfl
  have kout_2_1__68 : wb14_14.cell? ⟨w_t_1.heap.size, 1, none⟩ = some (.string a_town) := Pb14_14.out.cells rfl 1 _ rfl
  have kout_2_2__69 : wb14_14.cell? ⟨w_t_1.heap.size, 2, none⟩ = some (.int .i64 a_kind_) := Pb14_14.out.cells rfl 2 _ rfl
  have kout_2_3__70 : wb14_14.cell? ⟨w_t_1.heap.size, 3, none⟩ = some (.int .i64 0) := Pb14_14.out.cells rfl 3 _ rfl
  have kout_2_4__71 : wb14_14.cell? ⟨w_t_1.heap.size, 4, none⟩ = some (.int .i64 0) := Pb14_14.out.cells rfl 4 _ rfl
  have kout_2_5__72 : wb14_14.cell? ⟨w_t_1.heap.size, 5, none⟩ = some (.string (⟨#[]⟩ : ByteArray)) := Pb14_14.out.cells rfl 5 _ rfl
  obtain ⟨wb18_18, hwb18_18⟩ : ∃ x, (wb14_14).setCell ⟨w_t_1.heap.size, 3, none⟩ (.int .i64 a_first) = x := ⟨_, rfl⟩
  have z0b18_18 := Pb14_14.out.frozenAt 3
  have Sb18_18 := Lib.hid (own_stores [(3, .int .i64 a_first)] Pb14_14.out)
  have Pb18_18 : Hid (wb18_18.ownsRow w.heap.size 39 6 (.slice (some ⟨w_t_1.heap.size, 0, none⟩) 1 1) 1 [.int .i64 a_id, .string a_town, .int .i64 a_kind_, .int .i64 a_first, .int .i64 0, .string (⟨#[]⟩ : ByteArray)]) := Lib.hid (by rw [← hwb18_18]; exact Sb18_18.out.1)
  have Gb18_18 : Hid (wb14_14.grownBy wb18_18 (Value.slice (some ⟨w_t_1.heap.size, 0, none⟩) 1 1).ownBlock) := Lib.hid (by rw [← hwb18_18]; exact Sb18_18.out.2)
  have HBwb18_18 := Lib.hid (HBwb14_14.out.grown Gb18_18.out HBwb14_14.out.size (fun q hq => (Pb14_14.out.lt q hq).1))
  clear Sb18_18
  have ka_0_0__73 := cell_other ka_0_0__55 Gb18_18.out Dout_2_a_0.out
  have ka_0_1__74 := cell_other ka_0_1__56 Gb18_18.out Dout_2_a_0.out
  have ka_0_2__75 := cell_other ka_0_2__57 Gb18_18.out Dout_2_a_0.out
  have ka_0_3__76 := cell_other ka_0_3__58 Gb18_18.out Dout_2_a_0.out
  have ka_0_4__77 := cell_other ka_0_4__59 Gb18_18.out Dout_2_a_0.out
  have ka_0_5__78 := cell_other ka_0_5__60 Gb18_18.out Dout_2_a_0.out
  have kt_1_0__79 := cell_other kt_1_0__61 Gb18_18.out Dout_2_t_1.out
  have kt_1_1__80 := cell_other kt_1_1__62 Gb18_18.out Dout_2_t_1.out
  have kt_1_2__81 := cell_other kt_1_2__63 Gb18_18.out Dout_2_t_1.out
  have kt_1_3__82 := cell_other kt_1_3__64 Gb18_18.out Dout_2_t_1.out
  have kt_1_4__83 := cell_other kt_1_4__65 Gb18_18.out Dout_2_t_1.out
  have kt_1_5__84 := cell_other kt_1_5__66 Gb18_18.out Dout_2_t_1.out
  replace Ot_1 := Lib.hid (own_other Ot_1.out Gb18_18.out Dout_2_t_1.out)
  clear Pb14_14 Gb18_18
  have kout_2_0__85 : wb18_18.cell? ⟨w_t_1.heap.size, 0, none⟩ = some (.int .i64 a_id) := Pb18_18.out.cells rfl 0 _ rfl
  have kout_2_1__86 : wb18_18.cell? ⟨w_t_1.heap.size, 1, none⟩ = some (.string a_town) := Pb18_18.out.cells rfl 1 _ rfl
  have kout_2_2__87 : wb18_18.cell? ⟨w_t_1.heap.size, 2, none⟩ = some (.int .i64 a_kind_) := Pb18_18.out.cells rfl 2 _ rfl
  have kout_2_3__88 : wb18_18.cell? ⟨w_t_1.heap.size, 3, none⟩ = some (.int .i64 a_first) := Pb18_18.out.cells rfl 3 _ rfl
  have kout_2_4__89 : wb18_18.cell? ⟨w_t_1.heap.size, 4, none⟩ = some (.int .i64 0) := Pb18_18.out.cells rfl 4 _ rfl
  have kout_2_5__90 : wb18_18.cell? ⟨w_t_1.heap.size, 5, none⟩ = some (.string (⟨#[]⟩ : ByteArray)) := Pb18_18.out.cells rfl 5 _ rfl
  obtain ⟨wb22_22, hwb22_22⟩ : ∃ x, (wb18_18).setCell ⟨w_t_1.heap.size, 4, none⟩ (.int .i64 a_last) = x := ⟨_, rfl⟩
  have z0b22_22 := Pb18_18.out.frozenAt 4
  have Sb22_22 := Lib.hid (own_stores [(4, .int .i64 a_last)] Pb18_18.out)
  have Pb22_22 : Hid (wb22_22.ownsRow w.heap.size 39 6 (.slice (some ⟨w_t_1.heap.size, 0, none⟩) 1 1) 1 [.int .i64 a_id, .string a_town, .int .i64 a_kind_, .int .i64 a_first, .int .i64 a_last, .string (⟨#[]⟩ : ByteArray)]) := Lib.hid (by rw [← hwb22_22]; exact Sb22_22.out.1)
  have Gb22_22 : Hid (wb18_18.grownBy wb22_22 (Value.slice (some ⟨w_t_1.heap.size, 0, none⟩) 1 1).ownBlock) := Lib.hid (by rw [← hwb22_22]; exact Sb22_22.out.2)
  have HBwb22_22 := Lib.hid (HBwb18_18.out.grown Gb22_22.out HBwb18_18.out.size (fun q hq => (Pb18_18.out.lt q hq).1))
  clear Sb22_22
  have ka_0_0__91 := cell_other ka_0_0__73 Gb22_22.out Dout_2_a_0.out
  have ka_0_1__92 := cell_other ka_0_1__74 Gb22_22.out Dout_2_a_0.out
  have ka_0_2__93 := cell_other ka_0_2__75 Gb22_22.out Dout_2_a_0.out
  have ka_0_3__94 := cell_other ka_0_3__76 Gb22_22.out Dout_2_a_0.out
  have ka_0_4__95 := cell_other ka_0_4__77 Gb22_22.out Dout_2_a_0.out
  have ka_0_5__96 := cell_other ka_0_5__78 Gb22_22.out Dout_2_a_0.out
  have kt_1_0__97 := cell_other kt_1_0__79 Gb22_22.out Dout_2_t_1.out
  have kt_1_1__98 := cell_other kt_1_1__80 Gb22_22.out Dout_2_t_1.out
  have kt_1_2__99 := cell_other kt_1_2__81 Gb22_22.out Dout_2_t_1.out
  have kt_1_3__100 := cell_other kt_1_3__82 Gb22_22.out Dout_2_t_1.out
  have kt_1_4__101 := cell_other kt_1_4__83 Gb22_22.out Dout_2_t_1.out
  have kt_1_5__102 := cell_other kt_1_5__84 Gb22_22.out Dout_2_t_1.out
  replace Ot_1 := Lib.hid (own_other Ot_1.out Gb22_22.out Dout_2_t_1.out)
  clear Pb18_18 Gb22_22
  have kout_2_0__103 : wb22_22.cell? ⟨w_t_1.heap.size, 0, none⟩ = some (.int .i64 a_id) := Pb22_22.out.cells rfl 0 _ rfl
  have kout_2_1__104 : wb22_22.cell? ⟨w_t_1.heap.size, 1, none⟩ = some (.string a_town) := Pb22_22.out.cells rfl 1 _ rfl
  have kout_2_2__105 : wb22_22.cell? ⟨w_t_1.heap.size, 2, none⟩ = some (.int .i64 a_kind_) := Pb22_22.out.cells rfl 2 _ rfl
  have kout_2_3__106 : wb22_22.cell? ⟨w_t_1.heap.size, 3, none⟩ = some (.int .i64 a_first) := Pb22_22.out.cells rfl 3 _ rfl
  have kout_2_4__107 : wb22_22.cell? ⟨w_t_1.heap.size, 4, none⟩ = some (.int .i64 a_last) := Pb22_22.out.cells rfl 4 _ rfl
  have kout_2_5__108 : wb22_22.cell? ⟨w_t_1.heap.size, 5, none⟩ = some (.string (⟨#[]⟩ : ByteArray)) := Pb22_22.out.cells rfl 5 _ rfl
  obtain ⟨wb26_26, hwb26_26⟩ : ∃ x, (wb22_22).setCell ⟨w_t_1.heap.size, 5, none⟩ (.string a_lost) = x := ⟨_, rfl⟩
  have z0b26_26 := Pb22_22.out.frozenAt 5
  have Sb26_26 := Lib.hid (own_stores [(5, .string a_lost)] Pb22_22.out)
  have Pb26_26 : Hid (wb26_26.ownsRow w.heap.size 39 6 (.slice (some ⟨w_t_1.heap.size, 0, none⟩) 1 1) 1 [.int .i64 a_id, .string a_town, .int .i64 a_kind_, .int .i64 a_first, .int .i64 a_last, .string a_lost]) := Lib.hid (by rw [← hwb26_26]; exact Sb26_26.out.1)
  have Gb26_26 : Hid (wb22_22.grownBy wb26_26 (Value.slice (some ⟨w_t_1.heap.size, 0, none⟩) 1 1).ownBlock) := Lib.hid (by rw [← hwb26_26]; exact Sb26_26.out.2)
  have HBwb26_26 := Lib.hid (HBwb22_22.out.grown Gb26_26.out HBwb22_22.out.size (fun q hq => (Pb22_22.out.lt q hq).1))
  clear Sb26_26
  have ka_0_0__109 := cell_other ka_0_0__91 Gb26_26.out Dout_2_a_0.out
  have ka_0_1__110 := cell_other ka_0_1__92 Gb26_26.out Dout_2_a_0.out
  have ka_0_2__111 := cell_other ka_0_2__93 Gb26_26.out Dout_2_a_0.out
  have ka_0_3__112 := cell_other ka_0_3__94 Gb26_26.out Dout_2_a_0.out
  have ka_0_4__113 := cell_other ka_0_4__95 Gb26_26.out Dout_2_a_0.out
  have ka_0_5__114 := cell_other ka_0_5__96 Gb26_26.out Dout_2_a_0.out
  have kt_1_0__115 := cell_other kt_1_0__97 Gb26_26.out Dout_2_t_1.out
  have kt_1_1__116 := cell_other kt_1_1__98 Gb26_26.out Dout_2_t_1.out
  have kt_1_2__117 := cell_other kt_1_2__99 Gb26_26.out Dout_2_t_1.out
  have kt_1_3__118 := cell_other kt_1_3__100 Gb26_26.out Dout_2_t_1.out
  have kt_1_4__119 := cell_other kt_1_4__101 Gb26_26.out Dout_2_t_1.out
  have kt_1_5__120 := cell_other kt_1_5__102 Gb26_26.out Dout_2_t_1.out
  replace Ot_1 := Lib.hid (own_other Ot_1.out Gb26_26.out Dout_2_t_1.out)
  clear Pb22_22 Gb26_26
  have kout_2_0__121 : wb26_26.cell? ⟨w_t_1.heap.size, 0, none⟩ = some (.int .i64 a_id) := Pb26_26.out.cells rfl 0 _ rfl
  have kout_2_1__122 : wb26_26.cell? ⟨w_t_1.heap.size, 1, none⟩ = some (.string a_town) := Pb26_26.out.cells rfl 1 _ rfl
  have kout_2_2__123 : wb26_26.cell? ⟨w_t_1.heap.size, 2, none⟩ = some (.int .i64 a_kind_) := Pb26_26.out.cells rfl 2 _ rfl
  have kout_2_3__124 : wb26_26.cell? ⟨w_t_1.heap.size, 3, none⟩ = some (.int .i64 a_first) := Pb26_26.out.cells rfl 3 _ rfl
  have kout_2_4__125 : wb26_26.cell? ⟨w_t_1.heap.size, 4, none⟩ = some (.int .i64 a_last) := Pb26_26.out.cells rfl 4 _ rfl
  have kout_2_5__126 : wb26_26.cell? ⟨w_t_1.heap.size, 5, none⟩ = some (.string a_lost) := Pb26_26.out.cells rfl 5 _ rfl
  obtain ⟨wb28_28, hwb28_28⟩ : ∃ x, ((((((wb26_26).setCell ⟨w_a_0.heap.size, 0, none⟩ (.int .i64 a_id)).setCell ⟨w_a_0.heap.size, 1, none⟩ (.string a_town)).setCell ⟨w_a_0.heap.size, 2, none⟩ (.int .i64 a_kind_)).setCell ⟨w_a_0.heap.size, 3, none⟩ (.int .i64 a_first)).setCell ⟨w_a_0.heap.size, 4, none⟩ (.int .i64 a_last)).setCell ⟨w_a_0.heap.size, 5, none⟩ (.string a_lost) = x := ⟨_, rfl⟩
  have z0b28_28 := Ot_1.out.frozenAt 0
  have z1b28_28 := Ot_1.out.frozenAt 1
  have z2b28_28 := Ot_1.out.frozenAt 2
  have z3b28_28 := Ot_1.out.frozenAt 3
  have z4b28_28 := Ot_1.out.frozenAt 4
  have z5b28_28 := Ot_1.out.frozenAt 5
  have Sb28_28 := Lib.hid (own_stores [(0, .int .i64 a_id), (1, .string a_town), (2, .int .i64 a_kind_), (3, .int .i64 a_first), (4, .int .i64 a_last), (5, .string a_lost)] Ot_1.out)
  have Pb28_28 : Hid (wb28_28.ownsRow w.heap.size 39 6 (.slice (some ⟨w_a_0.heap.size, 0, none⟩) 1 1) 1 [.int .i64 a_id, .string a_town, .int .i64 a_kind_, .int .i64 a_first, .int .i64 a_last, .string a_lost]) := Lib.hid (by rw [← hwb28_28]; exact Sb28_28.out.1)
  have Gb28_28 : Hid (wb26_26.grownBy wb28_28 (Value.slice (some ⟨w_a_0.heap.size, 0, none⟩) 1 1).ownBlock) := Lib.hid (by rw [← hwb28_28]; exact Sb28_28.out.2)
  have HBwb28_28 := Lib.hid (HBwb26_26.out.grown Gb28_28.out HBwb26_26.out.size (fun q hq => (Ot_1.out.lt q hq).1))
  clear Sb28_28
  have ka_0_0__127 := cell_other ka_0_0__109 Gb28_28.out Dt_1_a_0.out
  have ka_0_1__128 := cell_other ka_0_1__110 Gb28_28.out Dt_1_a_0.out
  have ka_0_2__129 := cell_other ka_0_2__111 Gb28_28.out Dt_1_a_0.out
  have ka_0_3__130 := cell_other ka_0_3__112 Gb28_28.out Dt_1_a_0.out
  have ka_0_4__131 := cell_other ka_0_4__113 Gb28_28.out Dt_1_a_0.out
  have ka_0_5__132 := cell_other ka_0_5__114 Gb28_28.out Dt_1_a_0.out
  have kout_2_0__133 := cell_other kout_2_0__121 Gb28_28.out (Apart.symm Dout_2_t_1.out)
  have kout_2_1__134 := cell_other kout_2_1__122 Gb28_28.out (Apart.symm Dout_2_t_1.out)
  have kout_2_2__135 := cell_other kout_2_2__123 Gb28_28.out (Apart.symm Dout_2_t_1.out)
  have kout_2_3__136 := cell_other kout_2_3__124 Gb28_28.out (Apart.symm Dout_2_t_1.out)
  have kout_2_4__137 := cell_other kout_2_4__125 Gb28_28.out (Apart.symm Dout_2_t_1.out)
  have kout_2_5__138 := cell_other kout_2_5__126 Gb28_28.out (Apart.symm Dout_2_t_1.out)
  replace Pb26_26 := Lib.hid (own_other Pb26_26.out Gb28_28.out (Apart.symm Dout_2_t_1.out))
  clear Ot_1 Gb28_28
  have kt_1_0__139 : wb28_28.cell? ⟨w_a_0.heap.size, 0, none⟩ = some (.int .i64 a_id) := Pb28_28.out.cells rfl 0 _ rfl
  have kt_1_1__140 : wb28_28.cell? ⟨w_a_0.heap.size, 1, none⟩ = some (.string a_town) := Pb28_28.out.cells rfl 1 _ rfl
  have kt_1_2__141 : wb28_28.cell? ⟨w_a_0.heap.size, 2, none⟩ = some (.int .i64 a_kind_) := Pb28_28.out.cells rfl 2 _ rfl
  have kt_1_3__142 : wb28_28.cell? ⟨w_a_0.heap.size, 3, none⟩ = some (.int .i64 a_first) := Pb28_28.out.cells rfl 3 _ rfl
  have kt_1_4__143 : wb28_28.cell? ⟨w_a_0.heap.size, 4, none⟩ = some (.int .i64 a_last) := Pb28_28.out.cells rfl 4 _ rfl
  have kt_1_5__144 : wb28_28.cell? ⟨w_a_0.heap.size, 5, none⟩ = some (.string a_lost) := Pb28_28.out.cells rfl 5 _ rfl
  cases ret_hid H
  go_wp2_with fail
  (try simp only [Exit.inBlock, Exit.then])
  refine bodyPost_ret (v := .agg #[.int .i64 a_id, .string a_town, .int .i64 a_kind_, .int .i64 a_first, .int .i64 a_last, .string a_lost]) ?hr_ ?hd_ ?_
  case hd_ => rfl
  case hr_ => simp [results, Tryd.results17, kt_1_0__139, kt_1_1__140, kt_1_2__141, kt_1_3__142, kt_1_4__143, kt_1_5__144, go_sem]
  exact ⟨rfl, HBwb28_28.out⟩
end Go.Proofs.YtgimcnpkngpmiaaDoor.GlToPostmark

/- loop.example/g01062/laws.toPostmarkS as a plain function, and the contract of the program's: where the plain one has an answer, the program has it. Conditions: slices read as lists. -/
namespace Go.Proofs.YtgimcnpkngpmiaaDoor.GlToPostmarkS
set_option linter.unusedVariables false
set_option linter.unusedSimpArgs false
open Go.RowKit
open Go.Proofs.YtgimcnpkngpmiaaDoor.Rowed Go.Proofs.YtgimcnpkngpmiaaDoor.Turn Go.Proofs.YtgimcnpkngpmiaaDoor.Aid Go.Proofs.YtgimcnpkngpmiaaDoor.GoP Go.Proofs.YtgimcnpkngpmiaaDoor.GoM

def l0 (a : (List Go.Proofs.YtgimcnpkngpmiaaDoor.PPostmark.Postmark)) (k0 : Nat) (s : (List Go.Proofs.YtgimcnpkngpmiaaDoor.PPostmark.Postmark)) (nx0 bk0 : (List Go.Proofs.YtgimcnpkngpmiaaDoor.PPostmark.Postmark) → Option ((List Go.Proofs.YtgimcnpkngpmiaaDoor.PPostmark.Postmark))) : Option ((List Go.Proofs.YtgimcnpkngpmiaaDoor.PPostmark.Postmark)) :=
  letK s fun out_3l0 =>
  Option.bind (idx a (k0 : Int)) fun (yt_14 : Go.Proofs.YtgimcnpkngpmiaaDoor.PPostmark.Postmark) =>
  unPostmark yt_14 fun (t_14_id : Int) (t_14_town : ByteArray) (t_14_kind_ : Int) (t_14_first : Int) (t_14_last : Int) (t_14_lost : ByteArray) =>
  Option.bind (Go.Proofs.YtgimcnpkngpmiaaDoor.GlToPostmark.P (Go.Proofs.YtgimcnpkngpmiaaDoor.PPostmark.Postmark.mk t_14_id t_14_town t_14_kind_ t_14_first t_14_last t_14_lost)) fun (t_16 : Go.Proofs.YtgimcnpkngpmiaaDoor.PPostmark.Postmark) =>
  unPostmark t_16 fun (t_16_id : Int) (t_16_town : ByteArray) (t_16_kind_ : Int) (t_16_first : Int) (t_16_last : Int) (t_16_lost : ByteArray) =>
  Option.bind (idx out_3l0 (k0 : Int)) fun (yt_17 : Go.Proofs.YtgimcnpkngpmiaaDoor.PPostmark.Postmark) =>
  unPostmark yt_17 fun (t_17_id : Int) (t_17_town : ByteArray) (t_17_kind_ : Int) (t_17_first : Int) (t_17_last : Int) (t_17_lost : ByteArray) =>
  letK (out_3l0.set k0 (Go.Proofs.YtgimcnpkngpmiaaDoor.PPostmark.Postmark.mk t_16_id t_16_town t_16_kind_ t_16_first t_16_last t_16_lost)) fun (l18_18 : (List Go.Proofs.YtgimcnpkngpmiaaDoor.PPostmark.Postmark)) =>
  appK nx0 (l18_18)

def e0  (s : (List Go.Proofs.YtgimcnpkngpmiaaDoor.PPostmark.Postmark)) : Option ((List Go.Proofs.YtgimcnpkngpmiaaDoor.PPostmark.Postmark)) :=
  letK s fun out_3l0 =>
  some out_3l0

def P (a : (List Go.Proofs.YtgimcnpkngpmiaaDoor.PPostmark.Postmark)) : Option ((List Go.Proofs.YtgimcnpkngpmiaaDoor.PPostmark.Postmark)) :=
  guardK (0 ≤ (a.length : Int) ∧ (a.length : Int) ≤ 1099511627776) <|
  letK (List.replicate a.length (Go.Proofs.YtgimcnpkngpmiaaDoor.PPostmark.Postmark.mk 0 ByteArray.empty 0 0 0 ByteArray.empty)) fun (t_3 : (List Go.Proofs.YtgimcnpkngpmiaaDoor.PPostmark.Postmark)) =>
  cntK (l0 a) (a.length) 0 (t_3) (e0 )

set_option maxRecDepth 100000 in
set_option maxHeartbeats 2000000 in
theorem C (a : (List Go.Proofs.YtgimcnpkngpmiaaDoor.PPostmark.Postmark)) (A0 : Option Addr) (c0 : Nat)  (w : World) (M0 : Hid (Cells w 6 A0 a.length (Go.Proofs.YtgimcnpkngpmiaaDoor.PPostmark.flat a))) (N0 : Hid (a.length ≤ 9223372036854775807))  {r : (List Go.Proofs.YtgimcnpkngpmiaaDoor.PPostmark.Postmark)} (H : Hid (P a = some r)) :
    Calls Tryd.prog 8 #[.slice A0 a.length c0] w (fun e w' => ∃ A_r c_r, e = .returned (.slice A_r r.length c_r) ∧ w'.ownsRow w.heap.size 39 6 (.slice A_r r.length c_r) r.length (Go.Proofs.YtgimcnpkngpmiaaDoor.PPostmark.flat r) ∧ Below w.heap.size w w') := by
  have HB := Lib.hid (Below.refl w.heap.size w)
  unfold P at H
  have N0o := N0.out
  obtain ⟨i0_39, hi_39, hz0_39, hz1_39, hz2_39⟩ := Aid.info_parts (P := Tryd.prog) (T := 39) (z := .agg #[.int .i64 0, .string ByteArray.empty, .int .i64 0, .int .i64 0, .int .i64 0, .string ByteArray.empty]) (s := 6) (b := 64) (by kernel_rfl)
  go_enter Tryd.func8, Tryd.ntmps8
  replace H := guard_hid H
  obtain ⟨hnt_3, H⟩ := H
  replace H := let_hid H
  obtain ⟨t_3, ht_3, H⟩ := H
  have hst_3 := HB.out.size
  have hlt_3 : t_3.length = a.length := by rw [← ht_3]; simp
  have hht_3 := Lib.hid ht_3
  clear ht_3
  go_wp2_with (at_make; refine wpList_make_full _ rfl _ _ 27 rfl w.heap.size 39 i0_39 (.agg #[.int .i64 0, .string ByteArray.empty, .int .i64 0, .int .i64 0, .int .i64 0, .string ByteArray.empty]) 6 Tryd.underlying27 hi_39 hz0_39 hz1_39 .i64 .i64 _ _ a.length rfl rfl (by omega) (by omega) (by rw [hz2_39]; omega) (by unfold maxLen; omega) hst_3 ?_; intro wt_3 ot_3 gt_3; have Qt_3 := Lib.hid ot_3; have Gt_3 := Lib.hid gt_3; clear ot_3 gt_3; refine stop_in ?_)
  refine stop_out ?_
  have hv_ : (Value.slice (some ⟨w.heap.size, 0, none⟩) a.length a.length : Value) = Value.slice (some ⟨w.heap.size, 0, none⟩) t_3.length a.length := by rw [hlt_3]
  rw [hv_]
  clear hv_
  have Et_3 : (Go.Proofs.YtgimcnpkngpmiaaDoor.PPostmark.flat t_3) = (madeCells (.agg #[.int .i64 0, .string ByteArray.empty, .int .i64 0, .int .i64 0, .int .i64 0, .string ByteArray.empty] : Value).cells (a.length * 6)).toList := by
    rw [made_flat Go.Proofs.YtgimcnpkngpmiaaDoor.PPostmark.Postmark.cells (Go.Proofs.YtgimcnpkngpmiaaDoor.PPostmark.Postmark.mk 0 ByteArray.empty 0 0 0 ByteArray.empty) _ 6 _ rfl rfl (by decide), ← hht_3.out]
    rfl
  have Pt_3 : Hid (wt_3.ownsRow w.heap.size 39 6 (.slice (some ⟨w.heap.size, 0, none⟩) a.length a.length) a.length (Go.Proofs.YtgimcnpkngpmiaaDoor.PPostmark.flat t_3)) := Lib.hid (by rw [Et_3]; exact Qt_3.out)
  clear Et_3
  replace hlt_3 := Lib.hid hlt_3
  clear Qt_3 hst_3
  have bt_3 : Below w.heap.size w wt_3 := (Below.refl _ _).grown Gt_3.out (Nat.le_refl _) (by simp)
  clear Gt_3
  have HBwt_3 := Lib.hid (Below.step HB.out bt_3)
  clear bt_3
  replace Pt_3 := Lib.hid (own_len hlt_3.out Pt_3.out)
  go_wp2_with fail
  go_wp2_with fail
  go_loopg [4] (a.length) (fun m_ v4_ wr => ∃ (k0 : Nat) (out_3l0 : (List Go.Proofs.YtgimcnpkngpmiaaDoor.PPostmark.Postmark)), k0 + m_ = a.length ∧ v4_ = .int .i64 (k0 : Int) ∧ Hid (cntK (l0 a) m_ k0 (out_3l0) (e0 ) = some r) ∧ Hid (Below w.heap.size w wr) ∧ Hid (wr.ownsRow w.heap.size 39 6 (.slice (some ⟨w.heap.size, 0, none⟩) t_3.length a.length) t_3.length (Go.Proofs.YtgimcnpkngpmiaaDoor.PPostmark.flat out_3l0)) ∧ Hid (out_3l0.length = t_3.length))
  case atStart => exact ⟨0, _, by omega, rfl, H, HBwt_3, Pt_3, Lib.hid (rfl)⟩
  case round =>
    obtain ⟨k0, out_3l0, hkm0, rfl, H, HBwr0, Oout_3l0, hnout_3l0⟩ := hrel
    rename World => wr0
    cases gk with
    | zero =>
      obtain rfl : k0 = a.length := by omega
      have hc0 : decide (((a.length : Nat) : Int) < ((a.length : Nat) : Int)) = false := by simp
      replace H := cnt_zero H
      unfold e0 at H
      replace H := let_hid H
      obtain ⟨_, rfl, H⟩ := H
      obtain rfl := ret_hid H
      go_wp2_with fail
      go_ret
      have hr_0 := hnout_3l0.out
      replace Oout_3l0 := Lib.hid (own_len hr_0 Oout_3l0.out)
      exact ⟨(some ⟨w.heap.size, 0, none⟩), a.length, (by first | (rw [hr_0]; done) | (rw [hr_0]; rfl)), Oout_3l0.out, HBwr0.out⟩
    | succ m0 =>
      have hlt0 : k0 < a.length := by omega
      have hc0 : decide ((k0 : Int) < ((a.length : Nat) : Int)) = true := by simp; omega
      replace H := cnt_succ H
      unfold l0 at H
      replace H := let_hid H
      obtain ⟨_, rfl, H⟩ := H
      replace H := idx_hid H
      obtain ⟨nt_14, yt_14, et_14, lt_14, gt_14, H⟩ := H
      obtain rfl : k0 = nt_14 := by omega
      clear et_14
      obtain ⟨t_14_id, t_14_town, t_14_kind_, t_14_first, t_14_last, t_14_lost⟩ := yt_14
      replace H := unPostmark_hid H
      obtain ⟨ab_t_14, ao_t_14, zt_14, At_14, z_t_14, ct_14_0, ct_14_1, ct_14_2, ct_14_3, ct_14_4, ct_14_5⟩ := Go.Proofs.YtgimcnpkngpmiaaDoor.OPostmark.at_ M0.out lt_14
      obtain rfl := Option.some.inj (gt_14.out.symm.trans z_t_14)
      subst At_14
      have ltt_14 := cell_lt ct_14_0
      replace ct_14_0 := cell_below HBwr0.out ct_14_0
      replace ct_14_1 := cell_below HBwr0.out ct_14_1
      replace ct_14_2 := cell_below HBwr0.out ct_14_2
      replace ct_14_3 := cell_below HBwr0.out ct_14_3
      replace ct_14_4 := cell_below HBwr0.out ct_14_4
      replace ct_14_5 := cell_below HBwr0.out ct_14_5
      clear z_t_14
      have b0t_14 : (0 : Int) ≤ (k0 : Int) := by omega
      have b1t_14 : (k0 : Int) < ((a.length : Nat) : Int) := by omega
      have b2t_14 : ((k0 : Int)).toNat = k0 := by omega
      replace H := bind_hid H
      obtain ⟨t_16, qt_16, H⟩ := H
      obtain ⟨t_16_id, t_16_town, t_16_kind_, t_16_first, t_16_last, t_16_lost⟩ := t_16
      replace H := unPostmark_hid H
      go_wp2_with fail
      go_at_call 17
      refine (Go.Proofs.YtgimcnpkngpmiaaDoor.GlToPostmark.C ((Go.Proofs.YtgimcnpkngpmiaaDoor.PPostmark.Postmark.mk t_14_id t_14_town t_14_kind_ t_14_first t_14_last t_14_lost))  _    qt_16).mono ?_
      rintro e_t_16 wt_16 ⟨rfl, bt_16⟩
      unfold Go.Proofs.YtgimcnpkngpmiaaDoor.PPostmark.Postmark.val
      have HBwt_16 := Lib.hid (Below.step HBwr0.out bt_16)
      replace ct_14_0 := cell_below bt_16 ct_14_0
      replace ct_14_1 := cell_below bt_16 ct_14_1
      replace ct_14_2 := cell_below bt_16 ct_14_2
      replace ct_14_3 := cell_below bt_16 ct_14_3
      replace ct_14_4 := cell_below bt_16 ct_14_4
      replace ct_14_5 := cell_below bt_16 ct_14_5
      replace Oout_3l0 := Lib.hid (own_below Oout_3l0.out bt_16)
      clear bt_16
      replace H := idx_hid H
      obtain ⟨nt_17, yt_17, et_17, lt_17, gt_17, H⟩ := H
      obtain rfl : k0 = nt_17 := by omega
      clear et_17
      obtain ⟨t_17_id, t_17_town, t_17_kind_, t_17_first, t_17_last, t_17_lost⟩ := yt_17
      replace H := unPostmark_hid H
      have hqt_17 := hnout_3l0.out
      obtain ⟨ab_t_17, ao_t_17, zt_17, At_17, z_t_17, ct_17_0, ct_17_1, ct_17_2, ct_17_3, ct_17_4, ct_17_5⟩ := Go.Proofs.YtgimcnpkngpmiaaDoor.OPostmark.at_ (own_cells Oout_3l0.out) (k := k0) (by omega)
      obtain rfl := Option.some.inj (gt_17.out.symm.trans z_t_17)
      simp only [Option.some.injEq, Addr.mk.injEq] at At_17
      obtain ⟨rfl, rfl, _⟩ := At_17
      clear z_t_17
      simp only [Nat.zero_add] at ct_17_0 ct_17_1 ct_17_2 ct_17_3 ct_17_4 ct_17_5
      have b0t_17 : (0 : Int) ≤ (k0 : Int) := by omega
      have b1t_17 : (k0 : Int) < ((t_3.length : Nat) : Int) := by omega
      have b2t_17 : ((k0 : Int)).toNat = k0 := by omega
      clear hqt_17
      replace H := let_hid H
      obtain ⟨l18_18, hl18_18, H⟩ := H
      try simp only [Int.toNat_natCast] at hl18_18
      obtain ⟨wl18_18, hwl18_18⟩ : ∃ x, ((((((wt_16).setCell ⟨w.heap.size, k0 * 6, none⟩ (.int .i64 t_16_id)).setCell ⟨w.heap.size, k0 * 6 + 1, none⟩ (.string t_16_town)).setCell ⟨w.heap.size, k0 * 6 + 2, none⟩ (.int .i64 t_16_kind_)).setCell ⟨w.heap.size, k0 * 6 + 3, none⟩ (.int .i64 t_16_first)).setCell ⟨w.heap.size, k0 * 6 + 4, none⟩ (.int .i64 t_16_last)).setCell ⟨w.heap.size, k0 * 6 + 5, none⟩ (.string t_16_lost) = x := ⟨_, rfl⟩
      have z0l18_18 := Oout_3l0.out.frozenAt (k0 * 6)
      have z1l18_18 := Oout_3l0.out.frozenAt (k0 * 6 + 1)
      have z2l18_18 := Oout_3l0.out.frozenAt (k0 * 6 + 2)
      have z3l18_18 := Oout_3l0.out.frozenAt (k0 * 6 + 3)
      have z4l18_18 := Oout_3l0.out.frozenAt (k0 * 6 + 4)
      have z5l18_18 := Oout_3l0.out.frozenAt (k0 * 6 + 5)
      have Sl18_18 := Lib.hid (own_stores [(k0 * 6, .int .i64 t_16_id), (k0 * 6 + 1, .string t_16_town), (k0 * 6 + 2, .int .i64 t_16_kind_), (k0 * 6 + 3, .int .i64 t_16_first), (k0 * 6 + 4, .int .i64 t_16_last), (k0 * 6 + 5, .string t_16_lost)] Oout_3l0.out)
      have nl18_18 : Hid (l18_18.length = t_3.length) := Lib.hid (by rw [← hl18_18, List.length_set]; exact hnout_3l0.out)
      have Pl18_18 : Hid (wl18_18.ownsRow w.heap.size 39 6 (.slice (some ⟨w.heap.size, 0, none⟩) t_3.length a.length) t_3.length (Go.Proofs.YtgimcnpkngpmiaaDoor.PPostmark.flat l18_18)) := Lib.hid (by have es_ := set_self gt_17.out; have e0_ := flat_set Go.Proofs.YtgimcnpkngpmiaaDoor.PPostmark.Postmark.cells 6 (fun _ => rfl) out_3l0 (k0) 0 (Go.Proofs.YtgimcnpkngpmiaaDoor.PPostmark.Postmark.mk t_17_id t_17_town t_17_kind_ t_17_first t_17_last t_17_lost) (Go.Proofs.YtgimcnpkngpmiaaDoor.PPostmark.Postmark.mk t_16_id t_17_town t_17_kind_ t_17_first t_17_last t_17_lost) (.int .i64 t_16_id) lt_17 (by decide) rfl; have e1_ := flat_set Go.Proofs.YtgimcnpkngpmiaaDoor.PPostmark.Postmark.cells 6 (fun _ => rfl) out_3l0 (k0) 1 (Go.Proofs.YtgimcnpkngpmiaaDoor.PPostmark.Postmark.mk t_16_id t_17_town t_17_kind_ t_17_first t_17_last t_17_lost) (Go.Proofs.YtgimcnpkngpmiaaDoor.PPostmark.Postmark.mk t_16_id t_16_town t_17_kind_ t_17_first t_17_last t_17_lost) (.string t_16_town) lt_17 (by decide) rfl; have e2_ := flat_set Go.Proofs.YtgimcnpkngpmiaaDoor.PPostmark.Postmark.cells 6 (fun _ => rfl) out_3l0 (k0) 2 (Go.Proofs.YtgimcnpkngpmiaaDoor.PPostmark.Postmark.mk t_16_id t_16_town t_17_kind_ t_17_first t_17_last t_17_lost) (Go.Proofs.YtgimcnpkngpmiaaDoor.PPostmark.Postmark.mk t_16_id t_16_town t_16_kind_ t_17_first t_17_last t_17_lost) (.int .i64 t_16_kind_) lt_17 (by decide) rfl; have e3_ := flat_set Go.Proofs.YtgimcnpkngpmiaaDoor.PPostmark.Postmark.cells 6 (fun _ => rfl) out_3l0 (k0) 3 (Go.Proofs.YtgimcnpkngpmiaaDoor.PPostmark.Postmark.mk t_16_id t_16_town t_16_kind_ t_17_first t_17_last t_17_lost) (Go.Proofs.YtgimcnpkngpmiaaDoor.PPostmark.Postmark.mk t_16_id t_16_town t_16_kind_ t_16_first t_17_last t_17_lost) (.int .i64 t_16_first) lt_17 (by decide) rfl; have e4_ := flat_set Go.Proofs.YtgimcnpkngpmiaaDoor.PPostmark.Postmark.cells 6 (fun _ => rfl) out_3l0 (k0) 4 (Go.Proofs.YtgimcnpkngpmiaaDoor.PPostmark.Postmark.mk t_16_id t_16_town t_16_kind_ t_16_first t_17_last t_17_lost) (Go.Proofs.YtgimcnpkngpmiaaDoor.PPostmark.Postmark.mk t_16_id t_16_town t_16_kind_ t_16_first t_16_last t_17_lost) (.int .i64 t_16_last) lt_17 (by decide) rfl; have e5_ := flat_set Go.Proofs.YtgimcnpkngpmiaaDoor.PPostmark.Postmark.cells 6 (fun _ => rfl) out_3l0 (k0) 5 (Go.Proofs.YtgimcnpkngpmiaaDoor.PPostmark.Postmark.mk t_16_id t_16_town t_16_kind_ t_16_first t_16_last t_17_lost) (Go.Proofs.YtgimcnpkngpmiaaDoor.PPostmark.Postmark.mk t_16_id t_16_town t_16_kind_ t_16_first t_16_last t_16_lost) (.string t_16_lost) lt_17 (by decide) rfl; rw [es_] at e0_; have e_ : ([(k0 * 6, .int .i64 t_16_id), (k0 * 6 + 1, .string t_16_town), (k0 * 6 + 2, .int .i64 t_16_kind_), (k0 * 6 + 3, .int .i64 t_16_first), (k0 * 6 + 4, .int .i64 t_16_last), (k0 * 6 + 5, .string t_16_lost)] : List (Nat × Value)).foldl (fun xs p => xs.set p.1 p.2) (Go.Proofs.YtgimcnpkngpmiaaDoor.PPostmark.flat out_3l0) = (Go.Proofs.YtgimcnpkngpmiaaDoor.PPostmark.flat l18_18) := (by rw [← hl18_18]; show _ = List.flatMap Go.Proofs.YtgimcnpkngpmiaaDoor.PPostmark.Postmark.cells _; first | (rw [← e5_, ← e4_, ← e3_, ← e2_, ← e1_, ← e0_]; first | done | rfl) | (rw [← e5_, ← e4_, ← e3_, ← e2_, ← e1_, es_, ← e0_]; first | done | rfl)); rw [← hwl18_18, ← e_]; exact Sl18_18.out.1)
      have Gl18_18 : Hid (wt_16.grownBy wl18_18 (Value.slice (some ⟨w.heap.size, 0, none⟩) t_3.length a.length).ownBlock) := Lib.hid (by rw [← hwl18_18]; exact Sl18_18.out.2)
      have HBwl18_18 := Lib.hid (HBwt_16.out.grown Gl18_18.out HBwt_16.out.size (fun q hq => (Oout_3l0.out.lt q hq).1))
      have hhl18_18 := Lib.hid hl18_18
      clear hl18_18 Sl18_18
      have ct_14_0__145 := cell_other ct_14_0 Gl18_18.out (apart_old Oout_3l0.out ltt_14)
      have ct_14_1__146 := cell_other ct_14_1 Gl18_18.out (apart_old Oout_3l0.out ltt_14)
      have ct_14_2__147 := cell_other ct_14_2 Gl18_18.out (apart_old Oout_3l0.out ltt_14)
      have ct_14_3__148 := cell_other ct_14_3 Gl18_18.out (apart_old Oout_3l0.out ltt_14)
      have ct_14_4__149 := cell_other ct_14_4 Gl18_18.out (apart_old Oout_3l0.out ltt_14)
      have ct_14_5__150 := cell_other ct_14_5 Gl18_18.out (apart_old Oout_3l0.out ltt_14)
      clear Oout_3l0 Gl18_18
      replace H := app_hid H
      go_wp2_with fail
      clear z0l18_18 z1l18_18 z2l18_18 z3l18_18 z4l18_18 z5l18_18 ct_14_0 ct_14_1 ct_14_2 ct_14_3 ct_14_4 ct_14_5 ct_17_0 ct_17_1 ct_17_2 ct_17_3 ct_17_4 ct_17_5
      go_roundg m0
      case measure => omega
      case rel => exact ⟨k0 + 1, _, by omega, by go_num, H, HBwl18_18, Pl18_18, Lib.hid (nl18_18.out)⟩
end Go.Proofs.YtgimcnpkngpmiaaDoor.GlToPostmarkS

/- The contracts of the laws' helpers on slices of ints: toIntS, eqIntS, markIntS, heldIntS. Condition: the slice reads as a list of ints. -/
namespace Go.Proofs.YtgimcnpkngpmiaaDoor.HelpInt
set_option linter.unusedVariables false
open Go.RowKit
open Go.Proofs.YtgimcnpkngpmiaaDoor.Rowed

/-- ints as values -/
def iv (l : List Int) : List Value := l.map (Value.int .i64)
theorem iv_len (l : List Int) : (iv l).length = l.length := by simp [iv]
theorem iv_at (l : List Int) (k : Nat) : (iv l)[k]? = (l[k]?).map (Value.int .i64) := by simp [iv]
theorem iv_snoc (l : List Int) (x : Int) : iv (l ++ [x]) = iv l ++ [.int .i64 x] := by simp [iv]
/-- the slice 'A, n' reads as the ints l -/
abbrev Ints (w : World) (A : Option Addr) (n : Nat) (l : List Int) : Prop := Cells w 1 A n (iv l)
theorem add_none (b o n : Nat) : (⟨b, o, none⟩ : Addr).add n = ⟨b, o + n, none⟩ := by
  unfold Addr.add; split
  · rename_i h; subst h; rfl
  · rfl
theorem Ints.at_ {w : World} {A : Option Addr} {n k : Nat} {l : List Int} (h : Ints w A n l) (hk : k < n) : ∃ (b o : Nat) (x : Int), A = some ⟨b, o, none⟩ ∧ l[k]? = some x ∧ w.cell? ⟨b, o + k, none⟩ = some (.int .i64 x) := by
  have hl : k < l.length := by have := h.1; rw [iv_len] at this; omega
  obtain ⟨⟨b, o, sp⟩, e, hc⟩ := h.2 (by rw [iv_len]; omega)
  have h0 := hc 0 _ (by rw [iv_at, List.getElem?_eq_getElem (show 0 < l.length by omega)]; rfl)
  obtain rfl : sp = none := cell_spot (b := b) (o := o) h0
  have hs := List.getElem?_eq_getElem hl
  have := hc k (.int .i64 l[k]) (by rw [iv_at, hs]; rfl)
  rw [add_none] at this
  exact ⟨b, o, l[k], e, hs, this⟩

/-- the marks k, k + 1, .. -/
def imarks (k n : Nat) : List Value := (List.range n).map fun i => Value.int .i64 ((k + i : Nat) : Int)
theorem imarks_len (k n : Nat) : (imarks k n).length = n := by simp [imarks]
theorem imarks_at (k n i : Nat) (h : i < n) : (imarks k n)[i]? = some (.int .i64 ((k + i : Nat) : Int)) := by
  unfold imarks; rw [List.getElem?_map, List.getElem?_range h]; rfl
theorem grown_of {W W' : World} (h : Below W.heap.size W W') : W.grownBy W' none := ⟨h.os, h.tape, h.output, h.size, fun k hk _ => h.block k hk⟩
theorem grown_tr {a b c : World} {r : Option Nat} (h : a.grownBy b r) (k : b.grownBy c r) : a.grownBy c r :=
  ⟨k.os.trans h.os, k.tape.trans h.tape, k.output.trans h.output, Nat.le_trans h.size k.size, fun i hi hr => (k.block i (Nat.lt_of_lt_of_le hi h.size) hr).trans (h.block i hi hr)⟩
theorem grown_refl (w : World) (r : Option Nat) : w.grownBy w r := ⟨rfl, rfl, rfl, Nat.le_refl _, fun _ _ _ => rfl⟩

def MarkRel (w : World) (base n c k : Nat) (A : Option Addr) (xs : List Value) (i : Nat) (wr : World) : Prop :=
  wr.ownsRow base 3 1 (.slice A n c) n (fill (imarks k n) xs i) ∧ w.grownBy wr (Value.slice A n c).ownBlock

theorem mark_next {w wr : World} {base n c k i : Nat} {A : Option Addr} {xs : List Value} (h : MarkRel w base n c k A xs i wr) (hxs : xs.length = n) (hi : i < n) :
    ∃ g y, A = some ⟨g, 0, none⟩ ∧ wr.cell? ⟨g, i, none⟩ = some y ∧ wr.frozen? ⟨g, i, none⟩ = false ∧ MarkRel w base n c k A xs (i + 1) (wr.setCell ⟨g, i, none⟩ (.int .i64 ((k + i : Nat) : Int))) := by
  obtain ⟨g, rfl⟩ : ∃ g, A = some ⟨g, 0, none⟩ := by
    rcases h.1.2 with ⟨_, h0⟩ | ⟨g, cap, cur, hv, _⟩
    · omega
    · injection hv with h1 h2 h3; exact ⟨g, h1⟩
  have h1 := h.1
  have hlen : (fill (imarks k n) xs i).length = n := by rw [fill_len _ _ _ (by rw [imarks_len, hxs])]; exact hxs
  have hc := h1.cellAt i (by omega)
  rw [List.getElem?_eq_getElem (by omega)] at hc
  refine ⟨g, _, rfl, hc, h1.frozenAt i, ?_, ?_⟩
  · have := (h1.stored i (.int .i64 ((k + i : Nat) : Int))).1
    rw [fill_set _ _ _ _ (by omega) (imarks_at k n i hi)] at this
    exact this
  · exact grown_tr h.2 (h1.stored i (.int .i64 ((k + i : Nat) : Int))).2

def MarkPost (w : World) (base n c k : Nat) (A : Option Addr) (e : Ending) (w' : World) : Prop :=
  e = .returned (.int .i64 ((k + n : Nat) : Int)) ∧ w'.ownsRow base 3 1 (.slice A n c) n (imarks k n) ∧ w.grownBy w' (Value.slice A n c).ownBlock

/-- a slice that is owned, as a slice that reads -/
theorem own_cells {w : World} {base n c size : Nat} {A : Option Addr} {e : TypeId} {xs : List Value} (h : w.ownsRow base e size (.slice A n c) n xs) : Cells w size A n xs := by
  rcases h.2 with ⟨hv, h0⟩ | ⟨g, cap, cur, hv, _⟩
  · subst h0
    have := h.1
    exact ⟨h.1, fun hn => by omega⟩
  · injection hv with h1 h2 h3
    subst h1
    exact Cells.of_own h
theorem own_below {w w' : World} {base n c size : Nat} {A : Option Addr} {e : TypeId} {xs : List Value} (h : w.ownsRow base e size (.slice A n c) n xs) (hb : Below w.heap.size w w') : w'.ownsRow base e size (.slice A n c) n xs :=
  h.kept (grown_of hb) (by cases (Value.slice A n c).ownBlock <;> simp)
end Go.Proofs.YtgimcnpkngpmiaaDoor.HelpInt

/- loop.example/g01062/spec.l1In as a plain function, and the contract of the program's: where the plain one has an answer, the program has it. Conditions: slices read as lists. -/
namespace Go.Proofs.YtgimcnpkngpmiaaDoor.GsL1In
set_option linter.unusedVariables false
set_option linter.unusedSimpArgs false
open Go.RowKit
open Go.Proofs.YtgimcnpkngpmiaaDoor.Rowed Go.Proofs.YtgimcnpkngpmiaaDoor.Turn Go.Proofs.YtgimcnpkngpmiaaDoor.Aid Go.Proofs.YtgimcnpkngpmiaaDoor.GoP Go.Proofs.YtgimcnpkngpmiaaDoor.GoM

def P (x : Int) (a : Int) (b : Int) : Option (Bool) :=
  letK (decide (a ≤ x)) fun (t_3 : Bool) =>
  joinK (fun (t_8 : Bool) =>
  some t_8) fun jt_8 => iteK t_3 (letK (decide (x ≤ b)) fun (t_7 : Bool) =>
  appK jt_8 t_7) (appK jt_8 false)

set_option maxRecDepth 100000 in
set_option maxHeartbeats 2000000 in
theorem C (x : Int) (a : Int) (b : Int)   (w : World)   {r : Bool} (H : Hid (P x a b = some r)) :
    Calls Tryd.prog 67 #[.int .i64 x, .int .i64 a, .int .i64 b] w (Gives (.bool r) w) := by
  have HB := Lib.hid (Below.refl w.heap.size w)
  unfold P at H
  go_enter Tryd.func67, Tryd.ntmps67
  replace H := let_hid H
  obtain ⟨t_3, ht_3, H⟩ := H
  replace H := join_hid H
  cases t_3 with
  | false =>
    replace H := ite_f H
    replace H := app_hid H
    obtain rfl := ret_hid H
    go_wp2_with fail
    go_ret
    exact ⟨rfl, HB.out⟩
  | true =>
    replace H := ite_t H
    replace H := let_hid H
    obtain ⟨t_7, ht_7, H⟩ := H
    replace H := app_hid H
    obtain rfl := ret_hid H
    go_wp2_with fail
    go_ret
    exact ⟨rfl, HB.out⟩

set_option maxRecDepth 100000 in
set_option maxHeartbeats 2000000 in
theorem C0 (x : Int) (a : Int) (b : Int)   (w : World)   {r : Bool} (H : Hid (P x a b = some r)) :
    Calls Tryd.prog 67 #[.int .i64 x, .int .i64 a, .int .i64 b] w (fun e w'' => e = .returned (.bool r) ∧ w'' = w) := by
  have HB := Lib.hid (Below.refl w.heap.size w)
  unfold P at H
  go_enter Tryd.func67, Tryd.ntmps67
  replace H := let_hid H
  obtain ⟨t_3, ht_3, H⟩ := H
  replace H := join_hid H
  cases t_3 with
  | false =>
    replace H := ite_f H
    replace H := app_hid H
    obtain rfl := ret_hid H
    go_wp2_with fail
    go_ret
    exact ⟨rfl, rfl⟩
  | true =>
    replace H := ite_t H
    replace H := let_hid H
    obtain ⟨t_7, ht_7, H⟩ := H
    replace H := app_hid H
    obtain rfl := ret_hid H
    go_wp2_with fail
    go_ret
    exact ⟨rfl, rfl⟩
end Go.Proofs.YtgimcnpkngpmiaaDoor.GsL1In

/- loop.example/g01062/spec.l2Word as a plain function, and the contract of the program's: where the plain one has an answer, the program has it. Conditions: slices read as lists. -/
namespace Go.Proofs.YtgimcnpkngpmiaaDoor.GsL2Word
set_option linter.unusedVariables false
set_option linter.unusedSimpArgs false
open Go.RowKit
open Go.Proofs.YtgimcnpkngpmiaaDoor.Rowed Go.Proofs.YtgimcnpkngpmiaaDoor.Turn Go.Proofs.YtgimcnpkngpmiaaDoor.Aid Go.Proofs.YtgimcnpkngpmiaaDoor.GoP Go.Proofs.YtgimcnpkngpmiaaDoor.GoM

def l0 (s_0 : ByteArray) (k0 : Nat) (s : Unit) (nx0 bk0 : Unit → Option (Bool)) : Option (Bool) :=
  
  Option.bind (idx s_0.toList (k0 : Int)) fun (yt_8 : UInt8) =>
  letK ((yt_8.toNat : Int)) fun (t_8 : Int) =>
  letK (decide (t_8 < 97)) fun (t_9 : Bool) =>
  joinK (fun (t_15 : Bool) =>
  iteK t_15
  (some false)
  (appK nx0 ())) fun jt_15 => iteK t_9 (appK jt_15 true) (Option.bind (idx s_0.toList (k0 : Int)) fun (yt_13 : UInt8) =>
  letK ((yt_13.toNat : Int)) fun (t_13 : Int) =>
  letK (decide (122 < t_13)) fun (t_14 : Bool) =>
  appK jt_15 t_14)

def e0 (s_0 : ByteArray) (s : Unit) : Option (Bool) :=
  
  Option.bind (Go.Proofs.YtgimcnpkngpmiaaDoor.GsL1In.P (s_0.size : Int) 1 10) fun (t_22 : Bool) =>
  some t_22

def P (s_0 : ByteArray) : Option (Bool) :=
  guardK (s_0.size ≤ 9223372036854775807) <|
  cntK (l0 s_0) (s_0.size) 0 () (e0 s_0)

set_option maxRecDepth 100000 in
set_option maxHeartbeats 2000000 in
theorem C (s_0 : ByteArray)   (w : World)   {r : Bool} (H : Hid (P s_0 = some r)) :
    Calls Tryd.prog 75 #[.string s_0] w (Gives (.bool r) w) := by
  have HB := Lib.hid (Below.refl w.heap.size w)
  unfold P at H
  go_enter Tryd.func75, Tryd.ntmps75
  replace H := guard_hid H
  obtain ⟨hg0, H⟩ := H
  go_wp2_with fail
  go_loopg [3] (s_0.size) (fun m_ v3_ wr => ∃ (k0 : Nat) , k0 + m_ = s_0.size ∧ v3_ = .int .i64 (k0 : Int) ∧ Hid (cntK (l0 s_0) m_ k0 () (e0 s_0) = some r) ∧ Hid (Below w.heap.size w wr))
  case atStart => exact ⟨0, by omega, rfl, H, HB⟩
  case round =>
    obtain ⟨k0, hkm0, rfl, H, HBwr0⟩ := hrel
    rename World => wr0
    cases gk with
    | zero =>
      obtain rfl : k0 = s_0.size := by omega
      have hc0 : decide (((s_0.size : Nat) : Int) < ((s_0.size : Nat) : Int)) = false := by simp
      replace H := cnt_zero H
      unfold e0 at H
      replace H := bind_hid H
      obtain ⟨t_22, qt_22, H⟩ := H
      go_wp2_with fail
      go_at_call 67
      refine (Go.Proofs.YtgimcnpkngpmiaaDoor.GsL1In.C ((s_0.size : Int)) (1) (10)  _    qt_22).mono ?_
      rintro e_t_22 wt_22 ⟨rfl, bt_22⟩
      have HBwt_22 := Lib.hid (Below.step HBwr0.out bt_22)
      clear bt_22
      obtain rfl := ret_hid H
      go_wp2_with fail
      go_ret
      exact ⟨rfl, HBwt_22.out⟩
    | succ m0 =>
      have hlt0 : k0 < s_0.size := by omega
      have hc0 : decide ((k0 : Int) < ((s_0.size : Nat) : Int)) = true := by simp; omega
      replace H := cnt_succ H
      unfold l0 at H
      replace H := idx_hid H
      obtain ⟨nt_8, yt_8, et_8, lt_8, gt_8, H⟩ := H
      obtain rfl : k0 = nt_8 := by omega
      clear et_8
      have rt_8 := byte_rule lt_8 gt_8.out
      have b0t_8 : (0 : Int) ≤ (k0 : Int) := by omega
      have b1t_8 : (k0 : Int) < (s_0.size : Int) := by have := size_list s_0; omega
      have b2t_8 : ((k0 : Int)).toNat = k0 := by omega
      have b3t_8 : k0 < s_0.size := by have := size_list s_0; omega
      replace H := let_hid H
      obtain ⟨t_8, ht_8, H⟩ := H
      replace H := let_hid H
      obtain ⟨t_9, ht_9, H⟩ := H
      replace H := join_hid H
      cases t_9 with
      | false =>
        replace H := ite_f H
        replace H := idx_hid H
        obtain ⟨nt_13, yt_13, et_13, lt_13, gt_13, H⟩ := H
        obtain rfl : k0 = nt_13 := by omega
        clear et_13
        obtain rfl := Option.some.inj (gt_8.out.symm.trans gt_13.out)
        clear gt_13 lt_13
        replace H := let_hid H
        obtain ⟨t_13, ht_13, H⟩ := H
        obtain rfl := ht_8.symm.trans ht_13
        replace H := let_hid H
        obtain ⟨t_14, ht_14, H⟩ := H
        replace H := app_hid H
        cases t_14 with
        | false =>
          replace H := ite_f H
          replace H := app_hid H
          go_wp2_with fail
          go_roundg m0
          case measure => omega
          case rel => exact ⟨k0 + 1, by omega, by go_num, H, HBwr0⟩
        | true =>
          replace H := ite_t H
          obtain rfl := ret_hid H
          go_wp2_with fail
          go_ret
          exact ⟨rfl, HBwr0.out⟩
      | true =>
        replace H := ite_t H
        replace H := app_hid H
        replace H := ite_t H
        obtain rfl := ret_hid H
        go_wp2_with fail
        go_ret
        exact ⟨rfl, HBwr0.out⟩
end Go.Proofs.YtgimcnpkngpmiaaDoor.GsL2Word

/- loop.example/g01062/spec.l2Day as a plain function, and the contract of the program's: where the plain one has an answer, the program has it. Conditions: slices read as lists. -/
namespace Go.Proofs.YtgimcnpkngpmiaaDoor.GsL2Day
set_option linter.unusedVariables false
set_option linter.unusedSimpArgs false
open Go.RowKit
open Go.Proofs.YtgimcnpkngpmiaaDoor.Rowed Go.Proofs.YtgimcnpkngpmiaaDoor.Turn Go.Proofs.YtgimcnpkngpmiaaDoor.Aid Go.Proofs.YtgimcnpkngpmiaaDoor.GoP Go.Proofs.YtgimcnpkngpmiaaDoor.GoM

def P (d_0 : Int) : Option (Bool) :=
  Option.bind (Go.Proofs.YtgimcnpkngpmiaaDoor.GsL1In.P d_0 0 4000) fun (t_2 : Bool) =>
  some t_2

set_option maxRecDepth 100000 in
set_option maxHeartbeats 2000000 in
theorem C (d_0 : Int)   (w : World)   {r : Bool} (H : Hid (P d_0 = some r)) :
    Calls Tryd.prog 42 #[.int .i64 d_0] w (Gives (.bool r) w) := by
  have HB := Lib.hid (Below.refl w.heap.size w)
  unfold P at H
  go_enter Tryd.func42, Tryd.ntmps42
  replace H := bind_hid H
  obtain ⟨t_2, qt_2, H⟩ := H
  go_wp2_with fail
  go_at_call 67
  refine (Go.Proofs.YtgimcnpkngpmiaaDoor.GsL1In.C (d_0) (0) (4000)  _    qt_2).mono ?_
  rintro e_t_2 wt_2 ⟨rfl, bt_2⟩
  have HBwt_2 := Lib.hid (Below.step HB.out bt_2)
  clear bt_2
  obtain rfl := ret_hid H
  go_wp2_with fail
  go_ret
  exact ⟨rfl, HBwt_2.out⟩
end Go.Proofs.YtgimcnpkngpmiaaDoor.GsL2Day

/- loop.example/g01062/spec.l11One as a plain function, and the contract of the program's: where the plain one has an answer, the program has it. Conditions: slices read as lists. -/
namespace Go.Proofs.YtgimcnpkngpmiaaDoor.GsL11One
set_option linter.unusedVariables false
set_option linter.unusedSimpArgs false
open Go.RowKit
open Go.Proofs.YtgimcnpkngpmiaaDoor.Rowed Go.Proofs.YtgimcnpkngpmiaaDoor.Turn Go.Proofs.YtgimcnpkngpmiaaDoor.Aid Go.Proofs.YtgimcnpkngpmiaaDoor.GoP Go.Proofs.YtgimcnpkngpmiaaDoor.GoM

def l0 (p_lost : ByteArray) (s : Bool × Int) (nx0 bk0 : Bool × Int → Option (Bool)) : Option (Bool) :=
  unp2 s fun seen_3l0 i_4l0 =>
  letK (decide (i_4l0 < (p_lost.size : Int))) fun (t_48 : Bool) =>
  iteK t_48
  (Option.bind (idx p_lost.toList i_4l0) fun (yt_52 : UInt8) =>
  letK ((yt_52.toNat : Int)) fun (t_52 : Int) =>
  letK (t_52 != 46) fun (t_53 : Bool) =>
  joinK (fun (t_60 : Bool) =>
  iteK t_60
  (some false)
  (joinK (fun (t_69 : Bool) =>
  letK (IntKind.i64.wrap (i_4l0 + 1)) fun (t_72 : Int) =>
  appK nx0 (t_69, t_72)) fun jt_69 => iteK seen_3l0 (appK jt_69 true) (Option.bind (idx p_lost.toList i_4l0) fun (yt_67 : UInt8) =>
  letK ((yt_67.toNat : Int)) fun (t_67 : Int) =>
  letK (t_67 == 46) fun (t_68 : Bool) =>
  appK jt_69 t_68))) fun jt_60 => iteK t_53 (Option.bind (idx p_lost.toList i_4l0) fun (yt_58 : UInt8) =>
  letK ((yt_58.toNat : Int)) fun (t_58 : Int) =>
  letK (t_58 != 120) fun (t_59 : Bool) =>
  appK jt_60 t_59) (appK jt_60 false))
  (appK bk0 (seen_3l0, i_4l0))

def e0  (s : Bool × Int) : Option (Bool) :=
  unp2 s fun seen_3l0 i_4l0 =>
  some seen_3l0

def P (fuel : Nat) (p : Go.Proofs.YtgimcnpkngpmiaaDoor.PPostmark.Postmark) : Option (Bool) :=
  unPostmark p fun (p_id : Int) (p_town : ByteArray) (p_kind_ : Int) (p_first : Int) (p_last : Int) (p_lost : ByteArray) =>
  Option.bind (Go.Proofs.YtgimcnpkngpmiaaDoor.GsL1In.P p_id 1 999) fun (t_4 : Bool) =>
  letK (!t_4) fun (t_5 : Bool) =>
  joinK (fun (t_11 : Bool) =>
  joinK (fun (t_17 : Bool) =>
  joinK (fun (t_23 : Bool) =>
  joinK (fun (t_31 : Bool) =>
  joinK (fun (t_40 : Bool) =>
  iteK t_40
  (some false)
  (loopK (l0 p_lost) fuel (false, 0) (e0 ))) fun jt_40 => iteK t_31 (appK jt_40 true) (letK ((p_lost.size : Int) != (p_town.size : Int)) fun (t_39 : Bool) =>
  appK jt_40 t_39)) fun jt_31 => iteK t_23 (appK jt_31 true) (Option.bind (Go.Proofs.YtgimcnpkngpmiaaDoor.GsL1In.P p_first 0 p_last) fun (t_29 : Bool) =>
  letK (!t_29) fun (t_30 : Bool) =>
  appK jt_31 t_30)) fun jt_23 => iteK t_17 (appK jt_23 true) (Option.bind (Go.Proofs.YtgimcnpkngpmiaaDoor.GsL2Day.P p_last) fun (t_21 : Bool) =>
  letK (!t_21) fun (t_22 : Bool) =>
  appK jt_23 t_22)) fun jt_17 => iteK t_11 (appK jt_17 true) (Option.bind (Go.Proofs.YtgimcnpkngpmiaaDoor.GsL1In.P p_kind_ 1 5) fun (t_15 : Bool) =>
  letK (!t_15) fun (t_16 : Bool) =>
  appK jt_17 t_16)) fun jt_11 => iteK t_5 (appK jt_11 true) (Option.bind (Go.Proofs.YtgimcnpkngpmiaaDoor.GsL2Word.P p_town) fun (t_9 : Bool) =>
  letK (!t_9) fun (t_10 : Bool) =>
  appK jt_11 t_10)

set_option maxRecDepth 100000 in
set_option maxHeartbeats 2000000 in
theorem C (fuel : Nat) (p : Go.Proofs.YtgimcnpkngpmiaaDoor.PPostmark.Postmark)   (w : World)   {r : Bool} (H : Hid (P fuel p = some r)) :
    Calls Tryd.prog 56 #[p.val] w (Gives (.bool r) w) := by
  have HB := Lib.hid (Below.refl w.heap.size w)
  unfold P at H
  obtain ⟨p_id, p_town, p_kind_, p_first, p_last, p_lost⟩ := p
  replace H := unPostmark_hid H
  unfold Go.Proofs.YtgimcnpkngpmiaaDoor.PPostmark.Postmark.val
  go_enter Tryd.func56, Tryd.ntmps56
  obtain ⟨w_p_0, hw_p_0⟩ : ∃ x, w.alloc (.cells #[.int .i64 p_id, .string p_town, .int .i64 p_kind_, .int .i64 p_first, .int .i64 p_last, .string p_lost] 39) = x := ⟨_, rfl⟩
  have bw_p_0 : Below w.heap.size w w_p_0 := by rw [← hw_p_0]; exact (Below.refl _ _).alloc (Nat.le_refl _) _
  have HBw_p_0 := Lib.hid (Below.step HB.out bw_p_0)
  clear bw_p_0
  have kp_0_0 : w_p_0.cell? ⟨w.heap.size, 0, none⟩ = some (.int .i64 p_id) := by rw [← hw_p_0]; exact box_new _ _ _ 0 _ rfl
  have kp_0_1 : w_p_0.cell? ⟨w.heap.size, 1, none⟩ = some (.string p_town) := by rw [← hw_p_0]; exact box_new _ _ _ 1 _ rfl
  have kp_0_2 : w_p_0.cell? ⟨w.heap.size, 2, none⟩ = some (.int .i64 p_kind_) := by rw [← hw_p_0]; exact box_new _ _ _ 2 _ rfl
  have kp_0_3 : w_p_0.cell? ⟨w.heap.size, 3, none⟩ = some (.int .i64 p_first) := by rw [← hw_p_0]; exact box_new _ _ _ 3 _ rfl
  have kp_0_4 : w_p_0.cell? ⟨w.heap.size, 4, none⟩ = some (.int .i64 p_last) := by rw [← hw_p_0]; exact box_new _ _ _ 4 _ rfl
  have kp_0_5 : w_p_0.cell? ⟨w.heap.size, 5, none⟩ = some (.string p_lost) := by rw [← hw_p_0]; exact box_new _ _ _ 5 _ rfl
  replace H := bind_hid H
  obtain ⟨t_4, qt_4, H⟩ := H
  go_wp2_with fail
  go_at_call 67
  refine (Go.Proofs.YtgimcnpkngpmiaaDoor.GsL1In.C (p_id) (1) (999)  _    qt_4).mono ?_
  rintro e_t_4 wt_4 ⟨rfl, bt_4⟩
  have HBwt_4 := Lib.hid (Below.step HBw_p_0.out bt_4)
  replace kp_0_0 := cell_below bt_4 kp_0_0
  replace kp_0_1 := cell_below bt_4 kp_0_1
  replace kp_0_2 := cell_below bt_4 kp_0_2
  replace kp_0_3 := cell_below bt_4 kp_0_3
  replace kp_0_4 := cell_below bt_4 kp_0_4
  replace kp_0_5 := cell_below bt_4 kp_0_5
  clear bt_4
  cases t_4 with
  | false =>
    replace H := let_hid H
    obtain ⟨t_5, ht_5, H⟩ := H
    obtain rfl : t_5 = true := ht_5.symm
    replace H := join_hid H
    replace H := ite_t H
    replace H := app_hid H
    replace H := join_hid H
    replace H := ite_t H
    replace H := app_hid H
    replace H := join_hid H
    replace H := ite_t H
    replace H := app_hid H
    replace H := join_hid H
    replace H := ite_t H
    replace H := app_hid H
    replace H := join_hid H
    replace H := ite_t H
    replace H := app_hid H
    replace H := ite_t H
    obtain rfl := ret_hid H
    go_wp2_with fail
    go_ret
    exact ⟨rfl, HBwt_4.out⟩
  | true =>
    replace H := let_hid H
    obtain ⟨t_5, ht_5, H⟩ := H
    obtain rfl : t_5 = false := ht_5.symm
    replace H := join_hid H
    replace H := ite_f H
    replace H := bind_hid H
    obtain ⟨t_9, qt_9, H⟩ := H
    go_wp2_with fail
    go_at_call 75
    refine (Go.Proofs.YtgimcnpkngpmiaaDoor.GsL2Word.C (p_town)  _    qt_9).mono ?_
    rintro e_t_9 wt_9 ⟨rfl, bt_9⟩
    have HBwt_9 := Lib.hid (Below.step HBwt_4.out bt_9)
    replace kp_0_0 := cell_below bt_9 kp_0_0
    replace kp_0_1 := cell_below bt_9 kp_0_1
    replace kp_0_2 := cell_below bt_9 kp_0_2
    replace kp_0_3 := cell_below bt_9 kp_0_3
    replace kp_0_4 := cell_below bt_9 kp_0_4
    replace kp_0_5 := cell_below bt_9 kp_0_5
    clear bt_9
    cases t_9 with
    | false =>
      replace H := let_hid H
      obtain ⟨t_10, ht_10, H⟩ := H
      obtain rfl : t_10 = true := ht_10.symm
      replace H := app_hid H
      replace H := join_hid H
      replace H := ite_t H
      replace H := app_hid H
      replace H := join_hid H
      replace H := ite_t H
      replace H := app_hid H
      replace H := join_hid H
      replace H := ite_t H
      replace H := app_hid H
      replace H := join_hid H
      replace H := ite_t H
      replace H := app_hid H
      replace H := ite_t H
      obtain rfl := ret_hid H
      go_wp2_with fail
      go_ret
      exact ⟨rfl, HBwt_9.out⟩
    | true =>
      replace H := let_hid H
      obtain ⟨t_10, ht_10, H⟩ := H
      obtain rfl : t_10 = false := ht_10.symm
      replace H := app_hid H
      replace H := join_hid H
      replace H := ite_f H
      replace H := bind_hid H
      obtain ⟨t_15, qt_15, H⟩ := H
      go_wp2_with fail
      go_at_call 67
      refine (Go.Proofs.YtgimcnpkngpmiaaDoor.GsL1In.C (p_kind_) (1) (5)  _    qt_15).mono ?_
      rintro e_t_15 wt_15 ⟨rfl, bt_15⟩
      have HBwt_15 := Lib.hid (Below.step HBwt_9.out bt_15)
      replace kp_0_0 := cell_below bt_15 kp_0_0
      replace kp_0_1 := cell_below bt_15 kp_0_1
      replace kp_0_2 := cell_below bt_15 kp_0_2
      replace kp_0_3 := cell_below bt_15 kp_0_3
      replace kp_0_4 := cell_below bt_15 kp_0_4
      replace kp_0_5 := cell_below bt_15 kp_0_5
      clear bt_15
      cases t_15 with
      | false =>
        replace H := let_hid H
        obtain ⟨t_16, ht_16, H⟩ := H
        obtain rfl : t_16 = true := ht_16.symm
        replace H := app_hid H
        replace H := join_hid H
        replace H := ite_t H
        replace H := app_hid H
        replace H := join_hid H
        replace H := ite_t H
        replace H := app_hid H
        replace H := join_hid H
        replace H := ite_t H
        replace H := app_hid H
        replace H := ite_t H
        obtain rfl := ret_hid H
        go_wp2_with fail
        go_ret
        exact ⟨rfl, HBwt_15.out⟩
      | true =>
        replace H := let_hid H
        obtain ⟨t_16, ht_16, H⟩ := H
        obtain rfl : t_16 = false := ht_16.symm
        replace H := app_hid H
        replace H := join_hid H
        replace H := ite_f H
        replace H := bind_hid H
        obtain ⟨t_21, qt_21, H⟩ := H
        go_wp2_with fail
        go_at_call 42
        refine (Go.Proofs.YtgimcnpkngpmiaaDoor.GsL2Day.C (p_last)  _    qt_21).mono ?_
        rintro e_t_21 wt_21 ⟨rfl, bt_21⟩
        have HBwt_21 := Lib.hid (Below.step HBwt_15.out bt_21)
        replace kp_0_0 := cell_below bt_21 kp_0_0
        replace kp_0_1 := cell_below bt_21 kp_0_1
        replace kp_0_2 := cell_below bt_21 kp_0_2
        replace kp_0_3 := cell_below bt_21 kp_0_3
        replace kp_0_4 := cell_below bt_21 kp_0_4
        replace kp_0_5 := cell_below bt_21 kp_0_5
        clear bt_21
        cases t_21 with
        | false =>
          replace H := let_hid H
          obtain ⟨t_22, ht_22, H⟩ := H
          obtain rfl : t_22 = true := ht_22.symm
          replace H := app_hid H
          replace H := join_hid H
          replace H := ite_t H
          replace H := app_hid H
          replace H := join_hid H
          replace H := ite_t H
          replace H := app_hid H
          replace H := ite_t H
          obtain rfl := ret_hid H
          go_wp2_with fail
          go_ret
          exact ⟨rfl, HBwt_21.out⟩
        | true =>
          replace H := let_hid H
          obtain ⟨t_22, ht_22, H⟩ := H
          obtain rfl : t_22 = false := ht_22.symm
          replace H := app_hid H
          replace H := join_hid H
          replace H := ite_f H
          replace H := bind_hid H
          obtain ⟨t_29, qt_29, H⟩ := H
          go_wp2_with fail
          go_at_call 67
          refine (Go.Proofs.YtgimcnpkngpmiaaDoor.GsL1In.C (p_first) (0) (p_last)  _    qt_29).mono ?_
          rintro e_t_29 wt_29 ⟨rfl, bt_29⟩
          have HBwt_29 := Lib.hid (Below.step HBwt_21.out bt_29)
          replace kp_0_0 := cell_below bt_29 kp_0_0
          replace kp_0_1 := cell_below bt_29 kp_0_1
          replace kp_0_2 := cell_below bt_29 kp_0_2
          replace kp_0_3 := cell_below bt_29 kp_0_3
          replace kp_0_4 := cell_below bt_29 kp_0_4
          replace kp_0_5 := cell_below bt_29 kp_0_5
          clear bt_29
          cases t_29 with
          | false =>
            replace H := let_hid H
            obtain ⟨t_30, ht_30, H⟩ := H
            obtain rfl : t_30 = true := ht_30.symm
            replace H := app_hid H
            replace H := join_hid H
            replace H := ite_t H
            replace H := app_hid H
            replace H := ite_t H
            obtain rfl := ret_hid H
            go_wp2_with fail
            go_ret
            exact ⟨rfl, HBwt_29.out⟩
          | true =>
            replace H := let_hid H
            obtain ⟨t_30, ht_30, H⟩ := H
            obtain rfl : t_30 = false := ht_30.symm
            replace H := app_hid H
            replace H := join_hid H
            replace H := ite_f H
            replace H := let_hid H
            obtain ⟨t_39, ht_39, H⟩ := H
            replace H := app_hid H
            cases t_39 with
            | false =>
              have Hht_39 : Hid (p_lost.size = p_town.size) := Lib.hid (by have := bne_eq_false_iff_eq.1 ht_39; omega)
              have nht_39 : (p_lost.size == p_town.size) = true := beq_iff_eq.2 Hht_39.out
              replace H := ite_f H
              go_wp2_with fail
              go_loopg [3, 4] (fuel) (fun m_ v3_ v4_ wr => ∃ (seen_3l0 : Bool) (i_4l0 : Int), v3_ = .bool seen_3l0 ∧ v4_ = .int .i64 i_4l0 ∧ Hid (loopK (l0 p_lost) m_ (seen_3l0, i_4l0) (e0 ) = some r) ∧ Hid (Below w.heap.size w wr) ∧ wr.cell? ⟨w.heap.size, 0, none⟩ = some (.int .i64 p_id) ∧ wr.cell? ⟨w.heap.size, 1, none⟩ = some (.string p_town) ∧ wr.cell? ⟨w.heap.size, 2, none⟩ = some (.int .i64 p_kind_) ∧ wr.cell? ⟨w.heap.size, 3, none⟩ = some (.int .i64 p_first) ∧ wr.cell? ⟨w.heap.size, 4, none⟩ = some (.int .i64 p_last) ∧ wr.cell? ⟨w.heap.size, 5, none⟩ = some (.string p_lost))
              case atStart => exact ⟨_, _, rfl, rfl, H, HBwt_29, kp_0_0, kp_0_1, kp_0_2, kp_0_3, kp_0_4, kp_0_5⟩
              case round =>
                obtain ⟨seen_3l0, i_4l0, rfl, rfl, H, HBwr0, kp_0_0, kp_0_1, kp_0_2, kp_0_3, kp_0_4, kp_0_5⟩ := hrel
                rename World => wr0
                cases gk with
                | zero => exact (loop_zero H).elim
                | succ m0 =>
                  replace H := loop_succ H
                  unfold l0 at H
                  replace H := unp2_hid H
                  replace H := let_hid H
                  obtain ⟨t_48, ht_48, H⟩ := H
                  cases t_48 with
                  | false =>
                    replace H := ite_f H
                    replace H := app_hid H
                    unfold e0 at H
                    replace H := unp2_hid H
                    obtain rfl := ret_hid H
                    go_wp2_with fail
                    go_ret
                    exact ⟨rfl, HBwr0.out⟩
                  | true =>
                    replace H := ite_t H
                    replace H := idx_hid H
                    obtain ⟨nt_52, yt_52, et_52, lt_52, gt_52, H⟩ := H
                    subst et_52
                    have nc_151 : nt_52 < p_lost.size := by have := of_decide_eq_true ht_48; omega
                    have rt_52 := byte_rule lt_52 gt_52.out
                    have b0t_52 : (0 : Int) ≤ (nt_52 : Int) := by omega
                    have b1t_52 : (nt_52 : Int) < (p_lost.size : Int) := by have := size_list p_lost; omega
                    have b2t_52 : ((nt_52 : Int)).toNat = nt_52 := by omega
                    have b3t_52 : nt_52 < p_lost.size := by have := size_list p_lost; omega
                    replace H := let_hid H
                    obtain ⟨t_52, ht_52, H⟩ := H
                    replace H := let_hid H
                    obtain ⟨t_53, ht_53, H⟩ := H
                    replace H := join_hid H
                    cases t_53 with
                    | false =>
                      replace H := ite_f H
                      replace H := app_hid H
                      replace H := ite_f H
                      replace H := join_hid H
                      cases seen_3l0 with
                      | false =>
                        replace H := ite_f H
                        replace H := idx_hid H
                        obtain ⟨nt_67, yt_67, et_67, lt_67, gt_67, H⟩ := H
                        obtain rfl : nt_52 = nt_67 := by omega
                        clear et_67
                        obtain rfl := Option.some.inj (gt_52.out.symm.trans gt_67.out)
                        clear gt_67 lt_67
                        replace H := let_hid H
                        obtain ⟨t_67, ht_67, H⟩ := H
                        obtain rfl := ht_52.symm.trans ht_67
                        replace H := let_hid H
                        obtain ⟨t_68, ht_68, H⟩ := H
                        replace H := app_hid H
                        replace H := let_hid H
                        obtain ⟨t_72, ht_72, H⟩ := H
                        replace H := app_hid H
                        go_wp2_with fail
                        go_roundg m0
                        case measure => omega
                        case rel => exact ⟨_, _, rfl, rfl, H, HBwr0, kp_0_0, kp_0_1, kp_0_2, kp_0_3, kp_0_4, kp_0_5⟩
                      | true =>
                        replace H := ite_t H
                        replace H := app_hid H
                        replace H := let_hid H
                        obtain ⟨t_72, ht_72, H⟩ := H
                        replace H := app_hid H
                        go_wp2_with fail
                        go_roundg m0
                        case measure => omega
                        case rel => exact ⟨_, _, rfl, rfl, H, HBwr0, kp_0_0, kp_0_1, kp_0_2, kp_0_3, kp_0_4, kp_0_5⟩
                    | true =>
                      replace H := ite_t H
                      replace H := idx_hid H
                      obtain ⟨nt_58, yt_58, et_58, lt_58, gt_58, H⟩ := H
                      obtain rfl : nt_52 = nt_58 := by omega
                      clear et_58
                      obtain rfl := Option.some.inj (gt_52.out.symm.trans gt_58.out)
                      clear gt_58 lt_58
                      replace H := let_hid H
                      obtain ⟨t_58, ht_58, H⟩ := H
                      obtain rfl := ht_52.symm.trans ht_58
                      replace H := let_hid H
                      obtain ⟨t_59, ht_59, H⟩ := H
                      replace H := app_hid H
                      cases t_59 with
                      | false =>
                        replace H := ite_f H
                        replace H := join_hid H
                        cases seen_3l0 with
                        | false =>
                          replace H := ite_f H
                          replace H := idx_hid H
                          obtain ⟨nt_67, yt_67, et_67, lt_67, gt_67, H⟩ := H
                          obtain rfl : nt_52 = nt_67 := by omega
                          clear et_67
                          obtain rfl := Option.some.inj (gt_52.out.symm.trans gt_67.out)
                          clear gt_67 lt_67
                          replace H := let_hid H
                          obtain ⟨t_67, ht_67, H⟩ := H
                          obtain rfl := ht_52.symm.trans ht_67
                          replace H := let_hid H
                          obtain ⟨t_68, ht_68, H⟩ := H
                          replace H := app_hid H
                          replace H := let_hid H
                          obtain ⟨t_72, ht_72, H⟩ := H
                          replace H := app_hid H
                          go_wp2_with fail
                          go_roundg m0
                          case measure => omega
                          case rel => exact ⟨_, _, rfl, rfl, H, HBwr0, kp_0_0, kp_0_1, kp_0_2, kp_0_3, kp_0_4, kp_0_5⟩
                        | true =>
                          replace H := ite_t H
                          replace H := app_hid H
                          replace H := let_hid H
                          obtain ⟨t_72, ht_72, H⟩ := H
                          replace H := app_hid H
                          go_wp2_with fail
                          go_roundg m0
                          case measure => omega
                          case rel => exact ⟨_, _, rfl, rfl, H, HBwr0, kp_0_0, kp_0_1, kp_0_2, kp_0_3, kp_0_4, kp_0_5⟩
                      | true =>
                        replace H := ite_t H
                        obtain rfl := ret_hid H
                        go_wp2_with fail
                        go_ret
                        exact ⟨rfl, HBwr0.out⟩
            | true =>
              have nht_39 : ¬ (p_lost.size = p_town.size) := by have := bne_iff_ne.1 ht_39; omega
              replace H := ite_t H
              obtain rfl := ret_hid H
              go_wp2_with fail
              go_ret
              exact ⟨rfl, HBwt_29.out⟩
end Go.Proofs.YtgimcnpkngpmiaaDoor.GsL11One

/- loop.example/g01062/spec.l11Shown as a plain function, and the contract of the program's: where the plain one has an answer, the program has it. Conditions: slices read as lists. -/
namespace Go.Proofs.YtgimcnpkngpmiaaDoor.GsL11Shown
set_option linter.unusedVariables false
set_option linter.unusedSimpArgs false
open Go.RowKit
open Go.Proofs.YtgimcnpkngpmiaaDoor.Rowed Go.Proofs.YtgimcnpkngpmiaaDoor.Turn Go.Proofs.YtgimcnpkngpmiaaDoor.Aid Go.Proofs.YtgimcnpkngpmiaaDoor.GoP Go.Proofs.YtgimcnpkngpmiaaDoor.GoM

def l0 (p_town : ByteArray) (p_lost : ByteArray) (s : ByteArray × Int) (nx0 bk0 : ByteArray × Int → Option (ByteArray)) : Option (ByteArray) :=
  unp2 s fun s_3l0 i_4l0 =>
  letK (decide (i_4l0 < (p_town.size : Int))) fun (t_8 : Bool) =>
  iteK t_8
  (Option.bind (idx p_lost.toList i_4l0) fun (yt_12 : UInt8) =>
  letK ((yt_12.toNat : Int)) fun (t_12 : Int) =>
  letK (t_12 == 120) fun (t_13 : Bool) =>
  iteK t_13
  (guardK (s_3l0.size + (⟨#[63]⟩ : ByteArray).size ≤ maxLen) <|
  letK (s_3l0 ++ (⟨#[63]⟩ : ByteArray)) fun (t_15 : ByteArray) =>
  letK (IntKind.i64.wrap (i_4l0 + 1)) fun (t_27 : Int) =>
  appK nx0 (t_15, t_27))
  (letK (IntKind.i64.wrap (i_4l0 + 1)) fun (t_22 : Int) =>
  guardK ((0 : Int) ≤ i_4l0 ∧ (i_4l0 : Int) ≤ t_22 ∧ (t_22 : Int) ≤ (p_town.size : Int)) <|
  letK (ByteArray.extract p_town (Int.toNat i_4l0) (Int.toNat t_22)) fun (t_23 : ByteArray) =>
  guardK (s_3l0.size + t_23.size ≤ maxLen) <|
  letK (s_3l0 ++ t_23) fun (t_24 : ByteArray) =>
  letK (IntKind.i64.wrap (i_4l0 + 1)) fun (t_27 : Int) =>
  appK nx0 (t_24, t_27)))
  (appK bk0 (s_3l0, i_4l0))

def e0  (s : ByteArray × Int) : Option (ByteArray) :=
  unp2 s fun s_3l0 i_4l0 =>
  some s_3l0

def P (fuel : Nat) (p : Go.Proofs.YtgimcnpkngpmiaaDoor.PPostmark.Postmark) : Option (ByteArray) :=
  unPostmark p fun (p_id : Int) (p_town : ByteArray) (p_kind_ : Int) (p_first : Int) (p_last : Int) (p_lost : ByteArray) =>
  loopK (l0 p_town p_lost) fuel ((⟨#[]⟩ : ByteArray), 0) (e0 )

set_option maxRecDepth 100000 in
set_option maxHeartbeats 2000000 in
theorem C (fuel : Nat) (p : Go.Proofs.YtgimcnpkngpmiaaDoor.PPostmark.Postmark)   (w : World)   {r : ByteArray} (H : Hid (P fuel p = some r)) :
    Calls Tryd.prog 45 #[p.val] w (Gives (.string r) w) := by
  have HB := Lib.hid (Below.refl w.heap.size w)
  unfold P at H
  obtain ⟨p_id, p_town, p_kind_, p_first, p_last, p_lost⟩ := p
  replace H := unPostmark_hid H
  unfold Go.Proofs.YtgimcnpkngpmiaaDoor.PPostmark.Postmark.val
  go_enter Tryd.func45, Tryd.ntmps45
  obtain ⟨w_p_0, hw_p_0⟩ : ∃ x, w.alloc (.cells #[.int .i64 p_id, .string p_town, .int .i64 p_kind_, .int .i64 p_first, .int .i64 p_last, .string p_lost] 39) = x := ⟨_, rfl⟩
  have bw_p_0 : Below w.heap.size w w_p_0 := by rw [← hw_p_0]; exact (Below.refl _ _).alloc (Nat.le_refl _) _
  have HBw_p_0 := Lib.hid (Below.step HB.out bw_p_0)
  clear bw_p_0
  have kp_0_0 : w_p_0.cell? ⟨w.heap.size, 0, none⟩ = some (.int .i64 p_id) := by rw [← hw_p_0]; exact box_new _ _ _ 0 _ rfl
  have kp_0_1 : w_p_0.cell? ⟨w.heap.size, 1, none⟩ = some (.string p_town) := by rw [← hw_p_0]; exact box_new _ _ _ 1 _ rfl
  have kp_0_2 : w_p_0.cell? ⟨w.heap.size, 2, none⟩ = some (.int .i64 p_kind_) := by rw [← hw_p_0]; exact box_new _ _ _ 2 _ rfl
  have kp_0_3 : w_p_0.cell? ⟨w.heap.size, 3, none⟩ = some (.int .i64 p_first) := by rw [← hw_p_0]; exact box_new _ _ _ 3 _ rfl
  have kp_0_4 : w_p_0.cell? ⟨w.heap.size, 4, none⟩ = some (.int .i64 p_last) := by rw [← hw_p_0]; exact box_new _ _ _ 4 _ rfl
  have kp_0_5 : w_p_0.cell? ⟨w.heap.size, 5, none⟩ = some (.string p_lost) := by rw [← hw_p_0]; exact box_new _ _ _ 5 _ rfl
  go_wp2_with fail
  go_loopg [3, 4] (fuel) (fun m_ v3_ v4_ wr => ∃ (s_3l0 : ByteArray) (i_4l0 : Int), v3_ = .string s_3l0 ∧ v4_ = .int .i64 i_4l0 ∧ Hid (loopK (l0 p_town p_lost) m_ (s_3l0, i_4l0) (e0 ) = some r) ∧ Hid (Below w.heap.size w wr) ∧ wr.cell? ⟨w.heap.size, 0, none⟩ = some (.int .i64 p_id) ∧ wr.cell? ⟨w.heap.size, 1, none⟩ = some (.string p_town) ∧ wr.cell? ⟨w.heap.size, 2, none⟩ = some (.int .i64 p_kind_) ∧ wr.cell? ⟨w.heap.size, 3, none⟩ = some (.int .i64 p_first) ∧ wr.cell? ⟨w.heap.size, 4, none⟩ = some (.int .i64 p_last) ∧ wr.cell? ⟨w.heap.size, 5, none⟩ = some (.string p_lost))
  case atStart => exact ⟨_, _, rfl, rfl, H, HBw_p_0, kp_0_0, kp_0_1, kp_0_2, kp_0_3, kp_0_4, kp_0_5⟩
  case round =>
    obtain ⟨s_3l0, i_4l0, rfl, rfl, H, HBwr0, kp_0_0, kp_0_1, kp_0_2, kp_0_3, kp_0_4, kp_0_5⟩ := hrel
    rename World => wr0
    cases gk with
    | zero => exact (loop_zero H).elim
    | succ m0 =>
      replace H := loop_succ H
      unfold l0 at H
      replace H := unp2_hid H
      replace H := let_hid H
      obtain ⟨t_8, ht_8, H⟩ := H
      cases t_8 with
      | false =>
        replace H := ite_f H
        replace H := app_hid H
        unfold e0 at H
        replace H := unp2_hid H
        obtain rfl := ret_hid H
        go_wp2_with fail
        go_ret
        exact ⟨rfl, HBwr0.out⟩
      | true =>
        replace H := ite_t H
        replace H := idx_hid H
        obtain ⟨nt_12, yt_12, et_12, lt_12, gt_12, H⟩ := H
        subst et_12
        have nc_154 : nt_12 < p_town.size := by have := of_decide_eq_true ht_8; omega
        have rt_12 := byte_rule lt_12 gt_12.out
        have b0t_12 : (0 : Int) ≤ (nt_12 : Int) := by omega
        have b1t_12 : (nt_12 : Int) < (p_lost.size : Int) := by have := size_list p_lost; omega
        have b2t_12 : ((nt_12 : Int)).toNat = nt_12 := by omega
        have b3t_12 : nt_12 < p_lost.size := by have := size_list p_lost; omega
        replace H := let_hid H
        obtain ⟨t_12, ht_12, H⟩ := H
        replace H := let_hid H
        obtain ⟨t_13, ht_13, H⟩ := H
        cases t_13 with
        | false =>
          replace H := ite_f H
          replace H := let_hid H
          obtain ⟨t_22, ht_22, H⟩ := H
          replace H := guard_hid H
          obtain ⟨hl_t_23, H⟩ := H
          replace H := let_hid H
          obtain ⟨t_23, ht_23, H⟩ := H
          have ct_23 := slice_both (P := Tryd.prog) (t := 9) (k := .i64) (k' := .i64) Tryd.underlying9 ht_23 hl_t_23
          clear hl_t_23
          have hht_23 := Lib.hid ht_23
          clear ht_23
          replace H := guard_hid H
          obtain ⟨hl_t_24, H⟩ := H
          replace H := let_hid H
          obtain ⟨t_24, ht_24, H⟩ := H
          have ct_24 := cat_rule (P := Tryd.prog) ht_24 hl_t_24
          clear hl_t_24
          have hht_24 := Lib.hid ht_24
          clear ht_24
          replace H := let_hid H
          obtain ⟨t_27, ht_27, H⟩ := H
          obtain rfl := ht_22.symm.trans ht_27
          replace H := app_hid H
          go_wp2_with fail
          go_roundg m0
          case measure => omega
          case rel => exact ⟨_, _, rfl, rfl, H, HBwr0, kp_0_0, kp_0_1, kp_0_2, kp_0_3, kp_0_4, kp_0_5⟩
        | true =>
          replace H := ite_t H
          replace H := guard_hid H
          obtain ⟨hl_t_15, H⟩ := H
          replace H := let_hid H
          obtain ⟨t_15, ht_15, H⟩ := H
          have ct_15 := cat_rule (P := Tryd.prog) ht_15 hl_t_15
          clear hl_t_15
          have hht_15 := Lib.hid ht_15
          clear ht_15
          replace H := let_hid H
          obtain ⟨t_27, ht_27, H⟩ := H
          replace H := app_hid H
          go_wp2_with fail
          go_roundg m0
          case measure => omega
          case rel => exact ⟨_, _, rfl, rfl, H, HBwr0, kp_0_0, kp_0_1, kp_0_2, kp_0_3, kp_0_4, kp_0_5⟩
end Go.Proofs.YtgimcnpkngpmiaaDoor.GsL11Shown

/- loop.example/g01062/impl.within as a plain function, and the contract of the program's: where the plain one has an answer, the program has it. Conditions: slices read as lists. -/
namespace Go.Proofs.YtgimcnpkngpmiaaDoor.GiWithin
set_option linter.unusedVariables false
set_option linter.unusedSimpArgs false
open Go.RowKit
open Go.Proofs.YtgimcnpkngpmiaaDoor.Rowed Go.Proofs.YtgimcnpkngpmiaaDoor.Turn Go.Proofs.YtgimcnpkngpmiaaDoor.Aid Go.Proofs.YtgimcnpkngpmiaaDoor.GoP Go.Proofs.YtgimcnpkngpmiaaDoor.GoM

def P (n_0 : Int) (low : Int) (high : Int) : Option (Bool) :=
  letK (decide (low ≤ n_0)) fun (t_3 : Bool) =>
  joinK (fun (t_8 : Bool) =>
  some t_8) fun jt_8 => iteK t_3 (letK (decide (n_0 ≤ high)) fun (t_7 : Bool) =>
  appK jt_8 t_7) (appK jt_8 false)

set_option maxRecDepth 100000 in
set_option maxHeartbeats 2000000 in
theorem C (n_0 : Int) (low : Int) (high : Int)   (w : World)   {r : Bool} (H : Hid (P n_0 low high = some r)) :
    Calls Tryd.prog 64 #[.int .i64 n_0, .int .i64 low, .int .i64 high] w (Gives (.bool r) w) := by
  have HB := Lib.hid (Below.refl w.heap.size w)
  unfold P at H
  go_enter Tryd.func64, Tryd.ntmps64
  replace H := let_hid H
  obtain ⟨t_3, ht_3, H⟩ := H
  replace H := join_hid H
  cases t_3 with
  | false =>
    replace H := ite_f H
    replace H := app_hid H
    obtain rfl := ret_hid H
    go_wp2_with fail
    go_ret
    exact ⟨rfl, HB.out⟩
  | true =>
    replace H := ite_t H
    replace H := let_hid H
    obtain ⟨t_7, ht_7, H⟩ := H
    replace H := app_hid H
    obtain rfl := ret_hid H
    go_wp2_with fail
    go_ret
    exact ⟨rfl, HB.out⟩

set_option maxRecDepth 100000 in
set_option maxHeartbeats 2000000 in
theorem C0 (n_0 : Int) (low : Int) (high : Int)   (w : World)   {r : Bool} (H : Hid (P n_0 low high = some r)) :
    Calls Tryd.prog 64 #[.int .i64 n_0, .int .i64 low, .int .i64 high] w (fun e w'' => e = .returned (.bool r) ∧ w'' = w) := by
  have HB := Lib.hid (Below.refl w.heap.size w)
  unfold P at H
  go_enter Tryd.func64, Tryd.ntmps64
  replace H := let_hid H
  obtain ⟨t_3, ht_3, H⟩ := H
  replace H := join_hid H
  cases t_3 with
  | false =>
    replace H := ite_f H
    replace H := app_hid H
    obtain rfl := ret_hid H
    go_wp2_with fail
    go_ret
    exact ⟨rfl, rfl⟩
  | true =>
    replace H := ite_t H
    replace H := let_hid H
    obtain ⟨t_7, ht_7, H⟩ := H
    replace H := app_hid H
    obtain rfl := ret_hid H
    go_wp2_with fail
    go_ret
    exact ⟨rfl, rfl⟩
end Go.Proofs.YtgimcnpkngpmiaaDoor.GiWithin

