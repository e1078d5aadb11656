/- Texts on which the proofs of several laws stand, one behind the other (4 of 18). No condition of their own. -/
import Derived.Test.YtgbcdmlcmnaimaaChecked
import Derived.Test.YtgbcdmlcmnaimaaX10P1
import Derived.Deep.Slices
import Derived.Deep.Fields
import Derived.ChangeSame
import Derived.Lib.LaidU8
import Derived.WalkKit
import Derived.WalkSpells
import Derived.WalkLawsBesides
import Derived.BigQuiet
import Derived.OwnWalk
import Derived.Deep.LoopGhost
import Derived.Deep.QuietTactic
import Derived.IntWalk
import Derived.Lib.QuietBelow
set_option linter.unusedVariables false
set_option linter.unusedSimpArgs false
namespace Go.Proofs.Ytgbcdmlcmnaimaa.OMail
set_option maxRecDepth 100000
open Go.Joins Go.ChangeShapes Go.WideShapes Go.RowKit Go.Deep
open Go.Proofs.Ytgbcdmlcmnaimaa.Rowed Go.Proofs.Ytgbcdmlcmnaimaa.OpenAny Go.Proofs.Ytgbcdmlcmnaimaa.PMail

/-- the slice 'A, n' reads as the records l -/
abbrev Mails (w : World) (A : Option Addr) (n : Nat) (l : List Mail) : Prop := Cells w 4 A n (flat l)
theorem at_ {w : World} {A : Option Addr} {n k : Nat} {l : List Mail} (h : Mails w A n l) (hk : k < n) :
    ∃ (b o : Nat) (s : Mail), A = some ⟨b, o, none⟩ ∧ l[k]? = some s ∧ w.cell? ⟨b, o + k * 4, none⟩ = some (.int .i64 s.leave) ∧ w.cell? ⟨b, o + k * 4 + 1, none⟩ = some (.int .i64 s.from_) ∧ w.cell? ⟨b, o + k * 4 + 2, none⟩ = some (.int .i64 s.to_) ∧ w.cell? ⟨b, o + k * 4 + 3, none⟩ = some (.int .i64 s.arrive) := by
  have hl : k < l.length := by have := h.1; rw [flat_len] at this; omega
  obtain ⟨⟨b, o, sp⟩, e, hc⟩ := h.2 (by rw [flat_len]; omega)
  have h0 := hc 0 _ (flat_at l 0 l[0] (List.getElem?_eq_getElem (by omega)) 0 (by omega))
  obtain rfl : sp = none := cell_spot (b := b) (o := o) h0
  have hs := List.getElem?_eq_getElem hl
  have f := flat_at l k _ hs
  have g := fun j u hu => add_none b o j ▸ hc j u hu
  exact ⟨b, o, l[k], e, hs, g _ _ (f 0 (by omega)), g _ _ (f 1 (by omega)), g _ _ (f 2 (by omega)), g _ _ (f 3 (by omega))⟩
theorem len_of {w : World} {A : Option Addr} {n : Nat} {l : List Mail} (h : Mails w A n l) : l.length = n := by
  have := h.1
  rw [flat_len] at this; omega

/-- a slice of records that came in: the list that it reads as -/
structure Came (w : World) (A : Option Addr) (len cap : Nat) (l : List Mail) : Prop where
  cells : Mails w A len l
  small : len ≤ maxLen
  fits : ∀ s ∈ l, s.fits
theorem Came.len {w : World} {A : Option Addr} {len cap : Nat} {l : List Mail} (h : Came w A len cap l) : l.length = len := len_of h.cells

section
variable {H : Type} {enc : TypeId × Value → H} {w : World} {base : Nat} {spare : Nat → Bool} {held : Bool}
theorem read_one {n : Nat} {cs : List Value} {x : DataW H × List MemPlace} (h : DataW.trod enc Try.prog w base spare held n 77 cs = some x) : ∃ s : Mail, cs = s.cells ∧ s.fits := by
  have hc : Try.prog.cellsOf 77 = 4 := by kernel_rfl
  obtain ⟨hl, hf⟩ := read_fields Try.underlying77 (by kernel_rfl) hc h
  rw [hc] at hl
  match cs, hl with
  | [v0, v1, v2, v3], _ =>
    obtain ⟨u0, n0, y0, eu0, t0⟩ := hf 0 _ rfl
    obtain ⟨x0, e0, _, f0⟩ := DataW.trod_int Try.underlying3 t0
    obtain rfl : v0 = u0 := by simpa using eu0
    obtain rfl : v0 = .int .i64 x0 := by simpa using e0
    obtain ⟨u1, n1, y1, eu1, t1⟩ := hf 1 _ rfl
    obtain ⟨x1, e1, _, f1⟩ := DataW.trod_int Try.underlying3 t1
    obtain rfl : v1 = u1 := by simpa using eu1
    obtain rfl : v1 = .int .i64 x1 := by simpa using e1
    obtain ⟨u2, n2, y2, eu2, t2⟩ := hf 2 _ rfl
    obtain ⟨x2, e2, _, f2⟩ := DataW.trod_int Try.underlying3 t2
    obtain rfl : v2 = u2 := by simpa using eu2
    obtain rfl : v2 = .int .i64 x2 := by simpa using e2
    obtain ⟨u3, n3, y3, eu3, t3⟩ := hf 3 _ rfl
    obtain ⟨x3, e3, _, f3⟩ := DataW.trod_int Try.underlying3 t3
    obtain rfl : v3 = u3 := by simpa using eu3
    obtain rfl : v3 = .int .i64 x3 := by simpa using e3
    exact ⟨⟨x0, x1, x2, x3⟩, rfl, f0, f1, f2, f3⟩
theorem open_one {r : Reach} {b0 : Nat} {v : Value} {d : DataW H} {p : List MemPlace} (hv : Value.okWide Try.prog w r b0 77 v) (h : DataW.Trod enc Try.prog w base spare held 77 v d p) :
    ∃ s : Mail, v = s.val ∧ s.fits := by
  obtain ⟨cs, n, x, rfl, ht⟩ := agg_any Try.underlying77 hv h
  obtain ⟨s, e, hs⟩ := read_one ht
  refine ⟨s, ?_, hs⟩
  obtain ⟨l⟩ := cs
  obtain rfl : l = s.cells := by simpa using e
  rfl
end

/-- a record that was boxed -/
theorem box_ {w : World} {s : Mail} {g : Nat} (h : Cells w 4 (some ⟨g, 0, none⟩) 1 s.cells) : w.cell? ⟨g, 0, none⟩ = some (.int .i64 s.leave) ∧ w.cell? ⟨g, 1, none⟩ = some (.int .i64 s.from_) ∧ w.cell? ⟨g, 2, none⟩ = some (.int .i64 s.to_) ∧ w.cell? ⟨g, 3, none⟩ = some (.int .i64 s.arrive) := by
  obtain ⟨ad, e, hc⟩ := h.2 (by simp [Mail.cells])
  obtain rfl := Option.some.inj e
  have gg := fun j u hu => add_none g 0 j ▸ hc j u hu
  exact ⟨by simpa using gg 0 _ rfl, by simpa using gg 1 _ rfl, by simpa using gg 2 _ rfl, by simpa using gg 3 _ rfl⟩
theorem box_new (w : World) (s : Mail) (T : TypeId) : Cells (w.alloc (.cells #[.int .i64 s.leave, .int .i64 s.from_, .int .i64 s.to_, .int .i64 s.arrive] T)) 4 (some ⟨w.heap.size, 0, none⟩) 1 s.cells :=
  ⟨by simp [Mail.cells], fun _ => ⟨_, rfl, fun j u hu => by
    have hj : j < 4 := by have := (List.getElem?_eq_some_iff.1 hu).1; simpa [Mail.cells] using this
    rw [add_none, World.cell?_alloc_new]
    match j, hj with
    | 0, _ => simpa [Mail.cells] using hu
    | 1, _ => simpa [Mail.cells] using hu
    | 2, _ => simpa [Mail.cells] using hu
    | 3, _ => simpa [Mail.cells] using hu
⟩⟩
end Go.Proofs.Ytgbcdmlcmnaimaa.OMail

namespace Go.Proofs.Ytgbcdmlcmnaimaa.GsL1CurMail
open Go.RowKit
open Go.Proofs.Ytgbcdmlcmnaimaa.Rowed Go.Proofs.Ytgbcdmlcmnaimaa.Turn Go.Proofs.Ytgbcdmlcmnaimaa.Aid Go.Proofs.Ytgbcdmlcmnaimaa.GoP Go.Proofs.Ytgbcdmlcmnaimaa.GoM

def P (c : GoC.Tape) : Option (PMail.Mail × GoC.Tape) :=
 letK ([0, 5, 10, 10, 20, 30, 45, 60]) fun (t_2 : (List Int)) =>
 bind2 (GsL1CurAmong.P c t_2) fun (t_3 : Int) (t_3_tp : GoC.Tape) =>
 bind2 (GsL1CurPick.P t_3_tp 4) fun (t_7 : Int) (t_7_tp : GoC.Tape) =>
 bind2 (GsL1CurPick.P t_7_tp 4) fun (t_9 : Int) (t_9_tp : GoC.Tape) =>
 letK ([1, 5, 10, 10, 25]) fun (t_12 : (List Int)) =>
 bind2 (GsL1CurAmong.P t_9_tp t_12) fun (t_13 : Int) (t_13_tp : GoC.Tape) =>
 letK (IntKind.i64.wrap (t_3 + t_13)) fun (t_14 : Int) =>
 bind2 (GsL1CurPick.P t_13_tp 48) fun (t_19 : Int) (t_19_tp : GoC.Tape) =>
 letK (t_19 == 0) fun (t_20 : Bool) =>
 iteK t_20
 (letK ([(-1), 9, 10]) fun (t_23 : (List Int)) =>
 bind2 (GsL1CurAmong.P t_19_tp t_23) fun (t_24 : Int) (t_24_tp : GoC.Tape) =>
 some ((PMail.Mail.mk t_3 t_7 t_24 t_14), t_24_tp))
 (letK (t_19 == 1) fun (t_27 : Bool) =>
 iteK t_27
 (letK ([t_3, 9999, 10000]) fun (t_32 : (List Int)) =>
 bind2 (GsL1CurAmong.P t_19_tp t_32) fun (t_33 : Int) (t_33_tp : GoC.Tape) =>
 some ((PMail.Mail.mk t_3 t_7 t_9 t_33), t_33_tp))
 (some ((PMail.Mail.mk t_3 t_7 t_9 t_14), t_19_tp)))

set_option maxRecDepth 100000 in
set_option maxHeartbeats 2000000 in
theorem C (c : GoC.Tape)   (g0 : Nat) (Ac0 : Option Addr) (cc0 : Nat) (bc0 : Nat) (w : World)   (K0 : Hid (GoC.CurIs w bc0 g0 Ac0 cc0 c)) {r : PMail.Mail} {t_ : GoC.Tape} (H : Hid (P c = some (r, t_))) :
  Calls Try.prog 77 #[.pointer (some ⟨g0, 0, none⟩)] w (fun e w' => e = .returned ((PMail.Mail.val r)) ∧ GoC.CurIs w' bc0 g0 Ac0 cc0 t_ ∧ w.grownBy w' (Value.slice (some ⟨g0, 0, none⟩) 1 1).ownBlock) := by
 have HB := Lib.hid (Aid.grown_refl w (Value.slice (some ⟨g0, 0, none⟩) 1 1).ownBlock); unfold P at H; have L0 : bc0 ≤ w.heap.size := (by have := GoC.cur_lt K0.out; omega)
 go_enter Try.func77, Try.ntmps77
 obtain ⟨q10, t11⟩ : ∃ x, w.alloc (.cells #[.int .i64 0, .int .i64 0, .int .i64 0, .int .i64 0] 77) = x := ⟨_, rfl⟩; have h13 : Below w.heap.size w q10 := (by rw [← t11]; exact (Below.refl _ _).alloc (Nat.le_refl _) _); have a10 := Lib.hid (GoC.apart_cur K0.out); have l13 := Lib.hid (grown_below HB.out h13); replace K0 := Lib.hid (GoC.cur_below K0.out h13); clear h13; have z12 : q10.cell? ⟨w.heap.size, 0, none⟩ = some (.int .i64 0) := (by rw [← t11]; exact box_new _ _ _ 0 _ rfl); have g14 : q10.cell? ⟨w.heap.size, 1, none⟩ = some (.int .i64 0) := (by rw [← t11]; exact box_new _ _ _ 1 _ rfl); have v14 : q10.cell? ⟨w.heap.size, 2, none⟩ = some (.int .i64 0) := (by rw [← t11]; exact box_new _ _ _ 2 _ rfl); have b14 : q10.cell? ⟨w.heap.size, 3, none⟩ = some (.int .i64 0) := (by rw [← t11]; exact box_new _ _ _ 3 _ rfl); have Ot_0 : Hid (q10.ownsRow w.heap.size 77 4 (.slice (some ⟨w.heap.size, 0, none⟩) 1 1) 1 [.int .i64 0, .int .i64 0, .int .i64 0, .int .i64 0]) := Lib.hid (by rw [← t11]; exact own_laid (n := 1) HB.out.size rfl rfl (by unfold maxLen; omega)); replace H := let_hid H; obtain ⟨t_2, ht_2, H⟩ := H; obtain ⟨f13, w14⟩ : ∃ x, q10.alloc (.cells #[.int .i64 0, .int .i64 5, .int .i64 10, .int .i64 10, .int .i64 20, .int .i64 30, .int .i64 45, .int .i64 60] 3) = x := ⟨_, rfl⟩; have h11 : Below q10.heap.size q10 f13 := (by rw [← w14]; exact (Below.refl _ _).alloc (Nat.le_refl _) _); have n13 := l13.out.size; have nt_2 : t_2.length = 8 := (by rw [← ht_2]; rfl)
 have Ot_2 : Hid (f13.ownsRow w.heap.size 3 1 (.slice (some ⟨q10.heap.size, 0, none⟩) 8 8) 8 (HelpInt.iv t_2)) := by
  rw [← w14, ← ht_2]; have e_ : ([.int .i64 0, .int .i64 5, .int .i64 10, .int .i64 10, .int .i64 20, .int .i64 30, .int .i64 45, .int .i64 60] : List Value) = (HelpInt.iv ([0, 5, 10, 10, 20, 30, 45, 60] : List Int)) := rfl; exact Lib.hid (own_laid (n := 8) n13 e_ rfl (by unfold maxLen; omega))
 clear n13; have s16 := Lib.hid ht_2; clear ht_2; replace nt_2 := Lib.hid nt_2; have e11 := Lib.hid (GoC.apart_cur K0.out); have g13 := Lib.hid (apart_box z12); have m16 := Lib.hid (grown_below l13.out h11); have z10 := cell_below h11 z12; have k11 := cell_below h11 g14; have f11 := cell_below h11 v14; have d11 := cell_below h11 b14; replace K0 := Lib.hid (GoC.cur_below K0.out h11); replace Ot_0 := Lib.hid (own_below Ot_0.out h11); clear h11; replace H := bind2_hid H; obtain ⟨t_3, f15, qt_3, H⟩ := H; go_wp2_with fail; clear z12 g14 v14 b14; have hc_ := nt_2.out; have hv_ : (Value.slice (some ⟨q10.heap.size, 0, none⟩) 8 8 : Value) = Value.slice (some ⟨q10.heap.size, 0, none⟩) t_2.length 8 := (by rw [hc_])
 try rw [hv_]
 replace Ot_2 := Lib.hid (own_len hc_ Ot_2.out); clear hc_ hv_; go_wp2_with fail; go_at_call 56; refine (GsL1CurAmong.C (c) (t_2) (some ⟨q10.heap.size, 0, none⟩) 8 (g0) (Ac0) (cc0) (bc0) _   (Lib.hid (own_cells Ot_2.out)) (Lib.hid (own_max Ot_2.out)) K0 (Lib.hid (fun _ => e11.out)) qt_3).mono ?_; rintro y16 wt_3 ⟨rfl, kt_3, gt_3⟩; have Kt_3 := Lib.hid kt_3; have Gt_3 : Hid (f13.grownBy wt_3 (Value.slice (some ⟨g0, 0, none⟩) 1 1).ownBlock) := Lib.hid gt_3; clear kt_3 gt_3; have q15 := Lib.hid (Aid.grown_tr m16.out Gt_3.out); replace z10 := cell_other z10 Gt_3.out (Apart.symm a10.out); replace k11 := cell_other k11 Gt_3.out (Apart.symm a10.out); replace f11 := cell_other f11 Gt_3.out (Apart.symm a10.out); replace d11 := cell_other d11 Gt_3.out (Apart.symm a10.out); replace Ot_0 := Lib.hid (own_other Ot_0.out Gt_3.out (Apart.symm a10.out)); replace Ot_2 := Lib.hid (own_other Ot_2.out Gt_3.out (Apart.symm e11.out)); clear K0 Gt_3; replace H := bind2_hid H; obtain ⟨t_7, e16, qt_7, H⟩ := H; go_wp2_with fail; go_at_call 63; refine (GsL1CurPick.C (f15) (4) (g0) (Ac0) (cc0) (bc0) _   Kt_3 qt_7).mono ?_; rintro z16 wt_7 ⟨rfl, kt_7, gt_7⟩; have Kt_7 := Lib.hid kt_7; have Gt_7 : Hid (wt_3.grownBy wt_7 (Value.slice (some ⟨g0, 0, none⟩) 1 1).ownBlock) := Lib.hid gt_7; clear kt_7 gt_7; have p16 := Lib.hid (Aid.grown_tr q15.out Gt_7.out); replace z10 := cell_other z10 Gt_7.out (Apart.symm a10.out); replace k11 := cell_other k11 Gt_7.out (Apart.symm a10.out); replace f11 := cell_other f11 Gt_7.out (Apart.symm a10.out); replace d11 := cell_other d11 Gt_7.out (Apart.symm a10.out); replace Ot_0 := Lib.hid (own_other Ot_0.out Gt_7.out (Apart.symm a10.out)); replace Ot_2 := Lib.hid (own_other Ot_2.out Gt_7.out (Apart.symm e11.out)); clear Kt_3 Gt_7; replace H := bind2_hid H; obtain ⟨t_9, w15, qt_9, H⟩ := H; go_wp2_with fail; go_at_call 63; refine (GsL1CurPick.C (e16) (4) (g0) (Ac0) (cc0) (bc0) _   Kt_7 qt_9).mono ?_; rintro o17 wt_9 ⟨rfl, kt_9, gt_9⟩; have Kt_9 := Lib.hid kt_9; have Gt_9 : Hid (wt_7.grownBy wt_9 (Value.slice (some ⟨g0, 0, none⟩) 1 1).ownBlock) := Lib.hid gt_9; clear kt_9 gt_9; have j13 := Lib.hid (Aid.grown_tr p16.out Gt_9.out); replace z10 := cell_other z10 Gt_9.out (Apart.symm a10.out); replace k11 := cell_other k11 Gt_9.out (Apart.symm a10.out); replace f11 := cell_other f11 Gt_9.out (Apart.symm a10.out); replace d11 := cell_other d11 Gt_9.out (Apart.symm a10.out); replace Ot_0 := Lib.hid (own_other Ot_0.out Gt_9.out (Apart.symm a10.out)); replace Ot_2 := Lib.hid (own_other Ot_2.out Gt_9.out (Apart.symm e11.out)); clear Kt_7 Gt_9; replace H := let_hid H; obtain ⟨t_12, f12, H⟩ := H; obtain ⟨x12, t13⟩ : ∃ x, wt_9.alloc (.cells #[.int .i64 1, .int .i64 5, .int .i64 10, .int .i64 10, .int .i64 25] 3) = x := ⟨_, rfl⟩; have b11 : Below wt_9.heap.size wt_9 x12 := (by rw [← t13]; exact (Below.refl _ _).alloc (Nat.le_refl _) _); have z13 := j13.out.size; have y12 : t_12.length = 5 := (by rw [← f12]; rfl)
 have c10 : Hid (x12.ownsRow w.heap.size 3 1 (.slice (some ⟨wt_9.heap.size, 0, none⟩) 5 5) 5 (HelpInt.iv t_12)) := by
  rw [← t13, ← f12]; have e_ : ([.int .i64 1, .int .i64 5, .int .i64 10, .int .i64 10, .int .i64 25] : List Value) = (HelpInt.iv ([1, 5, 10, 10, 25] : List Int)) := rfl; exact Lib.hid (own_laid (n := 5) z13 e_ rfl (by unfold maxLen; omega))
 clear z13; have y17 := Lib.hid f12; clear f12; replace y12 := Lib.hid y12; have b18 := Lib.hid (apart_fresh Ot_2.out); have d12 := Lib.hid (GoC.apart_cur Kt_9.out); have m12 := Lib.hid (apart_box z10); have f16 := Lib.hid (grown_below j13.out b11); have x11 := cell_below b11 z10; have g12 := cell_below b11 k11; have e12 := cell_below b11 f11; have j12 := cell_below b11 d11; replace Ot_2 := Lib.hid (own_below Ot_2.out b11); replace Kt_9 := Lib.hid (GoC.cur_below Kt_9.out b11); replace Ot_0 := Lib.hid (own_below Ot_0.out b11); clear b11; replace H := bind2_hid H; obtain ⟨t_13, a16, o15, H⟩ := H; go_wp2_with fail; clear z10 k11 f11 d11; have hc_ := y12.out; have hv_ : (Value.slice (some ⟨wt_9.heap.size, 0, none⟩) 5 5 : Value) = Value.slice (some ⟨wt_9.heap.size, 0, none⟩) t_12.length 5 := (by rw [hc_])
 try rw [hv_]
 replace c10 := Lib.hid (own_len hc_ c10.out); clear hc_ hv_; go_wp2_with fail; go_at_call 56; refine (GsL1CurAmong.C (w15) (t_12) (some ⟨wt_9.heap.size, 0, none⟩) 5 (g0) (Ac0) (cc0) (bc0) _   (Lib.hid (own_cells c10.out)) (Lib.hid (own_max c10.out)) Kt_9 (Lib.hid (fun _ => d12.out)) o15).mono ?_; rintro z17 e10 ⟨rfl, t14, p13⟩; have z11 := Lib.hid t14; have a11 : Hid (x12.grownBy e10 (Value.slice (some ⟨g0, 0, none⟩) 1 1).ownBlock) := Lib.hid p13; clear t14 p13; have o13 := Lib.hid (Aid.grown_tr f16.out a11.out); replace x11 := cell_other x11 a11.out (Apart.symm a10.out); replace g12 := cell_other g12 a11.out (Apart.symm a10.out); replace e12 := cell_other e12 a11.out (Apart.symm a10.out); replace j12 := cell_other j12 a11.out (Apart.symm a10.out); replace Ot_0 := Lib.hid (own_other Ot_0.out a11.out (Apart.symm a10.out)); replace Ot_2 := Lib.hid (own_other Ot_2.out a11.out (Apart.symm e11.out)); replace c10 := Lib.hid (own_other c10.out a11.out (Apart.symm d12.out)); clear Kt_9 a11; replace H := let_hid H; obtain ⟨t_14, d18, H⟩ := H; obtain ⟨n11, v11⟩ : ∃ x, e10.alloc (.cells #[.int .i64 t_3, .int .i64 t_7, .int .i64 t_9, .int .i64 t_14] 77) = x := ⟨_, rfl⟩; have x10 : Below e10.heap.size e10 n11 := (by rw [← v11]; exact (Below.refl _ _).alloc (Nat.le_refl _) _); have i13 := Lib.hid (apart_fresh Ot_2.out); have k14 := Lib.hid (apart_fresh c10.out); have h10 := Lib.hid (GoC.apart_cur z11.out); have d10 := Lib.hid (apart_box x11); have g16 := Lib.hid (grown_below o13.out x10); have i11 := cell_below x10 x11; have r11 := cell_below x10 g12; have s11 := cell_below x10 e12; have q11 := cell_below x10 j12; replace Ot_2 := Lib.hid (own_below Ot_2.out x10); replace c10 := Lib.hid (own_below c10.out x10); replace z11 := Lib.hid (GoC.cur_below z11.out x10); replace Ot_0 := Lib.hid (own_below Ot_0.out x10); clear x10; have y10 : n11.cell? ⟨e10.heap.size, 0, none⟩ = some (.int .i64 t_3) := (by rw [← v11]; exact box_new _ _ _ 0 _ rfl); have m11 : n11.cell? ⟨e10.heap.size, 1, none⟩ = some (.int .i64 t_7) := (by rw [← v11]; exact box_new _ _ _ 1 _ rfl); have l11 : n11.cell? ⟨e10.heap.size, 2, none⟩ = some (.int .i64 t_9) := (by rw [← v11]; exact box_new _ _ _ 2 _ rfl); have o11 : n11.cell? ⟨e10.heap.size, 3, none⟩ = some (.int .i64 t_14) := (by rw [← v11]; exact box_new _ _ _ 3 _ rfl); have f10 : Hid (n11.ownsRow w.heap.size 77 4 (.slice (some ⟨e10.heap.size, 0, none⟩) 1 1) 1 [.int .i64 t_3, .int .i64 t_7, .int .i64 t_9, .int .i64 t_14]) := Lib.hid (by rw [← v11]; exact own_laid (n := 1) o13.out.size rfl rfl (by unfold maxLen; omega)); replace H := bind2_hid H; obtain ⟨t_19, q14, l15, H⟩ := H; go_wp2_with fail; clear x11 g12 e12 j12; go_at_call 63; refine (GsL1CurPick.C (a16) (48) (g0) (Ac0) (cc0) (bc0) _   z11 l15).mono ?_; rintro d17 i10 ⟨rfl, s14, d14⟩; have p10 := Lib.hid s14; have n10 : Hid (n11.grownBy i10 (Value.slice (some ⟨g0, 0, none⟩) 1 1).ownBlock) := Lib.hid d14; clear s14 d14; have b12 := Lib.hid (Aid.grown_tr g16.out n10.out); replace i11 := cell_other i11 n10.out (Apart.symm a10.out); replace r11 := cell_other r11 n10.out (Apart.symm a10.out); replace s11 := cell_other s11 n10.out (Apart.symm a10.out); replace q11 := cell_other q11 n10.out (Apart.symm a10.out); replace y10 := cell_other y10 n10.out (Apart.symm h10.out); replace m11 := cell_other m11 n10.out (Apart.symm h10.out); replace l11 := cell_other l11 n10.out (Apart.symm h10.out); replace o11 := cell_other o11 n10.out (Apart.symm h10.out); replace Ot_0 := Lib.hid (own_other Ot_0.out n10.out (Apart.symm a10.out)); replace f10 := Lib.hid (own_other f10.out n10.out (Apart.symm h10.out)); replace Ot_2 := Lib.hid (own_other Ot_2.out n10.out (Apart.symm e11.out)); replace c10 := Lib.hid (own_other c10.out n10.out (Apart.symm d12.out)); clear z11 n10; replace H := let_hid H; obtain ⟨t_20, w17, H⟩ := H
 cases t_20 with
 | false =>
  replace H := ite_f H; replace H := let_hid H; obtain ⟨t_27, g17, H⟩ := H
  cases t_27 with
  | false =>
   replace H := ite_f H; obtain ⟨g10, c11⟩ : ∃ x, ((((i10).setCell ⟨w.heap.size, 0, none⟩ (.int .i64 t_3)).setCell ⟨w.heap.size, 1, none⟩ (.int .i64 t_7)).setCell ⟨w.heap.size, 2, none⟩ (.int .i64 t_9)).setCell ⟨w.heap.size, 3, none⟩ (.int .i64 t_14) = x := ⟨_, rfl⟩; have q13 := Ot_0.out.frozenAt 0; have v13 := Ot_0.out.frozenAt 1; have x13 := Ot_0.out.frozenAt 2; have k13 := Ot_0.out.frozenAt 3; have t10 := Lib.hid (own_stores [(0, .int .i64 t_3), (1, .int .i64 t_7), (2, .int .i64 t_9), (3, .int .i64 t_14)] Ot_0.out); have o10 : Hid (g10.ownsRow w.heap.size 77 4 (.slice (some ⟨w.heap.size, 0, none⟩) 1 1) 1 [.int .i64 t_3, .int .i64 t_7, .int .i64 t_9, .int .i64 t_14]) := Lib.hid (by rw [← c11]; exact t10.out.1); have b10 : Hid (i10.grownBy g10 (Value.slice (some ⟨w.heap.size, 0, none⟩) 1 1).ownBlock) := Lib.hid (by rw [← c11]; exact t10.out.2); have c12 := Lib.hid (GoC.grown_new b12.out b10.out (GoC.own_ge Ot_0.out)); clear t10; have f18 := cell_other y10 b10.out (Apart.symm d10.out); have q17 := cell_other m11 b10.out (Apart.symm d10.out); have c18 := cell_other l11 b10.out (Apart.symm d10.out); have a18 := cell_other o11 b10.out (Apart.symm d10.out); replace f10 := Lib.hid (own_other f10.out b10.out (Apart.symm d10.out)); replace Ot_2 := Lib.hid (own_other Ot_2.out b10.out (Apart.symm g13.out)); replace c10 := Lib.hid (own_other c10.out b10.out (Apart.symm m12.out)); replace p10 := Lib.hid (GoC.cur_otherO p10.out b10.out a10.out L0 Ot_0.out); clear Ot_0 b10; have j16 : g10.cell? ⟨w.heap.size, 0, none⟩ = some (.int .i64 t_3) := o10.out.cells rfl 0 _ rfl; have i15 : g10.cell? ⟨w.heap.size, 1, none⟩ = some (.int .i64 t_7) := o10.out.cells rfl 1 _ rfl; have g15 : g10.cell? ⟨w.heap.size, 2, none⟩ = some (.int .i64 t_9) := o10.out.cells rfl 2 _ rfl; have b15 : g10.cell? ⟨w.heap.size, 3, none⟩ = some (.int .i64 t_14) := o10.out.cells rfl 3 _ rfl; cases ret_hid H; go_wp2_with fail
   (try simp only [Exit.inBlock, Exit.then])
   refine bodyPost_ret (v := .agg #[.int .i64 t_3, .int .i64 t_7, .int .i64 t_9, .int .i64 t_14]) ?hr_ ?hd_ ?_
   case hd_ => rfl
   case hr_ => simp [results, Try.results77, j16, i15, g15, b15, go_sem]
   exact ⟨rfl, p10.out, c12.out⟩
  | true =>
   replace H := ite_t H; replace H := let_hid H; obtain ⟨t_32, i12, H⟩ := H; obtain ⟨s12, s13⟩ : ∃ x, i10.alloc (.cells #[.int .i64 t_3, .int .i64 9999, .int .i64 10000] 3) = x := ⟨_, rfl⟩; have j10 : Below i10.heap.size i10 s12 := (by rw [← s13]; exact (Below.refl _ _).alloc (Nat.le_refl _) _); have j14 := b12.out.size; have l12 : t_32.length = 3 := (by rw [← i12]; rfl)
   have v10 : Hid (s12.ownsRow w.heap.size 3 1 (.slice (some ⟨i10.heap.size, 0, none⟩) 3 3) 3 (HelpInt.iv t_32)) := by
    rw [← s13, ← i12]; have e_ : ([.int .i64 t_3, .int .i64 9999, .int .i64 10000] : List Value) = (HelpInt.iv ([t_3, 9999, 10000] : List Int)) := rfl; exact Lib.hid (own_laid (n := 3) j14 e_ rfl (by unfold maxLen; omega))
   clear j14; have k17 := Lib.hid i12; clear i12; replace l12 := Lib.hid l12; have j18 := Lib.hid (apart_fresh Ot_2.out); have m17 := Lib.hid (apart_fresh c10.out); have y13 := Lib.hid (GoC.apart_cur p10.out); have k15 := Lib.hid (apart_box i11); have d15 := Lib.hid (apart_box y10); have y15 := Lib.hid (grown_below b12.out j10); have t12 := cell_below j10 i11; have b13 := cell_below j10 r11; have n12 := cell_below j10 s11; have r12 := cell_below j10 q11; have o14 := cell_below j10 y10; have x14 := cell_below j10 m11; have m13 := cell_below j10 l11; have c14 := cell_below j10 o11; replace Ot_2 := Lib.hid (own_below Ot_2.out j10); replace c10 := Lib.hid (own_below c10.out j10); replace p10 := Lib.hid (GoC.cur_below p10.out j10); replace Ot_0 := Lib.hid (own_below Ot_0.out j10); replace f10 := Lib.hid (own_below f10.out j10); clear j10; replace H := bind2_hid H; obtain ⟨t_33, r17, h16, H⟩ := H; go_wp2_with fail; clear i11 r11 s11 q11 y10 m11 l11 o11; have hc_ := l12.out; have hv_ : (Value.slice (some ⟨i10.heap.size, 0, none⟩) 3 3 : Value) = Value.slice (some ⟨i10.heap.size, 0, none⟩) t_32.length 3 := (by rw [hc_])
   try rw [hv_]
   replace v10 := Lib.hid (own_len hc_ v10.out); clear hc_ hv_; go_wp2_with fail; go_at_call 56; refine (GsL1CurAmong.C (q14) (t_32) (some ⟨i10.heap.size, 0, none⟩) 3 (g0) (Ac0) (cc0) (bc0) _   (Lib.hid (own_cells v10.out)) (Lib.hid (own_max v10.out)) p10 (Lib.hid (fun _ => y13.out)) h16).mono ?_; rintro a17 q12 ⟨rfl, y14, f14⟩; have y11 := Lib.hid y14; have k10 : Hid (s12.grownBy q12 (Value.slice (some ⟨g0, 0, none⟩) 1 1).ownBlock) := Lib.hid f14; clear y14 f14; have h15 := Lib.hid (Aid.grown_tr y15.out k10.out); replace t12 := cell_other t12 k10.out (Apart.symm a10.out); replace b13 := cell_other b13 k10.out (Apart.symm a10.out); replace n12 := cell_other n12 k10.out (Apart.symm a10.out); replace r12 := cell_other r12 k10.out (Apart.symm a10.out); replace o14 := cell_other o14 k10.out (Apart.symm h10.out); replace x14 := cell_other x14 k10.out (Apart.symm h10.out); replace m13 := cell_other m13 k10.out (Apart.symm h10.out); replace c14 := cell_other c14 k10.out (Apart.symm h10.out); replace Ot_0 := Lib.hid (own_other Ot_0.out k10.out (Apart.symm a10.out)); replace f10 := Lib.hid (own_other f10.out k10.out (Apart.symm h10.out)); replace Ot_2 := Lib.hid (own_other Ot_2.out k10.out (Apart.symm e11.out)); replace c10 := Lib.hid (own_other c10.out k10.out (Apart.symm d12.out)); replace v10 := Lib.hid (own_other v10.out k10.out (Apart.symm y13.out)); clear p10 k10; obtain ⟨j11, a14⟩ : ∃ x, (q12).setCell ⟨e10.heap.size, 3, none⟩ (.int .i64 t_33) = x := ⟨_, rfl⟩; have g18 := f10.out.frozenAt 3; have d13 := Lib.hid (own_stores [(3, .int .i64 t_33)] f10.out); have w11 : Hid (j11.ownsRow w.heap.size 77 4 (.slice (some ⟨e10.heap.size, 0, none⟩) 1 1) 1 [.int .i64 t_3, .int .i64 t_7, .int .i64 t_9, .int .i64 t_33]) := Lib.hid (by rw [← a14]; exact d13.out.1); have s10 : Hid (q12.grownBy j11 (Value.slice (some ⟨e10.heap.size, 0, none⟩) 1 1).ownBlock) := Lib.hid (by rw [← a14]; exact d13.out.2); have l16 := Lib.hid (GoC.grown_new h15.out s10.out (GoC.own_ge f10.out)); clear d13; have e17 := cell_other t12 s10.out d10.out; have e18 := cell_other b13 s10.out d10.out; have j17 := cell_other n12 s10.out d10.out; have f17 := cell_other r12 s10.out d10.out; replace Ot_0 := Lib.hid (own_other Ot_0.out s10.out d10.out); replace Ot_2 := Lib.hid (own_other Ot_2.out s10.out i13.out); replace c10 := Lib.hid (own_other c10.out s10.out k14.out); replace v10 := Lib.hid (own_other v10.out s10.out (Apart.symm d15.out)); replace y11 := Lib.hid (GoC.cur_otherO y11.out s10.out h10.out L0 f10.out); clear f10 s10; have m15 : j11.cell? ⟨e10.heap.size, 0, none⟩ = some (.int .i64 t_3) := w11.out.cells rfl 0 _ rfl; have c16 : j11.cell? ⟨e10.heap.size, 1, none⟩ = some (.int .i64 t_7) := w11.out.cells rfl 1 _ rfl; have z14 : j11.cell? ⟨e10.heap.size, 2, none⟩ = some (.int .i64 t_9) := w11.out.cells rfl 2 _ rfl; have j15 : j11.cell? ⟨e10.heap.size, 3, none⟩ = some (.int .i64 t_33) := w11.out.cells rfl 3 _ rfl; obtain ⟨g10, c11⟩ : ∃ x, ((((j11).setCell ⟨w.heap.size, 0, none⟩ (.int .i64 t_3)).setCell ⟨w.heap.size, 1, none⟩ (.int .i64 t_7)).setCell ⟨w.heap.size, 2, none⟩ (.int .i64 t_9)).setCell ⟨w.heap.size, 3, none⟩ (.int .i64 t_33) = x := ⟨_, rfl⟩; have q13 := Ot_0.out.frozenAt 0; have v13 := Ot_0.out.frozenAt 1; have x13 := Ot_0.out.frozenAt 2; have k13 := Ot_0.out.frozenAt 3; have t10 := Lib.hid (own_stores [(0, .int .i64 t_3), (1, .int .i64 t_7), (2, .int .i64 t_9), (3, .int .i64 t_33)] Ot_0.out); have o10 : Hid (g10.ownsRow w.heap.size 77 4 (.slice (some ⟨w.heap.size, 0, none⟩) 1 1) 1 [.int .i64 t_3, .int .i64 t_7, .int .i64 t_9, .int .i64 t_33]) := Lib.hid (by rw [← c11]; exact t10.out.1); have b10 : Hid (j11.grownBy g10 (Value.slice (some ⟨w.heap.size, 0, none⟩) 1 1).ownBlock) := Lib.hid (by rw [← c11]; exact t10.out.2); have c12 := Lib.hid (GoC.grown_new l16.out b10.out (GoC.own_ge Ot_0.out)); clear t10; have t17 := cell_other m15 b10.out (Apart.symm d10.out); have x17 := cell_other c16 b10.out (Apart.symm d10.out)
   have i17 := cell_other z14 b10.out (Apart.symm d10.out); have n17 := cell_other j15 b10.out (Apart.symm d10.out); replace w11 := Lib.hid (own_other w11.out b10.out (Apart.symm d10.out)); replace Ot_2 := Lib.hid (own_other Ot_2.out b10.out (Apart.symm g13.out)); replace c10 := Lib.hid (own_other c10.out b10.out (Apart.symm m12.out)); replace v10 := Lib.hid (own_other v10.out b10.out (Apart.symm k15.out)); replace y11 := Lib.hid (GoC.cur_otherO y11.out b10.out a10.out L0 Ot_0.out); clear Ot_0 b10; have q16 : g10.cell? ⟨w.heap.size, 0, none⟩ = some (.int .i64 t_3) := o10.out.cells rfl 0 _ rfl; have o16 : g10.cell? ⟨w.heap.size, 1, none⟩ = some (.int .i64 t_7) := o10.out.cells rfl 1 _ rfl; have s15 : g10.cell? ⟨w.heap.size, 2, none⟩ = some (.int .i64 t_9) := o10.out.cells rfl 2 _ rfl; have c15 : g10.cell? ⟨w.heap.size, 3, none⟩ = some (.int .i64 t_33) := o10.out.cells rfl 3 _ rfl; cases ret_hid H; go_wp2_with fail
   (try simp only [Exit.inBlock, Exit.then])
   refine bodyPost_ret (v := .agg #[.int .i64 t_3, .int .i64 t_7, .int .i64 t_9, .int .i64 t_33]) ?hr_ ?hd_ ?_
   case hd_ => rfl
   case hr_ => simp [results, Try.results77, q16, o16, s15, c15, go_sem]
   exact ⟨rfl, y11.out, c12.out⟩
 | true =>
  replace H := ite_t H; replace H := let_hid H; obtain ⟨t_23, h12, H⟩ := H; obtain ⟨c13, e14⟩ : ∃ x, i10.alloc (.cells #[.int .i64 (-1), .int .i64 9, .int .i64 10] 3) = x := ⟨_, rfl⟩; have l10 : Below i10.heap.size i10 c13 := (by rw [← e14]; exact (Below.refl _ _).alloc (Nat.le_refl _) _); have m14 := b12.out.size; have o12 : t_23.length = 3 := (by rw [← h12]; rfl)
  have w10 : Hid (c13.ownsRow w.heap.size 3 1 (.slice (some ⟨i10.heap.size, 0, none⟩) 3 3) 3 (HelpInt.iv t_23)) := by
   rw [← e14, ← h12]; have e_ : ([.int .i64 (-1), .int .i64 9, .int .i64 10] : List Value) = (HelpInt.iv ([(-1), 9, 10] : List Int)) := rfl; exact Lib.hid (own_laid (n := 3) m14 e_ rfl (by unfold maxLen; omega))
  clear m14; have t16 := Lib.hid h12; clear h12; replace o12 := Lib.hid o12; have b17 := Lib.hid (apart_fresh Ot_2.out); have v17 := Lib.hid (apart_fresh c10.out); have i14 := Lib.hid (GoC.apart_cur p10.out); have t15 := Lib.hid (apart_box i11); have z15 := Lib.hid (apart_box y10); have e15 := Lib.hid (grown_below b12.out l10); have a13 := cell_below l10 i11; have k12 := cell_below l10 r11; have e13 := cell_below l10 s11; have v12 := cell_below l10 q11; have p14 := cell_below l10 y10; have r14 := cell_below l10 m11; have w13 := cell_below l10 l11; have n14 := cell_below l10 o11; replace Ot_2 := Lib.hid (own_below Ot_2.out l10); replace c10 := Lib.hid (own_below c10.out l10); replace p10 := Lib.hid (GoC.cur_below p10.out l10); replace Ot_0 := Lib.hid (own_below Ot_0.out l10); replace f10 := Lib.hid (own_below f10.out l10); clear l10; replace H := bind2_hid H; obtain ⟨t_24, w16, k16, H⟩ := H; go_wp2_with fail; clear i11 r11 s11 q11 y10 m11 l11 o11; have hc_ := o12.out; have hv_ : (Value.slice (some ⟨i10.heap.size, 0, none⟩) 3 3 : Value) = Value.slice (some ⟨i10.heap.size, 0, none⟩) t_23.length 3 := (by rw [hc_])
  try rw [hv_]
  replace w10 := Lib.hid (own_len hc_ w10.out); clear hc_ hv_; go_wp2_with fail; go_at_call 56; refine (GsL1CurAmong.C (q14) (t_23) (some ⟨i10.heap.size, 0, none⟩) 3 (g0) (Ac0) (cc0) (bc0) _   (Lib.hid (own_cells w10.out)) (Lib.hid (own_max w10.out)) p10 (Lib.hid (fun _ => i14.out)) k16).mono ?_; rintro x16 p12 ⟨rfl, h14, l14⟩; have a12 := Lib.hid h14; have m10 : Hid (c13.grownBy p12 (Value.slice (some ⟨g0, 0, none⟩) 1 1).ownBlock) := Lib.hid l14; clear h14 l14; have d16 := Lib.hid (Aid.grown_tr e15.out m10.out); replace a13 := cell_other a13 m10.out (Apart.symm a10.out); replace k12 := cell_other k12 m10.out (Apart.symm a10.out); replace e13 := cell_other e13 m10.out (Apart.symm a10.out); replace v12 := cell_other v12 m10.out (Apart.symm a10.out); replace p14 := cell_other p14 m10.out (Apart.symm h10.out); replace r14 := cell_other r14 m10.out (Apart.symm h10.out); replace w13 := cell_other w13 m10.out (Apart.symm h10.out); replace n14 := cell_other n14 m10.out (Apart.symm h10.out); replace Ot_0 := Lib.hid (own_other Ot_0.out m10.out (Apart.symm a10.out)); replace f10 := Lib.hid (own_other f10.out m10.out (Apart.symm h10.out)); replace Ot_2 := Lib.hid (own_other Ot_2.out m10.out (Apart.symm e11.out)); replace c10 := Lib.hid (own_other c10.out m10.out (Apart.symm d12.out)); replace w10 := Lib.hid (own_other w10.out m10.out (Apart.symm i14.out)); clear p10 m10; obtain ⟨g11, r13⟩ : ∃ x, (p12).setCell ⟨e10.heap.size, 2, none⟩ (.int .i64 t_24) = x := ⟨_, rfl⟩; have h18 := f10.out.frozenAt 2; have w12 := Lib.hid (own_stores [(2, .int .i64 t_24)] f10.out); have p11 : Hid (g11.ownsRow w.heap.size 77 4 (.slice (some ⟨e10.heap.size, 0, none⟩) 1 1) 1 [.int .i64 t_3, .int .i64 t_7, .int .i64 t_24, .int .i64 t_14]) := Lib.hid (by rw [← r13]; exact w12.out.1); have r10 : Hid (p12.grownBy g11 (Value.slice (some ⟨e10.heap.size, 0, none⟩) 1 1).ownBlock) := Lib.hid (by rw [← r13]; exact w12.out.2); have n16 := Lib.hid (GoC.grown_new d16.out r10.out (GoC.own_ge f10.out)); clear w12; have p17 := cell_other a13 r10.out d10.out; have r16 := cell_other k12 r10.out d10.out; have i18 := cell_other e13 r10.out d10.out; have c17 := cell_other v12 r10.out d10.out; replace Ot_0 := Lib.hid (own_other Ot_0.out r10.out d10.out); replace Ot_2 := Lib.hid (own_other Ot_2.out r10.out i13.out); replace c10 := Lib.hid (own_other c10.out r10.out k14.out); replace w10 := Lib.hid (own_other w10.out r10.out (Apart.symm z15.out)); replace a12 := Lib.hid (GoC.cur_otherO a12.out r10.out h10.out L0 f10.out); clear f10 r10; have r15 : g11.cell? ⟨e10.heap.size, 0, none⟩ = some (.int .i64 t_3) := p11.out.cells rfl 0 _ rfl; have a15 : g11.cell? ⟨e10.heap.size, 1, none⟩ = some (.int .i64 t_7) := p11.out.cells rfl 1 _ rfl; have p15 : g11.cell? ⟨e10.heap.size, 2, none⟩ = some (.int .i64 t_24) := p11.out.cells rfl 2 _ rfl; have x15 : g11.cell? ⟨e10.heap.size, 3, none⟩ = some (.int .i64 t_14) := p11.out.cells rfl 3 _ rfl; obtain ⟨g10, c11⟩ : ∃ x, ((((g11).setCell ⟨w.heap.size, 0, none⟩ (.int .i64 t_3)).setCell ⟨w.heap.size, 1, none⟩ (.int .i64 t_7)).setCell ⟨w.heap.size, 2, none⟩ (.int .i64 t_24)).setCell ⟨w.heap.size, 3, none⟩ (.int .i64 t_14) = x := ⟨_, rfl⟩; have q13 := Ot_0.out.frozenAt 0; have v13 := Ot_0.out.frozenAt 1; have x13 := Ot_0.out.frozenAt 2; have k13 := Ot_0.out.frozenAt 3; have t10 := Lib.hid (own_stores [(0, .int .i64 t_3), (1, .int .i64 t_7), (2, .int .i64 t_24), (3, .int .i64 t_14)] Ot_0.out); have o10 : Hid (g10.ownsRow w.heap.size 77 4 (.slice (some ⟨w.heap.size, 0, none⟩) 1 1) 1 [.int .i64 t_3, .int .i64 t_7, .int .i64 t_24, .int .i64 t_14]) := Lib.hid (by rw [← c11]; exact t10.out.1); have b10 : Hid (g11.grownBy g10 (Value.slice (some ⟨w.heap.size, 0, none⟩) 1 1).ownBlock) := Lib.hid (by rw [← c11]; exact t10.out.2); have c12 := Lib.hid (GoC.grown_new n16.out b10.out (GoC.own_ge Ot_0.out)); clear t10; have l17 := cell_other r15 b10.out (Apart.symm d10.out); have s17 := cell_other a15 b10.out (Apart.symm d10.out)
  have h17 := cell_other p15 b10.out (Apart.symm d10.out); have v16 := cell_other x15 b10.out (Apart.symm d10.out); replace p11 := Lib.hid (own_other p11.out b10.out (Apart.symm d10.out)); replace Ot_2 := Lib.hid (own_other Ot_2.out b10.out (Apart.symm g13.out)); replace c10 := Lib.hid (own_other c10.out b10.out (Apart.symm m12.out)); replace w10 := Lib.hid (own_other w10.out b10.out (Apart.symm t15.out)); replace a12 := Lib.hid (GoC.cur_otherO a12.out b10.out a10.out L0 Ot_0.out); clear Ot_0 b10; have i16 : g10.cell? ⟨w.heap.size, 0, none⟩ = some (.int .i64 t_3) := o10.out.cells rfl 0 _ rfl; have n15 : g10.cell? ⟨w.heap.size, 1, none⟩ = some (.int .i64 t_7) := o10.out.cells rfl 1 _ rfl; have v15 : g10.cell? ⟨w.heap.size, 2, none⟩ = some (.int .i64 t_24) := o10.out.cells rfl 2 _ rfl; have b16 : g10.cell? ⟨w.heap.size, 3, none⟩ = some (.int .i64 t_14) := o10.out.cells rfl 3 _ rfl; cases ret_hid H; go_wp2_with fail
  (try simp only [Exit.inBlock, Exit.then])
  refine bodyPost_ret (v := .agg #[.int .i64 t_3, .int .i64 t_7, .int .i64 t_24, .int .i64 t_14]) ?hr_ ?hd_ ?_
  case hd_ => rfl
  case hr_ => simp [results, Try.results77, i16, n15, v15, b16, go_sem]
  exact ⟨rfl, a12.out, c12.out⟩
end Go.Proofs.Ytgbcdmlcmnaimaa.GsL1CurMail

namespace Go.Proofs.Ytgbcdmlcmnaimaa.GsL1In
open Go.RowKit
open Go.Proofs.Ytgbcdmlcmnaimaa.Rowed Go.Proofs.Ytgbcdmlcmnaimaa.Turn Go.Proofs.Ytgbcdmlcmnaimaa.Aid Go.Proofs.Ytgbcdmlcmnaimaa.GoP Go.Proofs.Ytgbcdmlcmnaimaa.GoM

def P (x : Int) (a : Int) (b : Int) : Option (Bool) :=
  letK (decide (a ≤ x)) fun (t_3 : Bool) =>
  joinK (fun (t_8 : Bool) =>
  some t_8) fun jt_8 => iteK t_3 (letK (decide (x ≤ b)) fun (t_7 : Bool) =>
  appK jt_8 t_7) (appK jt_8 false)

set_option maxRecDepth 100000 in
set_option maxHeartbeats 2000000 in
theorem C (x : Int) (a : Int) (b : Int)   (w : World)   {r : Bool} (H : Hid (P x a b = some r)) :
    Calls Try.prog 64 #[.int .i64 x, .int .i64 a, .int .i64 b] w (Gives (.bool r) w) := by
  have HB := Lib.hid (Below.refl w.heap.size w)
  unfold P at H
  go_enter Try.func64, Try.ntmps64
  replace H := let_hid H
  obtain ⟨t_3, ht_3, H⟩ := H
  replace H := join_hid H
  cases t_3 with
  | false =>
    replace H := ite_f H
    replace H := app_hid H
    obtain rfl := ret_hid H
    go_wp2_with fail
    go_ret
    exact ⟨rfl, HB.out⟩
  | true =>
    replace H := ite_t H
    replace H := let_hid H
    obtain ⟨t_7, ht_7, H⟩ := H
    replace H := app_hid H
    obtain rfl := ret_hid H
    go_wp2_with fail
    go_ret
    exact ⟨rfl, HB.out⟩

set_option maxRecDepth 100000 in
set_option maxHeartbeats 2000000 in
theorem C0 (x : Int) (a : Int) (b : Int)   (w : World)   {r : Bool} (H : Hid (P x a b = some r)) :
    Calls Try.prog 64 #[.int .i64 x, .int .i64 a, .int .i64 b] w (fun e w'' => e = .returned (.bool r) ∧ w'' = w) := by
  have HB := Lib.hid (Below.refl w.heap.size w)
  unfold P at H
  go_enter Try.func64, Try.ntmps64
  replace H := let_hid H
  obtain ⟨t_3, ht_3, H⟩ := H
  replace H := join_hid H
  cases t_3 with
  | false =>
    replace H := ite_f H
    replace H := app_hid H
    obtain rfl := ret_hid H
    go_wp2_with fail
    go_ret
    exact ⟨rfl, rfl⟩
  | true =>
    replace H := ite_t H
    replace H := let_hid H
    obtain ⟨t_7, ht_7, H⟩ := H
    replace H := app_hid H
    obtain rfl := ret_hid H
    go_wp2_with fail
    go_ret
    exact ⟨rfl, rfl⟩
end Go.Proofs.Ytgbcdmlcmnaimaa.GsL1In

namespace Go.Proofs.Ytgbcdmlcmnaimaa.GsL9Office
open Go.RowKit
open Go.Proofs.Ytgbcdmlcmnaimaa.Rowed Go.Proofs.Ytgbcdmlcmnaimaa.Turn Go.Proofs.Ytgbcdmlcmnaimaa.Aid Go.Proofs.Ytgbcdmlcmnaimaa.GoP Go.Proofs.Ytgbcdmlcmnaimaa.GoM

def P (n_0 : Int) : Option (Bool) :=
  Option.bind (Go.Proofs.Ytgbcdmlcmnaimaa.GsL1In.P n_0 0 9) fun (t_2 : Bool) =>
  some t_2

set_option maxRecDepth 100000 in
set_option maxHeartbeats 2000000 in
theorem C (n_0 : Int)   (w : World)   {r : Bool} (H : Hid (P n_0 = some r)) :
    Calls Try.prog 74 #[.int .i64 n_0] w (Gives (.bool r) w) := by
  have HB := Lib.hid (Below.refl w.heap.size w)
  unfold P at H
  go_enter Try.func74, Try.ntmps74
  replace H := bind_hid H
  obtain ⟨t_2, qt_2, H⟩ := H
  go_wp2_with fail
  go_at_call 64
  refine (Go.Proofs.Ytgbcdmlcmnaimaa.GsL1In.C (n_0) (0) (9)  _    qt_2).mono ?_
  rintro e_t_2 wt_2 ⟨rfl, bt_2⟩
  have HBwt_2 := Lib.hid (Below.step HB.out bt_2)
  clear bt_2
  obtain rfl := ret_hid H
  go_wp2_with fail
  go_ret
  exact ⟨rfl, HBwt_2.out⟩
end Go.Proofs.Ytgbcdmlcmnaimaa.GsL9Office

namespace Go.Proofs.Ytgbcdmlcmnaimaa.GsL9Minute
open Go.RowKit
open Go.Proofs.Ytgbcdmlcmnaimaa.Rowed Go.Proofs.Ytgbcdmlcmnaimaa.Turn Go.Proofs.Ytgbcdmlcmnaimaa.Aid Go.Proofs.Ytgbcdmlcmnaimaa.GoP Go.Proofs.Ytgbcdmlcmnaimaa.GoM

def P (n_0 : Int) : Option (Bool) :=
  Option.bind (Go.Proofs.Ytgbcdmlcmnaimaa.GsL1In.P n_0 0 9999) fun (t_2 : Bool) =>
  some t_2

set_option maxRecDepth 100000 in
set_option maxHeartbeats 2000000 in
theorem C (n_0 : Int)   (w : World)   {r : Bool} (H : Hid (P n_0 = some r)) :
    Calls Try.prog 86 #[.int .i64 n_0] w (Gives (.bool r) w) := by
  have HB := Lib.hid (Below.refl w.heap.size w)
  unfold P at H
  go_enter Try.func86, Try.ntmps86
  replace H := bind_hid H
  obtain ⟨t_2, qt_2, H⟩ := H
  go_wp2_with fail
  go_at_call 64
  refine (Go.Proofs.Ytgbcdmlcmnaimaa.GsL1In.C (n_0) (0) (9999)  _    qt_2).mono ?_
  rintro e_t_2 wt_2 ⟨rfl, bt_2⟩
  have HBwt_2 := Lib.hid (Below.step HB.out bt_2)
  clear bt_2
  obtain rfl := ret_hid H
  go_wp2_with fail
  go_ret
  exact ⟨rfl, HBwt_2.out⟩
end Go.Proofs.Ytgbcdmlcmnaimaa.GsL9Minute

namespace Go.Proofs.Ytgbcdmlcmnaimaa.GsL9One
open Go.RowKit
open Go.Proofs.Ytgbcdmlcmnaimaa.Rowed Go.Proofs.Ytgbcdmlcmnaimaa.Turn Go.Proofs.Ytgbcdmlcmnaimaa.Aid Go.Proofs.Ytgbcdmlcmnaimaa.GoP Go.Proofs.Ytgbcdmlcmnaimaa.GoM

def P (x : PMail.Mail) : Option (Bool) :=
 unMail x fun (x_leave : Int) (x_from_ : Int) (x_to_ : Int) (x_arrive : Int) =>
 Option.bind (GsL9Office.P x_from_) fun (t_4 : Bool) =>
 joinK (fun (t_9 : Bool) =>
 joinK (fun (t_16 : Bool) =>
 joinK (fun (t_21 : Bool) =>
 joinK (fun (t_29 : Bool) =>
 some t_29) fun jt_29 => iteK t_21 (letK (IntKind.i64.wrap (x_arrive - 1)) fun (t_27 : Int) =>
 Option.bind (GsL1In.P x_leave 0 t_27) fun (t_28 : Bool) =>
 appK jt_29 t_28) (appK jt_29 false)) fun jt_21 => iteK t_16 (Option.bind (GsL9Minute.P x_arrive) fun (t_20 : Bool) =>
 appK jt_21 t_20) (appK jt_21 false)) fun jt_16 => iteK t_9 (letK (x_from_ != x_to_) fun (t_15 : Bool) =>
 appK jt_16 t_15) (appK jt_16 false)) fun jt_9 => iteK t_4 (Option.bind (GsL9Office.P x_to_) fun (t_8 : Bool) =>
 appK jt_9 t_8) (appK jt_9 false)

set_option maxRecDepth 100000 in
set_option maxHeartbeats 2000000 in
theorem C (x : PMail.Mail)   (w : World)   {r : Bool} (H : Hid (P x = some r)) :
  Calls Try.prog 78 #[x.val] w (Gives (.bool r) w) := by
 have HB := Lib.hid (Below.refl w.heap.size w); unfold P at H; obtain ⟨x_leave, x_from_, x_to_, x_arrive⟩ := x; replace H := unMail_hid H; unfold PMail.Mail.val
 go_enter Try.func78, Try.ntmps78
 obtain ⟨g10, h10⟩ : ∃ x, w.alloc (.cells #[.int .i64 x_leave, .int .i64 x_from_, .int .i64 x_to_, .int .i64 x_arrive] 77) = x := ⟨_, rfl⟩; have j10 : Below w.heap.size w g10 := (by rw [← h10]; exact (Below.refl _ _).alloc (Nat.le_refl _) _); have o10 := Lib.hid (Below.step HB.out j10); clear j10; have d10 : g10.cell? ⟨w.heap.size, 0, none⟩ = some (.int .i64 x_leave) := (by rw [← h10]; exact box_new _ _ _ 0 _ rfl); have a10 : g10.cell? ⟨w.heap.size, 1, none⟩ = some (.int .i64 x_from_) := (by rw [← h10]; exact box_new _ _ _ 1 _ rfl); have c10 : g10.cell? ⟨w.heap.size, 2, none⟩ = some (.int .i64 x_to_) := (by rw [← h10]; exact box_new _ _ _ 2 _ rfl); have b10 : g10.cell? ⟨w.heap.size, 3, none⟩ = some (.int .i64 x_arrive) := (by rw [← h10]; exact box_new _ _ _ 3 _ rfl); replace H := bind_hid H; obtain ⟨t_4, qt_4, H⟩ := H; go_wp2_with fail; go_at_call 74; refine (GsL9Office.C (x_from_)  _    qt_4).mono ?_; rintro x10 wt_4 ⟨rfl, bt_4⟩; have k10 := Lib.hid (Below.step o10.out bt_4); replace d10 := cell_below bt_4 d10; replace a10 := cell_below bt_4 a10; replace c10 := cell_below bt_4 c10; replace b10 := cell_below bt_4 b10; clear bt_4; replace H := join_hid H
 cases t_4 with
 | false =>
  replace H := ite_f H; replace H := app_hid H; replace H := join_hid H; replace H := ite_f H; replace H := app_hid H; replace H := join_hid H; replace H := ite_f H; replace H := app_hid H; replace H := join_hid H; replace H := ite_f H; replace H := app_hid H; obtain rfl := ret_hid H; go_wp2_with fail; go_ret; exact ⟨rfl, k10.out⟩
 | true =>
  replace H := ite_t H; replace H := bind_hid H; obtain ⟨t_8, qt_8, H⟩ := H; go_wp2_with fail; go_at_call 74; refine (GsL9Office.C (x_to_)  _    qt_8).mono ?_; rintro r10 wt_8 ⟨rfl, bt_8⟩; have i10 := Lib.hid (Below.step k10.out bt_8); replace d10 := cell_below bt_8 d10; replace a10 := cell_below bt_8 a10; replace c10 := cell_below bt_8 c10; replace b10 := cell_below bt_8 b10; clear bt_8; replace H := app_hid H; replace H := join_hid H
  cases t_8 with
  | false =>
   replace H := ite_f H; replace H := app_hid H; replace H := join_hid H; replace H := ite_f H; replace H := app_hid H; replace H := join_hid H; replace H := ite_f H; replace H := app_hid H; obtain rfl := ret_hid H; go_wp2_with fail; go_ret; exact ⟨rfl, i10.out⟩
  | true =>
   replace H := ite_t H; replace H := let_hid H; obtain ⟨t_15, t10, H⟩ := H; replace H := app_hid H; replace H := join_hid H
   cases t_15 with
   | false =>
    replace H := ite_f H; replace H := app_hid H; replace H := join_hid H; replace H := ite_f H; replace H := app_hid H; obtain rfl := ret_hid H; go_wp2_with fail; go_ret; exact ⟨rfl, i10.out⟩
   | true =>
    replace H := ite_t H; replace H := bind_hid H; obtain ⟨t_20, n10, H⟩ := H; go_wp2_with fail; go_at_call 86; refine (GsL9Minute.C (x_arrive)  _    n10).mono ?_; rintro y10 v10 ⟨rfl, e10⟩; have l10 := Lib.hid (Below.step i10.out e10); replace d10 := cell_below e10 d10; replace a10 := cell_below e10 a10; replace c10 := cell_below e10 c10; replace b10 := cell_below e10 b10; clear e10; replace H := app_hid H; replace H := join_hid H
    cases t_20 with
    | false =>
     replace H := ite_f H; replace H := app_hid H; obtain rfl := ret_hid H; go_wp2_with fail; go_ret; exact ⟨rfl, l10.out⟩
    | true =>
     replace H := ite_t H; replace H := let_hid H; obtain ⟨t_27, q10, H⟩ := H; replace H := bind_hid H; obtain ⟨t_28, m10, H⟩ := H; go_wp2_with fail; go_at_call 64; refine (GsL1In.C (x_leave) (0) (t_27)  _    m10).mono ?_; rintro w10 s10 ⟨rfl, f10⟩; have p10 := Lib.hid (Below.step l10.out f10); replace d10 := cell_below f10 d10; replace a10 := cell_below f10 a10; replace c10 := cell_below f10 c10; replace b10 := cell_below f10 b10; clear f10; replace H := app_hid H; obtain rfl := ret_hid H; go_wp2_with fail; go_ret; exact ⟨rfl, p10.out⟩
end Go.Proofs.Ytgbcdmlcmnaimaa.GsL9One

namespace Go.Proofs.Ytgbcdmlcmnaimaa.GsL9Code
open Go.RowKit
open Go.Proofs.Ytgbcdmlcmnaimaa.Rowed Go.Proofs.Ytgbcdmlcmnaimaa.Turn Go.Proofs.Ytgbcdmlcmnaimaa.Aid Go.Proofs.Ytgbcdmlcmnaimaa.GoP Go.Proofs.Ytgbcdmlcmnaimaa.GoM

def P (x : PMail.Mail) : Option (Int) :=
 unMail x fun (x_leave : Int) (x_from_ : Int) (x_to_ : Int) (x_arrive : Int) =>
 letK (IntKind.i64.wrap (x_leave * 10)) fun (t_4 : Int) =>
 letK (IntKind.i64.wrap (t_4 + x_from_)) fun (t_7 : Int) =>
 letK (IntKind.i64.wrap (t_7 * 10)) fun (t_8 : Int) =>
 letK (IntKind.i64.wrap (t_8 + x_to_)) fun (t_11 : Int) =>
 letK (IntKind.i64.wrap (t_11 * 10000)) fun (t_12 : Int) =>
 letK (IntKind.i64.wrap (t_12 + x_arrive)) fun (t_15 : Int) =>
 some t_15

set_option maxRecDepth 100000 in
set_option maxHeartbeats 2000000 in
theorem C (x : PMail.Mail)   (w : World)   {r : Int} (H : Hid (P x = some r)) :
  Calls Try.prog 79 #[x.val] w (Gives (.int .i64 r) w) := by
 have HB := Lib.hid (Below.refl w.heap.size w); unfold P at H; obtain ⟨x_leave, x_from_, x_to_, x_arrive⟩ := x; replace H := unMail_hid H; unfold PMail.Mail.val
 go_enter Try.func79, Try.ntmps79
 obtain ⟨a10, b10⟩ : ∃ x, w.alloc (.cells #[.int .i64 x_leave, .int .i64 x_from_, .int .i64 x_to_, .int .i64 x_arrive] 77) = x := ⟨_, rfl⟩; have c10 : Below w.heap.size w a10 := (by rw [← b10]; exact (Below.refl _ _).alloc (Nat.le_refl _) _); have d10 := Lib.hid (Below.step HB.out c10); clear c10; have f10 : a10.cell? ⟨w.heap.size, 0, none⟩ = some (.int .i64 x_leave) := (by rw [← b10]; exact box_new _ _ _ 0 _ rfl); have k10 : a10.cell? ⟨w.heap.size, 1, none⟩ = some (.int .i64 x_from_) := (by rw [← b10]; exact box_new _ _ _ 1 _ rfl); have h10 : a10.cell? ⟨w.heap.size, 2, none⟩ = some (.int .i64 x_to_) := (by rw [← b10]; exact box_new _ _ _ 2 _ rfl); have j10 : a10.cell? ⟨w.heap.size, 3, none⟩ = some (.int .i64 x_arrive) := (by rw [← b10]; exact box_new _ _ _ 3 _ rfl); replace H := let_hid H; obtain ⟨t_4, ht_4, H⟩ := H; replace H := let_hid H; obtain ⟨t_7, ht_7, H⟩ := H; replace H := let_hid H; obtain ⟨t_8, ht_8, H⟩ := H; replace H := let_hid H; obtain ⟨t_11, e10, H⟩ := H; replace H := let_hid H; obtain ⟨t_12, g10, H⟩ := H; replace H := let_hid H; obtain ⟨t_15, i10, H⟩ := H; obtain rfl := ret_hid H; go_wp2_with fail; go_ret; exact ⟨rfl, d10.out⟩
end Go.Proofs.Ytgbcdmlcmnaimaa.GsL9Code

