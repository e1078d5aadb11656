/- Texts on which the proofs of several laws stand, one behind the other (10 of 13). No condition of their own. -/
import Derived.Test.YtlljmgphgmklcaaChecked
import Derived.Test.YtlljmgphgmklcaaV10P1
import Derived.Test.YtlljmgphgmklcaaV10P9
import Derived.Test.YtlljmgphgmklcaaV10P2
import Derived.Test.YtlljmgphgmklcaaV10P4
import Derived.WalkKit
import Derived.Laws.StructEq
import Derived.ChangeKeysEq
import Derived.WalkSpells
import Derived.WalkLawsBesides
import Derived.BigQuiet
import Derived.OwnWalk
import Derived.Deep.LoopGhost
import Derived.Deep.QuietTactic
import Derived.IntWalk
import Derived.Lib.QuietBelow
import Derived.Deep.RegionHeld3
import Derived.Test.YtlljmgphgmklcaaV10P5
import Derived.Test.YtlljmgphgmklcaaV10P3
import Derived.Deep.Slices
import Derived.Deep.Fields
import Derived.ChangeSame
import Derived.Lib.LaidU8
/- loop.example/g01062/impl.canFollow as a plain function, and the contract of the program's: where the plain one has an answer, the program has it. Conditions: slices read as lists. -/
namespace Go.Proofs.Ytlljmgphgmklcaa.GiCanFollow
set_option linter.unusedVariables false
set_option linter.unusedSimpArgs false
open Go.RowKit
open Go.Proofs.Ytlljmgphgmklcaa.Rowed Go.Proofs.Ytlljmgphgmklcaa.Turn Go.Proofs.Ytlljmgphgmklcaa.Aid Go.Proofs.Ytlljmgphgmklcaa.GoP Go.Proofs.Ytlljmgphgmklcaa.GoM

def P (r_0 : Go.Proofs.Ytlljmgphgmklcaa.PRate.Rate) (before : Go.Proofs.Ytlljmgphgmklcaa.PRate.Rate) : Option (Bool) :=
  unRate r_0 fun (r_0_zone : Int) (r_0_grams : Int) (r_0_from_ : Int) (r_0_until_ : Int) (r_0_cents : Int) =>
  unRate before fun (before_zone : Int) (before_grams : Int) (before_from_ : Int) (before_until_ : Int) (before_cents : Int) =>
  Option.bind (Go.Proofs.Ytlljmgphgmklcaa.GiClassOf.P (Go.Proofs.Ytlljmgphgmklcaa.PRate.Rate.mk r_0_zone r_0_grams r_0_from_ r_0_until_ r_0_cents)) fun (t_4 : Go.Proofs.Ytlljmgphgmklcaa.PrateClass.rateClass) =>
  unrateClass t_4 fun (t_4_zone : Int) (t_4_grams : Int) =>
  Option.bind (Go.Proofs.Ytlljmgphgmklcaa.GiClassOf.P (Go.Proofs.Ytlljmgphgmklcaa.PRate.Rate.mk before_zone before_grams before_from_ before_until_ before_cents)) fun (t_6 : Go.Proofs.Ytlljmgphgmklcaa.PrateClass.rateClass) =>
  unrateClass t_6 fun (t_6_zone : Int) (t_6_grams : Int) =>
  letK (t_4_zone == t_6_zone && t_4_grams == t_6_grams) fun (t_7 : Bool) =>
  iteK t_7
  (letK (decide (before_until_ < r_0_from_)) fun (t_12 : Bool) =>
  some t_12)
  (Option.bind (Go.Proofs.Ytlljmgphgmklcaa.GxCmpCompareInt.P before_zone r_0_zone) fun (t_18 : Int) =>
  Option.bind (Go.Proofs.Ytlljmgphgmklcaa.GxCmpCompareInt.P before_grams r_0_grams) fun (t_23 : Int) =>
  letK ([t_18, t_23]) fun (t_24 : (List Int)) =>
  Option.bind (Go.Proofs.Ytlljmgphgmklcaa.GxCmpOrInt.P t_24) fun (t_25 : Int) =>
  letK (decide (t_25 < 0)) fun (t_26 : Bool) =>
  some t_26)

set_option maxRecDepth 100000
theorem eqr_141 (x0 x1 y0 y1 : Int) : ∀ W, (Op.equalIn 10000 141 (.agg #[Value.int IntKind.i64 x0, Value.int IntKind.i64 x1]) (.agg #[Value.int IntKind.i64 y0, Value.int IntKind.i64 y1])).run Try.prog W = .ok (x0 == y0 && x1 == y1) W := by
  intro W
  rw [run_equalIn_agg W _ _ _ _ (by kernel_rfl) (by kernel_rfl)]
  obtain ⟨f, hf⟩ : ∃ f, (Try.prog.fieldsOf 141).toList = f := ⟨_, rfl⟩
  have : (Try.prog.fieldsOf 141).toList.map (fun f => (f.name, f.type, f.offset)) = [("zone", 3, 0), ("grams", 3, 1)] := by kernel_rfl
  rw [hf] at this ⊢
  match f, this with
  | [f0, f1], h =>
    simp only [List.map_cons, List.map_nil, List.cons.injEq, Prod.mk.injEq, and_true] at h
    obtain ⟨⟨a0, b0, d0⟩, a1, b1, d1⟩ := h
    simp only [Op.eqFields, a0, b0, d0, a1, b1, d1]
    have p0 : ∀ (w : World) (x0 x1 : Int), (part 3 #[Value.int IntKind.i64 x0, Value.int IntKind.i64 x1] 0).run Try.prog w = .ok (.int .i64 x0) w := fun w x0 x1 => run_part_plain w (by kernel_rfl) rfl
    have p1 : ∀ (w : World) (x0 x1 : Int), (part 3 #[Value.int IntKind.i64 x0, Value.int IntKind.i64 x1] 1).run Try.prog w = .ok (.int .i64 x1) w := fun w x0 x1 => run_part_plain w (by kernel_rfl) rfl
    have e0 : ∀ (w : World) (d : Nat) (x y : Int), (Op.equalIn (d + 1) 3 (.int .i64 x) (.int .i64 y)).run Try.prog w = .ok (x == y) w := fun w d x y => run_equalIn_int w d 3 .i64 .i64 x y Try.underlying3
    have e1 : ∀ (w : World) (x y : Int), (Op.equalIn 9999 3 (.int .i64 x) (.int .i64 y)).run Try.prog w = .ok (x == y) w := fun w x y => e0 w 9998 x y
    rw [if_pos (by decide)]; rw [if_pos (by decide)]
    simp only [Sem.run_bind, p0, p1, e1, Result.andThen_ok, Sem.run_ite, Sem.run_pure]
    cases x0 == y0 <;> cases x1 == y1 <;> rfl
theorem eqla_141 (x0 x1 y0 y1 : Int) : ∀ W, (binOp .eql 141 (.agg #[Value.int IntKind.i64 x0, Value.int IntKind.i64 x1]) (.agg #[Value.int IntKind.i64 y0, Value.int IntKind.i64 y1])).run Try.prog W = .ok (.bool (x0 == y0 && x1 == y1)) W := by
  intro W
  rw [run_eql_struct, eqr_141]; rfl
theorem neqa_141 (x0 x1 y0 y1 : Int) : ∀ W, (binOp .neq 141 (.agg #[Value.int IntKind.i64 x0, Value.int IntKind.i64 x1]) (.agg #[Value.int IntKind.i64 y0, Value.int IntKind.i64 y1])).run Try.prog W = .ok (.bool (!(x0 == y0 && x1 == y1))) W := by
  intro W
  rw [run_neq_struct, eqr_141]; rfl

set_option maxRecDepth 100000 in
set_option maxHeartbeats 2000000 in
theorem C (r_0 : Go.Proofs.Ytlljmgphgmklcaa.PRate.Rate) (before : Go.Proofs.Ytlljmgphgmklcaa.PRate.Rate)   (w : World)   {r : Bool} (H : Hid (P r_0 before = some r)) :
    Calls Try.prog 133 #[r_0.val, before.val] w (Gives (.bool r) w) := by
  have HB := Lib.hid (Below.refl w.heap.size w)
  unfold P at H
  obtain ⟨r_0_zone, r_0_grams, r_0_from_, r_0_until_, r_0_cents⟩ := r_0
  replace H := unRate_hid H
  obtain ⟨before_zone, before_grams, before_from_, before_until_, before_cents⟩ := before
  replace H := unRate_hid H
  unfold Go.Proofs.Ytlljmgphgmklcaa.PRate.Rate.val
  go_enter Try.func133, Try.ntmps133
  obtain ⟨w_r_0, hw_r_0⟩ : ∃ x, w.alloc (.cells #[.int .i64 r_0_zone, .int .i64 r_0_grams, .int .i64 r_0_from_, .int .i64 r_0_until_, .int .i64 r_0_cents] 104) = x := ⟨_, rfl⟩
  have bw_r_0 : Below w.heap.size w w_r_0 := by rw [← hw_r_0]; exact (Below.refl _ _).alloc (Nat.le_refl _) _
  have HBw_r_0 := Lib.hid (Below.step HB.out bw_r_0)
  clear bw_r_0
  have kr_0_0 : w_r_0.cell? ⟨w.heap.size, 0, none⟩ = some (.int .i64 r_0_zone) := by rw [← hw_r_0]; exact box_new _ _ _ 0 _ rfl
  have kr_0_1 : w_r_0.cell? ⟨w.heap.size, 1, none⟩ = some (.int .i64 r_0_grams) := by rw [← hw_r_0]; exact box_new _ _ _ 1 _ rfl
  have kr_0_2 : w_r_0.cell? ⟨w.heap.size, 2, none⟩ = some (.int .i64 r_0_from_) := by rw [← hw_r_0]; exact box_new _ _ _ 2 _ rfl
  have kr_0_3 : w_r_0.cell? ⟨w.heap.size, 3, none⟩ = some (.int .i64 r_0_until_) := by rw [← hw_r_0]; exact box_new _ _ _ 3 _ rfl
  have kr_0_4 : w_r_0.cell? ⟨w.heap.size, 4, none⟩ = some (.int .i64 r_0_cents) := by rw [← hw_r_0]; exact box_new _ _ _ 4 _ rfl
  obtain ⟨w_before_1, hw_before_1⟩ : ∃ x, w_r_0.alloc (.cells #[.int .i64 before_zone, .int .i64 before_grams, .int .i64 before_from_, .int .i64 before_until_, .int .i64 before_cents] 104) = x := ⟨_, rfl⟩
  have bw_before_1 : Below w_r_0.heap.size w_r_0 w_before_1 := by rw [← hw_before_1]; exact (Below.refl _ _).alloc (Nat.le_refl _) _
  have HBw_before_1 := Lib.hid (Below.step HBw_r_0.out bw_before_1)
  have kr_0_0__775 := cell_below bw_before_1 kr_0_0
  have kr_0_1__776 := cell_below bw_before_1 kr_0_1
  have kr_0_2__777 := cell_below bw_before_1 kr_0_2
  have kr_0_3__778 := cell_below bw_before_1 kr_0_3
  have kr_0_4__779 := cell_below bw_before_1 kr_0_4
  clear bw_before_1
  have kbefore_1_0 : w_before_1.cell? ⟨w_r_0.heap.size, 0, none⟩ = some (.int .i64 before_zone) := by rw [← hw_before_1]; exact box_new _ _ _ 0 _ rfl
  have kbefore_1_1 : w_before_1.cell? ⟨w_r_0.heap.size, 1, none⟩ = some (.int .i64 before_grams) := by rw [← hw_before_1]; exact box_new _ _ _ 1 _ rfl
  have kbefore_1_2 : w_before_1.cell? ⟨w_r_0.heap.size, 2, none⟩ = some (.int .i64 before_from_) := by rw [← hw_before_1]; exact box_new _ _ _ 2 _ rfl
  have kbefore_1_3 : w_before_1.cell? ⟨w_r_0.heap.size, 3, none⟩ = some (.int .i64 before_until_) := by rw [← hw_before_1]; exact box_new _ _ _ 3 _ rfl
  have kbefore_1_4 : w_before_1.cell? ⟨w_r_0.heap.size, 4, none⟩ = some (.int .i64 before_cents) := by rw [← hw_before_1]; exact box_new _ _ _ 4 _ rfl
  go_wp2_with fail
  clear kr_0_0 kr_0_1 kr_0_2 kr_0_3 kr_0_4
  have Hkr_0_0__775 := Lib.hid kr_0_0__775
  replace kr_0_0__775 := cell_regrown kr_0_0__775
  have Hkr_0_1__776 := Lib.hid kr_0_1__776
  replace kr_0_1__776 := cell_regrown kr_0_1__776
  have Hkr_0_2__777 := Lib.hid kr_0_2__777
  replace kr_0_2__777 := cell_regrown kr_0_2__777
  have Hkr_0_3__778 := Lib.hid kr_0_3__778
  replace kr_0_3__778 := cell_regrown kr_0_3__778
  have Hkr_0_4__779 := Lib.hid kr_0_4__779
  replace kr_0_4__779 := cell_regrown kr_0_4__779
  have Hkbefore_1_0 := Lib.hid kbefore_1_0
  replace kbefore_1_0 := cell_regrown kbefore_1_0
  have Hkbefore_1_1 := Lib.hid kbefore_1_1
  replace kbefore_1_1 := cell_regrown kbefore_1_1
  have Hkbefore_1_2 := Lib.hid kbefore_1_2
  replace kbefore_1_2 := cell_regrown kbefore_1_2
  have Hkbefore_1_3 := Lib.hid kbefore_1_3
  replace kbefore_1_3 := cell_regrown kbefore_1_3
  have Hkbefore_1_4 := Lib.hid kbefore_1_4
  replace kbefore_1_4 := cell_regrown kbefore_1_4
  replace H := bind_hid H
  obtain ⟨t_4, qt_4, H⟩ := H
  obtain ⟨t_4_zone, t_4_grams⟩ := t_4
  replace H := unrateClass_hid H
  have nt_4 : ∀ d os, Calls Try.prog 127 #[.agg #[.int .i64 r_0_zone, .int .i64 r_0_grams, .int .i64 r_0_from_, .int .i64 r_0_until_, .int .i64 r_0_cents]] (Go.Sort.grow (redrawn w_before_1 d) os) fun e w'' => e = .returned (.agg #[.int .i64 t_4_zone, .int .i64 t_4_grams]) ∧ ∃ p : Regrown, w'' = Go.Sort.grow (redrawn w_before_1 p.d) p.os := fun d os => Calls.regrown_of (Go.Proofs.Ytlljmgphgmklcaa.GiClassOf.C ((Go.Proofs.Ytlljmgphgmklcaa.PRate.Rate.mk r_0_zone r_0_grams r_0_from_ r_0_until_ r_0_cents))  _    qt_4)
  replace H := bind_hid H
  obtain ⟨t_6, qt_6, H⟩ := H
  obtain ⟨t_6_zone, t_6_grams⟩ := t_6
  replace H := unrateClass_hid H
  have nt_6 : ∀ d os, Calls Try.prog 127 #[.agg #[.int .i64 before_zone, .int .i64 before_grams, .int .i64 before_from_, .int .i64 before_until_, .int .i64 before_cents]] (Go.Sort.grow (redrawn w_before_1 d) os) fun e w'' => e = .returned (.agg #[.int .i64 t_6_zone, .int .i64 t_6_grams]) ∧ ∃ p : Regrown, w'' = Go.Sort.grow (redrawn w_before_1 p.d) p.os := fun d os => Calls.regrown_of (Go.Proofs.Ytlljmgphgmklcaa.GiClassOf.C ((Go.Proofs.Ytlljmgphgmklcaa.PRate.Rate.mk before_zone before_grams before_from_ before_until_ before_cents))  _    qt_6)
  replace H := let_hid H
  obtain ⟨t_7, ht_7, H⟩ := H
  have ct_7 : ∀ W, (binOp .eql 141 (.agg #[.int .i64 t_4_zone, .int .i64 t_4_grams]) (.agg #[.int .i64 t_6_zone, .int .i64 t_6_grams])).run Try.prog W = .ok (.bool t_7) W := fun W => by rw [eqla_141, ht_7]
  refine wp_region_quiet_below (by kernel_rfl) (by kernel_rfl) ?_
  repeat (go_big_quiet_step (first | (go_at_call 127; with_reducible exact nt_4 _ _) | (go_at_call 127; with_reducible exact nt_6 _ _) | (go_at_call 127; exact nt_4 _ _) | (go_at_call 127; exact nt_6 _ _)))
  refine wpQuiet_nil ?_
  intro Y1 hY1
  replace hY1 := below_class hY1
  clear nt_4 nt_6
  replace kr_0_0__775 := Hkr_0_0__775.out
  clear Hkr_0_0__775
  replace kr_0_1__776 := Hkr_0_1__776.out
  clear Hkr_0_1__776
  replace kr_0_2__777 := Hkr_0_2__777.out
  clear Hkr_0_2__777
  replace kr_0_3__778 := Hkr_0_3__778.out
  clear Hkr_0_3__778
  replace kr_0_4__779 := Hkr_0_4__779.out
  clear Hkr_0_4__779
  replace kbefore_1_0 := Hkbefore_1_0.out
  clear Hkbefore_1_0
  replace kbefore_1_1 := Hkbefore_1_1.out
  clear Hkbefore_1_1
  replace kbefore_1_2 := Hkbefore_1_2.out
  clear Hkbefore_1_2
  replace kbefore_1_3 := Hkbefore_1_3.out
  clear Hkbefore_1_3
  replace kbefore_1_4 := Hkbefore_1_4.out
  clear Hkbefore_1_4
  have HBY1 := Lib.hid (Below.step HBw_before_1.out hY1)
  replace kr_0_0__775 := cell_below hY1 kr_0_0__775
  replace kr_0_1__776 := cell_below hY1 kr_0_1__776
  replace kr_0_2__777 := cell_below hY1 kr_0_2__777
  replace kr_0_3__778 := cell_below hY1 kr_0_3__778
  replace kr_0_4__779 := cell_below hY1 kr_0_4__779
  replace kbefore_1_0 := cell_below hY1 kbefore_1_0
  replace kbefore_1_1 := cell_below hY1 kbefore_1_1
  replace kbefore_1_2 := cell_below hY1 kbefore_1_2
  replace kbefore_1_3 := cell_below hY1 kbefore_1_3
  replace kbefore_1_4 := cell_below hY1 kbefore_1_4
  clear hY1
  cases t_7 with
  | false =>
    replace H := ite_f H
    go_wp2_with fail
    have bd3 : Below Y1.heap.size Y1 Y1.drew := (Below.refl _ _).drew
    have HBY1.drew := Lib.hid (Below.step HBY1.out bd3)
    replace kr_0_0__775 := cell_below bd3 kr_0_0__775
    replace kr_0_1__776 := cell_below bd3 kr_0_1__776
    replace kr_0_2__777 := cell_below bd3 kr_0_2__777
    replace kr_0_3__778 := cell_below bd3 kr_0_3__778
    replace kr_0_4__779 := cell_below bd3 kr_0_4__779
    replace kbefore_1_0 := cell_below bd3 kbefore_1_0
    replace kbefore_1_1 := cell_below bd3 kbefore_1_1
    replace kbefore_1_2 := cell_below bd3 kbefore_1_2
    replace kbefore_1_3 := cell_below bd3 kbefore_1_3
    replace kbefore_1_4 := cell_below bd3 kbefore_1_4
    clear bd3
    replace H := bind_hid H
    obtain ⟨t_18, qt_18, H⟩ := H
    replace H := bind_hid H
    obtain ⟨t_23, qt_23, H⟩ := H
    replace H := let_hid H
    obtain ⟨t_24, ht_24, H⟩ := H
    replace H := bind_hid H
    obtain ⟨t_25, qt_25, H⟩ := H
    replace H := let_hid H
    obtain ⟨t_26, ht_26, H⟩ := H
    go_region_held3 (fun w' => w'.cell? ⟨w.heap.size, 0, none⟩ = some (.int .i64 r_0_zone) ∧ w'.cell? ⟨w.heap.size, 1, none⟩ = some (.int .i64 r_0_grams) ∧ w'.cell? ⟨w.heap.size, 2, none⟩ = some (.int .i64 r_0_from_) ∧ w'.cell? ⟨w.heap.size, 3, none⟩ = some (.int .i64 r_0_until_) ∧ w'.cell? ⟨w.heap.size, 4, none⟩ = some (.int .i64 r_0_cents) ∧ w'.cell? ⟨w_r_0.heap.size, 0, none⟩ = some (.int .i64 before_zone) ∧ w'.cell? ⟨w_r_0.heap.size, 1, none⟩ = some (.int .i64 before_grams) ∧ w'.cell? ⟨w_r_0.heap.size, 2, none⟩ = some (.int .i64 before_from_) ∧ w'.cell? ⟨w_r_0.heap.size, 3, none⟩ = some (.int .i64 before_until_) ∧ w'.cell? ⟨w_r_0.heap.size, 4, none⟩ = some (.int .i64 before_cents)) (first | exact ⟨kr_0_0__775, kr_0_1__776, kr_0_2__777, kr_0_3__778, kr_0_4__779, kbefore_1_0, kbefore_1_1, kbefore_1_2, kbefore_1_3, kbefore_1_4⟩ | exact ⟨kr_0_0__780, kr_0_1__781, kr_0_2__782, kr_0_3__783, kr_0_4__784, kbefore_1_0__785, kbefore_1_1__786, kbefore_1_2__787, kbefore_1_3__788, kbefore_1_4__789⟩)
        (first
          | (go_at_call 161
             refine (Go.Proofs.Ytlljmgphgmklcaa.GxCmpCompareInt.C (before_zone) (r_0_zone)  _    qt_18).mono ?_
             rintro e_t_18 wt_18 ⟨rfl, bt_18⟩
             have HBwt_18 := Lib.hid (Below.step HBY1.drew.out bt_18)
             replace kr_0_0__775 := cell_below bt_18 kr_0_0__775
             replace kr_0_1__776 := cell_below bt_18 kr_0_1__776
             replace kr_0_2__777 := cell_below bt_18 kr_0_2__777
             replace kr_0_3__778 := cell_below bt_18 kr_0_3__778
             replace kr_0_4__779 := cell_below bt_18 kr_0_4__779
             replace kbefore_1_0 := cell_below bt_18 kbefore_1_0
             replace kbefore_1_1 := cell_below bt_18 kbefore_1_1
             replace kbefore_1_2 := cell_below bt_18 kbefore_1_2
             replace kbefore_1_3 := cell_below bt_18 kbefore_1_3
             replace kbefore_1_4 := cell_below bt_18 kbefore_1_4
             clear bt_18
             clear qt_18)
          | (go_at_call 161
             refine (Go.Proofs.Ytlljmgphgmklcaa.GxCmpCompareInt.C (before_grams) (r_0_grams)  _    qt_23).mono ?_
             rintro e_t_23 wt_23 ⟨rfl, bt_23⟩
             have HBwt_23 := Lib.hid (Below.step HBwt_18.out bt_23)
             replace kr_0_0__775 := cell_below bt_23 kr_0_0__775
             replace kr_0_1__776 := cell_below bt_23 kr_0_1__776
             replace kr_0_2__777 := cell_below bt_23 kr_0_2__777
             replace kr_0_3__778 := cell_below bt_23 kr_0_3__778
             replace kr_0_4__779 := cell_below bt_23 kr_0_4__779
             replace kbefore_1_0 := cell_below bt_23 kbefore_1_0
             replace kbefore_1_1 := cell_below bt_23 kbefore_1_1
             replace kbefore_1_2 := cell_below bt_23 kbefore_1_2
             replace kbefore_1_3 := cell_below bt_23 kbefore_1_3
             replace kbefore_1_4 := cell_below bt_23 kbefore_1_4
             clear bt_23
             clear qt_23
             obtain ⟨w_t_24, hw_t_24⟩ : ∃ x, wt_23.alloc (.cells #[.int .i64 t_18, .int .i64 t_23] 3) = x := ⟨_, rfl⟩
             have bw_t_24 : Below wt_23.heap.size wt_23 w_t_24 := by rw [← hw_t_24]; exact (Below.refl _ _).alloc (Nat.le_refl _) _
             have hs_t_24 := HBwt_23.out.size
             have nt_24 : t_24.length = 2 := by rw [← ht_24]; rfl
             have Ot_24 : Hid (w_t_24.ownsRow w.heap.size 3 1 (.slice (some ⟨wt_23.heap.size, 0, none⟩) 2 2) 2 (Go.Proofs.Ytlljmgphgmklcaa.HelpInt.iv t_24)) := by
               rw [← hw_t_24, ← ht_24]
               have e_ : ([.int .i64 t_18, .int .i64 t_23] : List Value) = (Go.Proofs.Ytlljmgphgmklcaa.HelpInt.iv ([t_18, t_23] : List Int)) := rfl
               exact Lib.hid (own_laid (n := 2) hs_t_24 e_ rfl (by unfold maxLen; omega))
             clear hs_t_24
             have hht_24 := Lib.hid ht_24
             clear ht_24
             replace nt_24 := Lib.hid nt_24
             have Dt_24_r_0 := Lib.hid (apart_box kr_0_0__775)
             have Dt_24_before_1 := Lib.hid (apart_box kbefore_1_0)
             have HBw_t_24 := Lib.hid (Below.step HBwt_23.out bw_t_24)
             have kr_0_0__780 := cell_below bw_t_24 kr_0_0__775
             have kr_0_1__781 := cell_below bw_t_24 kr_0_1__776
             have kr_0_2__782 := cell_below bw_t_24 kr_0_2__777
             have kr_0_3__783 := cell_below bw_t_24 kr_0_3__778
             have kr_0_4__784 := cell_below bw_t_24 kr_0_4__779
             have kbefore_1_0__785 := cell_below bw_t_24 kbefore_1_0
             have kbefore_1_1__786 := cell_below bw_t_24 kbefore_1_1
             have kbefore_1_2__787 := cell_below bw_t_24 kbefore_1_2
             have kbefore_1_3__788 := cell_below bw_t_24 kbefore_1_3
             have kbefore_1_4__789 := cell_below bw_t_24 kbefore_1_4
             clear bw_t_24)
          | (have hc0_ := nt_24.out
             have Oct_25_1 := Lib.hid (own_len hc0_ Ot_24.out)
             have con_ := Go.Proofs.Ytlljmgphgmklcaa.GxCmpOrInt.C (t_24) (some ⟨wt_23.heap.size, 0, none⟩) 2 _   (Lib.hid (own_cells Oct_25_1.out)) (Lib.hid (own_max Oct_25_1.out)) qt_25
             rw [hc0_] at con_
             clear hc0_ Oct_25_1
             go_at_call 160
             refine con_.mono ?_
             rintro e_t_25 wt_25 ⟨rfl, bt_25⟩
             have HBwt_25 := Lib.hid (Below.step HBw_t_24.out bt_25)
             replace kr_0_0__780 := cell_below bt_25 kr_0_0__780
             replace kr_0_1__781 := cell_below bt_25 kr_0_1__781
             replace kr_0_2__782 := cell_below bt_25 kr_0_2__782
             replace kr_0_3__783 := cell_below bt_25 kr_0_3__783
             replace kr_0_4__784 := cell_below bt_25 kr_0_4__784
             replace kbefore_1_0__785 := cell_below bt_25 kbefore_1_0__785
             replace kbefore_1_1__786 := cell_below bt_25 kbefore_1_1__786
             replace kbefore_1_2__787 := cell_below bt_25 kbefore_1_2__787
             replace kbefore_1_3__788 := cell_below bt_25 kbefore_1_3__788
             replace kbefore_1_4__789 := cell_below bt_25 kbefore_1_4__789
             replace Ot_24 := Lib.hid (own_below Ot_24.out bt_25)
             clear bt_25
             clear qt_25))
    try clear kr_0_0__775
    try clear kr_0_1__776
    try clear kr_0_2__777
    try clear kr_0_3__778
    try clear kr_0_4__779
    try clear kbefore_1_0
    try clear kbefore_1_1
    try clear kbefore_1_2
    try clear kbefore_1_3
    try clear kbefore_1_4
    obtain rfl := ret_hid H
    go_wp2_with fail
    go_ret
    exact ⟨rfl, HBwt_25.out⟩
  | true =>
    replace H := ite_t H
    replace H := let_hid H
    obtain ⟨t_12, ht_12, H⟩ := H
    obtain rfl := ret_hid H
    go_wp2_with fail
    go_ret
    exact ⟨rfl, HBY1.out⟩
end Go.Proofs.Ytlljmgphgmklcaa.GiCanFollow

/- loop.example/g01062/spec.l8Code as a plain function, and the contract of the program's: where the plain one has an answer, the program has it. Conditions: slices read as lists. -/
namespace Go.Proofs.Ytlljmgphgmklcaa.GsL8Code
set_option linter.unusedVariables false
set_option linter.unusedSimpArgs false
open Go.RowKit
open Go.Proofs.Ytlljmgphgmklcaa.Rowed Go.Proofs.Ytlljmgphgmklcaa.Turn Go.Proofs.Ytlljmgphgmklcaa.Aid Go.Proofs.Ytlljmgphgmklcaa.GoP Go.Proofs.Ytlljmgphgmklcaa.GoM

def P (r_0 : Go.Proofs.Ytlljmgphgmklcaa.PRate.Rate) : Option (Int) :=
  unRate r_0 fun (r_0_zone : Int) (r_0_grams : Int) (r_0_from_ : Int) (r_0_until_ : Int) (r_0_cents : Int) =>
  letK (IntKind.i64.wrap (10000 * r_0_zone)) fun (t_4 : Int) =>
  letK (IntKind.i64.wrap (t_4 + r_0_grams)) fun (t_7 : Int) =>
  letK (IntKind.i64.wrap (t_7 * 10000)) fun (t_8 : Int) =>
  letK (IntKind.i64.wrap (t_8 + r_0_from_)) fun (t_11 : Int) =>
  some t_11

set_option maxRecDepth 100000 in
set_option maxHeartbeats 2000000 in
theorem C (r_0 : Go.Proofs.Ytlljmgphgmklcaa.PRate.Rate)   (w : World)   {r : Int} (H : Hid (P r_0 = some r)) :
    Calls Try.prog 142 #[r_0.val] w (Gives (.int .i64 r) w) := by
  have HB := Lib.hid (Below.refl w.heap.size w)
  unfold P at H
  obtain ⟨r_0_zone, r_0_grams, r_0_from_, r_0_until_, r_0_cents⟩ := r_0
  replace H := unRate_hid H
  unfold Go.Proofs.Ytlljmgphgmklcaa.PRate.Rate.val
  go_enter Try.func142, Try.ntmps142
  obtain ⟨w_r_0, hw_r_0⟩ : ∃ x, w.alloc (.cells #[.int .i64 r_0_zone, .int .i64 r_0_grams, .int .i64 r_0_from_, .int .i64 r_0_until_, .int .i64 r_0_cents] 104) = x := ⟨_, rfl⟩
  have bw_r_0 : Below w.heap.size w w_r_0 := by rw [← hw_r_0]; exact (Below.refl _ _).alloc (Nat.le_refl _) _
  have HBw_r_0 := Lib.hid (Below.step HB.out bw_r_0)
  clear bw_r_0
  have kr_0_0 : w_r_0.cell? ⟨w.heap.size, 0, none⟩ = some (.int .i64 r_0_zone) := by rw [← hw_r_0]; exact box_new _ _ _ 0 _ rfl
  have kr_0_1 : w_r_0.cell? ⟨w.heap.size, 1, none⟩ = some (.int .i64 r_0_grams) := by rw [← hw_r_0]; exact box_new _ _ _ 1 _ rfl
  have kr_0_2 : w_r_0.cell? ⟨w.heap.size, 2, none⟩ = some (.int .i64 r_0_from_) := by rw [← hw_r_0]; exact box_new _ _ _ 2 _ rfl
  have kr_0_3 : w_r_0.cell? ⟨w.heap.size, 3, none⟩ = some (.int .i64 r_0_until_) := by rw [← hw_r_0]; exact box_new _ _ _ 3 _ rfl
  have kr_0_4 : w_r_0.cell? ⟨w.heap.size, 4, none⟩ = some (.int .i64 r_0_cents) := by rw [← hw_r_0]; exact box_new _ _ _ 4 _ rfl
  replace H := let_hid H
  obtain ⟨t_4, ht_4, H⟩ := H
  replace H := let_hid H
  obtain ⟨t_7, ht_7, H⟩ := H
  replace H := let_hid H
  obtain ⟨t_8, ht_8, H⟩ := H
  replace H := let_hid H
  obtain ⟨t_11, ht_11, H⟩ := H
  obtain rfl := ret_hid H
  go_wp2_with fail
  go_ret
  exact ⟨rfl, HBw_r_0.out⟩
end Go.Proofs.Ytlljmgphgmklcaa.GsL8Code

/- Chapter 8: rates: the plain functions of the program and of the reference agree, and the laws answer true. (Q8Rate) No condition but those of each theorem. -/
namespace Go.Proofs.Ytlljmgphgmklcaa.Q8Rate
set_option linter.unusedVariables false
set_option linter.unusedSimpArgs false
open Go.RowKit
open Go.Proofs.Ytlljmgphgmklcaa.GoP Go.Proofs.Ytlljmgphgmklcaa.PlainStamp Go.Proofs.Ytlljmgphgmklcaa.QBase Go.Proofs.Ytlljmgphgmklcaa.QLoop Go.Proofs.Ytlljmgphgmklcaa.PRate Go.Proofs.Ytlljmgphgmklcaa.PrateClass

theorem isZone_eq (n : Int) : GiIsZone.P n = some (inB n 0 9) := by simp only [GiIsZone.P, within_eq, Option.bind_some]
theorem isWeight_eq (n : Int) : GiIsWeight.P n = some (inB n 1 2000) := by simp only [GiIsWeight.P, within_eq, Option.bind_some]
theorem isRateCents_eq (n : Int) : GiIsRateCents.P n = some (inB n 1 9999) := by simp only [GiIsRateCents.P, within_eq, Option.bind_some]
theorem isDay_eq (n : Int) : GiIsDay.P n = some (inB n 0 4000) := by simp only [GiIsDay.P, within_eq, Option.bind_some]
theorem l8Zone_eq (n : Int) : GsL8Zone.P n = some (inB n 0 9) := by simp only [GsL8Zone.P, l1In_eq, Option.bind_some]
theorem l8Grams_eq (n : Int) : GsL8Grams.P n = some (inB n 1 2000) := by simp only [GsL8Grams.P, l1In_eq, Option.bind_some]
theorem l8Cents_eq (n : Int) : GsL8Cents.P n = some (inB n 1 9999) := by simp only [GsL8Cents.P, l1In_eq, Option.bind_some]
theorem l2Day_eq (n : Int) : GsL2Day.P n = some (inB n 0 4000) := by simp only [GsL2Day.P, l1In_eq, Option.bind_some]
def okR (x : Rate) : Bool := inB x.zone 0 9 && inB x.grams 1 2000 && inB x.cents 1 9999 && inB x.from_ 0 4000 && inB x.until_ 0 4000 && decide (x.from_ ≤ x.until_)
theorem isRate_eq (x : Rate) : GiIsRate.P x = some (okR x) := by
  obtain ⟨a, b, c, d, e⟩ := x
  simp only [GiIsRate.P, unRate, isZone_eq, isWeight_eq, isRateCents_eq, isDay_eq, Option.bind_some, letK, joinK, appK, iteK_if, okR]
  cases inB a 0 9 <;> cases inB b 1 2000 <;> cases inB e 1 9999 <;> cases inB c 0 4000 <;> cases inB d 0 4000 <;> simp
theorem l8One_eq (x : Rate) : GsL8One.P x = some (okR x) := by
  obtain ⟨a, b, c, d, e⟩ := x
  have hx : (inB d 0 4000 && inB c 0 d) = (inB c 0 4000 && inB d 0 4000 && decide (c ≤ d)) := by unfold inB; rw [Bool.eq_iff_iff]; simp; omega
  have hy : okR ⟨a, b, c, d, e⟩ = (inB a 0 9 && inB b 1 2000 && (inB d 0 4000 && inB c 0 d) && inB e 1 9999) := by
    rw [hx]; unfold okR
    cases inB a 0 9 <;> cases inB b 1 2000 <;> cases inB e 1 9999 <;> simp
  rw [hy]
  simp only [GsL8One.P, unRate, l8Zone_eq, l8Grams_eq, l8Cents_eq, l2Day_eq, l1In_eq, Option.bind_some, letK, joinK, appK, iteK_if]
  cases inB a 0 9 <;> cases inB b 1 2000 <;> cases inB d 0 4000 <;> cases inB c 0 d <;> simp
theorem okR_of {x : Rate} (h : okR x = true) : (0 ≤ x.zone ∧ x.zone ≤ 9) ∧ (1 ≤ x.grams ∧ x.grams ≤ 2000) ∧ (1 ≤ x.cents ∧ x.cents ≤ 9999) ∧ (0 ≤ x.from_ ∧ x.from_ ≤ x.until_ ∧ x.until_ ≤ 4000) := by
  unfold okR at h
  simp only [Bool.and_eq_true, decide_eq_true_eq] at h
  have h1 := inB_of h.1.1.1.1.1
  have h2 := inB_of h.1.1.1.1.2
  have h3 := inB_of h.1.1.1.2
  have h4 := inB_of h.1.1.2
  have h5 := inB_of h.1.2
  omega
def linkR (a b : Rate) : Bool := if a.zone = b.zone ∧ a.grams = b.grams then decide (a.until_ < b.from_) else decide (a.zone < b.zone ∨ a.zone = b.zone ∧ a.grams < b.grams)
theorem compare_eq (x y : Int) : GxCmpCompareInt.P x y = some (if x < y then -1 else if y < x then 1 else 0) := by
  simp only [GxCmpCompareInt.P, GxCmpIsNaNInt.P, Option.bind_some, letK, iteK_if]
  by_cases h : x < y <;> by_cases h2 : y < x <;> simp [h, h2]
theorem or_eq (a b : Int) : GxCmpOrInt.P [a, b] = some (if a = 0 then b else a) := by
  have h0 : idx [a, b] ((0 : Nat) : Int) = some a := rfl
  have h1 : idx [a, b] ((1 : Nat) : Int) = some b := rfl
  show cntK (GxCmpOrInt.l0 [a, b]) 2 0 () GxCmpOrInt.e0 = _
  simp only [cntK, GxCmpOrInt.l0, h0, h1, Option.bind_some, letK, iteK_if, appK, GxCmpOrInt.e0, Nat.zero_add]
  by_cases ha : a = 0 <;> by_cases hb : b = 0 <;> simp [ha, hb]
theorem canFollow_eq (b a : Rate) : GiCanFollow.P b a = some (linkR a b) := by
  obtain ⟨z, g, f, u, c⟩ := b
  obtain ⟨z2, g2, f2, u2, c2⟩ := a
  simp only [GiCanFollow.P, unRate, unrateClass, GiClassOf.P, Option.bind_some, letK, iteK_if, compare_eq, or_eq, linkR]
  by_cases h1 : z = z2
  · subst h1
    by_cases h2 : g = g2
    · subst h2; simp
    · have h3 : ¬ g2 = g := fun h => h2 h.symm
      by_cases h4 : g2 < g
      · simp [h2, h3, h4]
      · by_cases h5 : g < g2
        · simp [h2, h3, h4, h5]
        · omega
  · have h3 : ¬ z2 = z := fun h => h1 h.symm
    by_cases h4 : z2 < z
    · simp [h1, h3, h4]
    · by_cases h5 : z < z2
      · simp [h1, h3, h4, h5]
      · omega
def codeR (x : Rate) : Int := (10000 * x.zone + x.grams) * 10000 + x.from_
theorem l8Code_eq {x : Rate} (h : okR x = true) : GsL8Code.P x = some (codeR x) := by
  have h1 := okR_of h
  obtain ⟨a, b, c, d, e⟩ := x
  dsimp only at h1
  simp only [GsL8Code.P, unRate, letK, codeR]
  rw [wrap_in (x := 10000 * a) (by omega) (by omega), wrap_in (x := 10000 * a + b) (by omega) (by omega), wrap_in (x := (10000 * a + b) * 10000) (by omega) (by omega), wrap_in (by omega) (by omega)]
theorem link_code {a b : Rate} (ha : okR a = true) (hb : okR b = true) : linkR a b = (decide (codeR a < codeR b) && !(decide (a.zone = b.zone) && decide (a.grams = b.grams) && decide (b.from_ ≤ a.until_))) := by
  have h1 := okR_of ha
  have h2 := okR_of hb
  unfold linkR codeR
  rw [Bool.eq_iff_iff]
  split
  · simp; omega
  · simp; omega
end Go.Proofs.Ytlljmgphgmklcaa.Q8Rate

/- Chapter 9: mails and routes: the plain functions of the program and of the reference agree, and the laws answer true. (QCmp) No condition but those of each theorem. -/
namespace Go.Proofs.Ytlljmgphgmklcaa.QCmp
set_option linter.unusedVariables false
set_option linter.unusedSimpArgs false
open Go.RowKit
open Go.Proofs.Ytlljmgphgmklcaa.GoP Go.Proofs.Ytlljmgphgmklcaa.PlainStamp Go.Proofs.Ytlljmgphgmklcaa.QBase Go.Proofs.Ytlljmgphgmklcaa.QLoop

def cmpI (x y : Int) : Int := if x < y then -1 else if y < x then 1 else 0
theorem cmp_eq (x y : Int) : GxCmpCompareInt.P x y = some (cmpI x y) := by
  simp only [GxCmpCompareInt.P, GxCmpIsNaNInt.P, Option.bind_some, letK, iteK_if, cmpI]
  by_cases h1 : x < y
  · simp [h1]
  · by_cases h2 : y < x <;> simp [h1, h2]
theorem or_eq (a b c d : Int) : GxCmpOrInt.P [a, b, c, d] = some (if a != 0 then a else if b != 0 then b else if c != 0 then c else d) := by
  have st : ∀ m k fin, cntK (GxCmpOrInt.l0 [a, b, c, d]) (m + 1) k () fin = GxCmpOrInt.l0 [a, b, c, d] k () (fun s' => cntK (GxCmpOrInt.l0 [a, b, c, d]) m (k + 1) s' fin) fin := fun _ _ _ => rfl
  show cntK (GxCmpOrInt.l0 [a, b, c, d]) (3 + 1) 0 () (GxCmpOrInt.e0) = _
  rw [st]
  simp only [GxCmpOrInt.l0, show idx [a, b, c, d] ((0 : Nat) : Int) = some a from rfl, Option.bind_some, letK, appK, iteK_if]
  by_cases ha : (a != 0) = true
  · rw [if_pos ha, if_pos ha]
  · rw [if_neg ha, if_neg ha]
    show cntK (GxCmpOrInt.l0 [a, b, c, d]) (2 + 1) 1 () (GxCmpOrInt.e0) = _
    rw [st]
    simp only [GxCmpOrInt.l0, show idx [a, b, c, d] ((1 : Nat) : Int) = some b from rfl, Option.bind_some, letK, appK, iteK_if]
    by_cases hb : (b != 0) = true
    · rw [if_pos hb, if_pos hb]
    · rw [if_neg hb, if_neg hb]
      show cntK (GxCmpOrInt.l0 [a, b, c, d]) (1 + 1) 2 () (GxCmpOrInt.e0) = _
      rw [st]
      simp only [GxCmpOrInt.l0, show idx [a, b, c, d] ((2 : Nat) : Int) = some c from rfl, Option.bind_some, letK, appK, iteK_if]
      by_cases hc : (c != 0) = true
      · rw [if_pos hc, if_pos hc]
      · rw [if_neg hc, if_neg hc]
        show cntK (GxCmpOrInt.l0 [a, b, c, d]) (0 + 1) 3 () (GxCmpOrInt.e0) = _
        rw [st]
        simp only [GxCmpOrInt.l0, show idx [a, b, c, d] ((3 : Nat) : Int) = some d from rfl, Option.bind_some, letK, appK, iteK_if]
        by_cases hd : (d != 0) = true
        · rw [if_pos hd]
        · rw [if_neg hd]
          have : d = 0 := by simpa using hd
          rw [this]; rfl
end Go.Proofs.Ytlljmgphgmklcaa.QCmp

/- Chapter 9: mails and routes: the plain functions of the program and of the reference agree, and the laws answer true. (Q9Mail) No condition but those of each theorem. -/
namespace Go.Proofs.Ytlljmgphgmklcaa.Q9Mail
set_option linter.unusedVariables false
set_option linter.unusedSimpArgs false
open Go.RowKit
open Go.Proofs.Ytlljmgphgmklcaa.GoP Go.Proofs.Ytlljmgphgmklcaa.PlainStamp Go.Proofs.Ytlljmgphgmklcaa.QBase Go.Proofs.Ytlljmgphgmklcaa.QCmp Go.Proofs.Ytlljmgphgmklcaa.QLoop Go.Proofs.Ytlljmgphgmklcaa.PMail

theorem isMinute_eq (n : Int) : GiIsMinute.P n = some (inB n 0 9999) := by simp only [GiIsMinute.P, within_eq, Option.bind_some]
theorem isOffice_eq (n : Int) : GiIsPostOffice.P n = some (inB n 0 9) := by simp only [GiIsPostOffice.P, within_eq, Option.bind_some]
theorem l9Office_eq (n : Int) : GsL9Office.P n = some (inB n 0 9) := by simp only [GsL9Office.P, l1In_eq, Option.bind_some]
theorem l9Minute_eq (n : Int) : GsL9Minute.P n = some (inB n 0 9999) := by simp only [GsL9Minute.P, l1In_eq, Option.bind_some]
def okM (x : Mail) : Bool := inB x.from_ 0 9 && inB x.to_ 0 9 && (x.from_ != x.to_) && inB x.leave 0 9999 && inB x.arrive 0 9999 && decide (x.leave < x.arrive)
theorem isMail_eq (x : Mail) : GiIsMail.P x = some (okM x) := by
  obtain ⟨a, b, c, d⟩ := x
  simp only [GiIsMail.P, unMail, isMinute_eq, isOffice_eq, Option.bind_some, letK, joinK, appK, iteK_if, okM]
  cases inB b 0 9 <;> cases inB c 0 9 <;> cases (b != c) <;> cases inB a 0 9999 <;> cases inB d 0 9999 <;> simp
theorem l9One_eq (x : Mail) : GsL9One.P x = some (okM x) := by
  obtain ⟨a, b, c, d⟩ := x
  have hx : (inB d 0 9999 && inB a 0 (d - 1)) = (inB a 0 9999 && inB d 0 9999 && decide (a < d)) := by unfold inB; rw [Bool.eq_iff_iff]; simp; omega
  have hy : okM ⟨a, b, c, d⟩ = (inB b 0 9 && inB c 0 9 && (b != c) && (inB d 0 9999 && inB a 0 (d - 1))) := by
    rw [hx]; unfold okM
    cases inB b 0 9 <;> cases inB c 0 9 <;> cases (b != c) <;> simp
  rw [hy]
  simp only [GsL9One.P, unMail, l9Office_eq, l9Minute_eq, l1In_eq, Option.bind_some, letK, joinK, appK, iteK_if]
  cases hd : inB d 0 9999 with
  | false => cases inB b 0 9 <;> cases inB c 0 9 <;> cases (b != c) <;> simp
  | true =>
    have h := inB_of hd
    rw [wrap_in (by omega) (by omega)]
    cases inB b 0 9 <;> cases inB c 0 9 <;> cases (b != c) <;> simp
theorem okM_of {x : Mail} (h : okM x = true) : (0 ≤ x.from_ ∧ x.from_ ≤ 9) ∧ (0 ≤ x.to_ ∧ x.to_ ≤ 9) ∧ x.from_ ≠ x.to_ ∧ (0 ≤ x.leave ∧ x.leave < x.arrive ∧ x.arrive ≤ 9999) := by
  unfold okM at h
  simp only [Bool.and_eq_true, decide_eq_true_eq, bne_iff_ne] at h
  have h1 := inB_of h.1.1.1.1.1
  have h2 := inB_of h.1.1.1.1.2
  have h3 := inB_of h.1.1.2
  have h4 := inB_of h.1.2
  exact ⟨h1, h2, h.1.1.1.2, h3.1, h.2, h4.2⟩
def codeM (x : Mail) : Int := ((x.leave * 10 + x.from_) * 10 + x.to_) * 10000 + x.arrive
def ltM (a b : Mail) : Bool := decide (codeM a < codeM b)
theorem code_eq {x : Mail} (h : okM x = true) : GsL9Code.P x = some (codeM x) := by
  obtain ⟨h1, h2, _, h3⟩ := okM_of h
  obtain ⟨a, b, c, d⟩ := x
  dsimp only at h1 h2 h3
  simp only [GsL9Code.P, unMail, letK, codeM]
  rw [wrap_in (x := a * 10) (by omega) (by omega), wrap_in (x := a * 10 + b) (by omega) (by omega), wrap_in (x := (a * 10 + b) * 10) (by omega) (by omega), wrap_in (x := (a * 10 + b) * 10 + c) (by omega) (by omega), wrap_in (x := ((a * 10 + b) * 10 + c) * 10000) (by omega) (by omega), wrap_in (by omega) (by omega)]
theorem compare_eq {a b : Mail} (ha : okM a = true) (hb : okM b = true) : ∃ c, GiCompareMails.P a b = some c ∧ (0 ≤ c ↔ codeM b ≤ codeM a) := by
  have h1 := okM_of ha
  have h2 := okM_of hb
  obtain ⟨a, x, c, y⟩ := a
  obtain ⟨a', x', c', y'⟩ := b
  dsimp only at h1 h2
  simp only [GiCompareMails.P, unMail, cmp_eq, Option.bind_some, letK, or_eq]
  refine ⟨_, rfl, ?_⟩
  unfold cmpI codeM
  dsimp only
  by_cases p1 : a < a'
  · simp [p1]; omega
  · by_cases p2 : a' < a
    · simp [p1, p2]; omega
    · obtain rfl : a = a' := by omega
      by_cases p3 : x < x'
      · simp [p3]; omega
      · by_cases p4 : x' < x
        · simp [p3, p4]; omega
        · obtain rfl : x = x' := by omega
          by_cases p5 : c < c'
          · simp [p5]; omega
          · by_cases p6 : c' < c
            · simp [p5, p6]; omega
            · obtain rfl : c = c' := by omega
              by_cases p7 : y < y'
              · simp [p7]
              · by_cases p8 : y' < y
                · simp [p7, p8]; omega
                · simp [p7, p8]; omega
end Go.Proofs.Ytlljmgphgmklcaa.Q9Mail

/- Chapter 10: covers: the plain functions of the program and of the reference agree, and the laws answer true. (Q10Cover) No condition but those of each theorem. -/
namespace Go.Proofs.Ytlljmgphgmklcaa.Q10Cover
set_option linter.unusedVariables false
set_option linter.unusedSimpArgs false
open Go.RowKit
open Go.Proofs.Ytlljmgphgmklcaa.GoP Go.Proofs.Ytlljmgphgmklcaa.PlainStamp Go.Proofs.Ytlljmgphgmklcaa.QBase Go.Proofs.Ytlljmgphgmklcaa.Q8Rate Go.Proofs.Ytlljmgphgmklcaa.Q9Mail Go.Proofs.Ytlljmgphgmklcaa.QLoop Go.Proofs.Ytlljmgphgmklcaa.PCover

def okC (x : Cover) : Bool := inB x.id 1 999 && inB x.day 0 4000 && inB x.zone 0 9 && inB x.grams 1 2000 && inB x.paid 1 9999 && inB x.from_ 0 9 && inB x.to_ 0 9 && (x.from_ != x.to_) && inB x.leave 0 9999 && inB x.arrive 0 9999 && decide (x.leave ≤ x.arrive)
theorem isCover_eq (x : Cover) : GiIsCover.P x = some (okC x) := by
  obtain ⟨a, b, c, d, e, f, g, h, i⟩ := x
  simp only [GiIsCover.P, unCover, within_eq, isDay_eq, isZone_eq, isWeight_eq, isRateCents_eq, isOffice_eq, isMinute_eq, Option.bind_some, letK, joinK, appK, iteK_if, okC]
  cases inB a 1 999 <;> cases inB b 0 4000 <;> cases inB c 0 9 <;> cases inB d 1 2000 <;> cases inB e 1 9999 <;> cases inB f 0 9 <;> cases inB g 0 9 <;> simp
  all_goals by_cases hfg : f = g <;> cases inB h 0 9999 <;> cases inB i 0 9999 <;> simp [hfg]
theorem l10One_eq (x : Cover) : GsL10One.P x = some (okC x) := by
  obtain ⟨a, b, c, d, e, f, g, h, i⟩ := x
  have hh : inB h 0 i = (inB h 0 9999 && inB i 0 9999 && decide (h ≤ i)) ∨ inB i 0 9999 = false := by
    unfold inB
    by_cases hi : 0 ≤ i ∧ i ≤ 9999
    · left; rw [Bool.eq_iff_iff]; simp; omega
    · right; simp; omega
  simp only [GsL10One.P, unCover, l1In_eq, l2Day_eq, l8Zone_eq, l8Grams_eq, l8Cents_eq, l9Office_eq, l9Minute_eq, Option.bind_some, letK, joinK, appK, iteK_if, okC]
  cases inB a 1 999 <;> cases inB b 0 4000 <;> cases inB c 0 9 <;> cases inB d 1 2000 <;> cases inB e 1 9999 <;> cases inB f 0 9 <;> cases inB g 0 9 <;> simp
  all_goals
    by_cases hfg : f = g
    · simp [hfg]
    · rcases hh with hh | hh
      · rw [hh]; cases inB h 0 9999 <;> cases inB i 0 9999 <;> simp [hfg]
      · simp [hh]
theorem okC_of {x : Cover} (h : okC x = true) : (1 ≤ x.id ∧ x.id ≤ 999) ∧ (0 ≤ x.day ∧ x.day ≤ 4000) ∧ (1 ≤ x.paid ∧ x.paid ≤ 9999) ∧ (0 ≤ x.from_ ∧ x.from_ ≤ 9) ∧ (0 ≤ x.to_ ∧ x.to_ ≤ 9) ∧ x.from_ ≠ x.to_ ∧ (0 ≤ x.leave ∧ x.leave ≤ x.arrive ∧ x.arrive ≤ 9999) := by
  simp only [okC, Bool.and_eq_true, decide_eq_true_eq, bne_iff_ne] at h
  obtain ⟨⟨⟨⟨⟨⟨⟨⟨⟨⟨h1, h2⟩, h3⟩, h4⟩, h5⟩, h6⟩, h7⟩, h8⟩, h9⟩, h10⟩, h11⟩ := h
  have := inB_of h1; have := inB_of h2; have := inB_of h5; have := inB_of h6; have := inB_of h7; have := inB_of h9; have := inB_of h10
  refine ⟨by omega, by omega, by omega, by omega, by omega, h8, by omega⟩
def okCs (l : List Cover) : Bool := upL 10 okC Cover.id l
theorem areCovers_eq (l : List Cover) : GiAreCovers.P l = some (okCs l) := by
  simp only [GiAreCovers.P, GiAreByKeyCoverIntiIsCoveriIdOfCover.P, letK, iteK_if]
  by_cases hl : l.length ≤ 10
  · rw [if_neg (by simp; omega), up_loop (ok := okC) (id := Cover.id) (no := false)]
    · unfold okCs upL; cases upTo okC Cover.id l l.length <;> simp [hl, GiAreByKeyCoverIntiIsCoveriIdOfCover.e0]
    · intro k nx s hs
      have hi : idx l (k : Int) = some s := by rw [idx_nat, hs]
      have hk : k < l.length := (List.getElem?_eq_some_iff.1 hs).1
      simp only [GiAreByKeyCoverIntiIsCoveriIdOfCover.l0, hi, Option.bind_some, unCover, isCover_eq, GiIdOfCover.P, letK, joinK, appK, iteK_if]
      refine ⟨fun h => by simp [h], fun h => ⟨fun h0 => by subst h0; simp [h], fun h0 r hr => ?_⟩⟩
      rw [idx_pred h0 (by omega) hr]
      have hk0 : (0 : Int) < (k : Int) := by omega
      have hk1 : ¬ k = 0 := by omega
      exact ⟨fun hlt => by (have hc : ¬ s.id ≤ r.id := by omega); simp [h, hk0, hk1, hc], fun hge => by simp [h, hk0, hk1, hge]⟩
  · rw [if_pos (by simp; omega)]; unfold okCs upL; simp [hl]
theorem l10Good_eq (l : List Cover) (hl : l.length ≤ 9223372036854775807) : GsL10Good.P l = some (okCs l) := by
  simp only [GsL10Good.P]
  rw [up_loop (ok := okC) (id := Cover.id) (no := false)]
  · unfold okCs upL; cases upTo okC Cover.id l l.length <;> simp [GsL10Good.e0, letK]; omega
  · intro k nx s hs
    have hi : idx l (k : Int) = some s := by rw [idx_nat, hs]
    have hk : k < l.length := (List.getElem?_eq_some_iff.1 hs).1
    simp only [GsL10Good.l0, hi, Option.bind_some, unCover, l10One_eq, letK, joinK, appK, iteK_if]
    refine ⟨fun h => by simp [h], fun h => ⟨fun h0 => by subst h0; simp [h], fun h0 r hr => ?_⟩⟩
    rw [idx_pred h0 (by omega) hr]
    have hk0 : (0 : Int) < (k : Int) := by omega
    have hk1 : ¬ k = 0 := by omega
    exact ⟨fun hlt => by (have hc : ¬ s.id ≤ r.id := by omega); simp [h, hk0, hk1, hc], fun hge => by simp [h, hk0, hk1, hge]⟩
theorem cs_mem {l : List Cover} (h : okCs l = true) {x : Cover} (hx : x ∈ l) : okC x = true := upL_mem h hx
theorem cs_len {l : List Cover} (h : okCs l = true) : l.length ≤ 10 := upL_len h
end Go.Proofs.Ytlljmgphgmklcaa.Q10Cover

/- Chapter 8: rates: the plain functions of the program and of the reference agree, and the laws answer true. (QFold) No condition but those of each theorem. -/
namespace Go.Proofs.Ytlljmgphgmklcaa.QFold
set_option linter.unusedVariables false
set_option linter.unusedSimpArgs false
open Go.RowKit
open Go.Proofs.Ytlljmgphgmklcaa.GoP Go.Proofs.Ytlljmgphgmklcaa.PlainStamp Go.Proofs.Ytlljmgphgmklcaa.QBase Go.Proofs.Ytlljmgphgmklcaa.QLoop

theorem fold_loop {α σ R : Type} {l : List α} {g : σ → α → σ} {f : Nat → σ → (σ → Option R) → (σ → Option R) → Option R} {fin : σ → Option R} (s0 : σ)
    (step : ∀ k nx x s, l[k]? = some x → f k s nx fin = nx (g s x)) : cntK f l.length 0 s0 fin = fin (l.foldl g s0) := by
  have key : ∀ m k s, k + m = l.length → cntK f m k s fin = fin ((l.drop k).foldl g s) := by
    intro m
    induction m with
    | zero => intro k s hk; rw [List.drop_of_length_le (by omega)]; rfl
    | succ m ih =>
      intro k s hk
      obtain ⟨x, hx, _⟩ := at_lt (l := l) (k := k) (by omega)
      obtain ⟨hlt, e⟩ := List.getElem?_eq_some_iff.1 hx
      show f k s _ fin = _
      rw [step k _ x s hx, ih (k + 1) _ (by omega), List.drop_eq_getElem_cons hlt, e]; rfl
  exact key l.length 0 s0 (by omega)
theorem find_val {α R : Type} {l : List α} {p : α → Bool} {f : Nat → Unit → (Unit → Option R) → (Unit → Option R) → Option R} {fin : Unit → Option R} {yes : α → Option R}
    (step : ∀ k nx x, l[k]? = some x → f k () nx fin = if p x = true then yes x else nx ()) : cntK f l.length 0 () fin = match l.find? p with | some x => yes x | none => fin () := by
  have key : ∀ m k, k + m = l.length → cntK f m k () fin = match (l.drop k).find? p with | some x => yes x | none => fin () := by
    intro m
    induction m with
    | zero => intro k hk; rw [List.drop_of_length_le (by omega)]; rfl
    | succ m ih =>
      intro k hk
      obtain ⟨x, hx, _⟩ := at_lt (l := l) (k := k) (by omega)
      obtain ⟨hlt, e⟩ := List.getElem?_eq_some_iff.1 hx
      show f k () _ fin = _
      rw [step k _ x hx, List.drop_eq_getElem_cons hlt, e, List.find?_cons]
      cases hp : p x with
      | true => simp
      | false => simp only [Bool.false_eq_true, if_false]; exact ih (k + 1) (by omega)
  exact key l.length 0 (by omega)
theorem find_congr {α : Type} {l : List α} {p q : α → Bool} (h : ∀ x ∈ l, p x = q x) : l.find? p = l.find? q := by
  induction l with
  | nil => rfl
  | cons x l ih => rw [List.find?_cons, List.find?_cons, h x (by simp), ih (fun y hy => h y (by simp [hy]))]
end Go.Proofs.Ytlljmgphgmklcaa.QFold

/- Lists of valid records in strictly rising order of any kind; texts in the order of their bytes. (QOrd) No condition but those of each theorem. -/
namespace Go.Proofs.Ytlljmgphgmklcaa.QOrd
set_option linter.unusedVariables false
set_option linter.unusedSimpArgs false
open Go.RowKit
open Go.Proofs.Ytlljmgphgmklcaa.GoP Go.Proofs.Ytlljmgphgmklcaa.PlainStamp Go.Proofs.Ytlljmgphgmklcaa.QBase Go.Proofs.Ytlljmgphgmklcaa.QLoop

/-- texts in the order of their bytes -/
def bl (a b : ByteArray) : Bool := Op.bytesLess a.toList b.toList
theorem bl_self' : ∀ x, Op.bytesLess x x = false
  | [] => rfl
  | a :: x => by
    have h1 : ¬ a < a := fun k => by rw [UInt8.lt_iff_toNat_lt] at k; omega
    simp [Op.bytesLess, h1, bl_self' x]
theorem bl_total' : ∀ x y, x ≠ y → Op.bytesLess x y = !(Op.bytesLess y x)
  | [], [], h => absurd rfl h
  | [], b :: y, _ => by simp [Op.bytesLess]
  | a :: x, [], _ => by simp [Op.bytesLess]
  | a :: x, b :: y, h => by
    by_cases hab : a = b
    · subst hab
      have h1 : ¬ a < a := fun k => by rw [UInt8.lt_iff_toNat_lt] at k; omega
      have := bl_total' x y (fun e => h (by rw [e]))
      simp [Op.bytesLess, h1, this]
    · have hne : a.toNat ≠ b.toNat := fun e => hab (UInt8.toNat_inj.1 e)
      by_cases hlt : a < b
      · have h2 : ¬ b < a := fun k => by rw [UInt8.lt_iff_toNat_lt] at k hlt; omega
        simp [Op.bytesLess, hlt, h2, Ne.symm hab]
      · have h2 : b < a := by rw [UInt8.lt_iff_toNat_lt] at hlt ⊢; omega
        simp [Op.bytesLess, hlt, h2, hab]
theorem bl_trans' : ∀ x y z, Op.bytesLess x y = true → Op.bytesLess y z = true → Op.bytesLess x z = true
  | [], _, [], h1, h2 => by rename_i y; cases y <;> simp [Op.bytesLess] at h1 h2
  | [], _, c :: z, _, _ => by simp [Op.bytesLess]
  | a :: x, [], _, h1, _ => by simp [Op.bytesLess] at h1
  | a :: x, b :: y, [], _, h2 => by simp [Op.bytesLess] at h2
  | a :: x, b :: y, c :: z, h1, h2 => by
    simp only [Op.bytesLess, Bool.or_eq_true, decide_eq_true_eq, Bool.and_eq_true, beq_iff_eq] at h1 h2 ⊢
    rcases h1 with h1 | ⟨rfl, h1⟩
    · rcases h2 with h2 | ⟨rfl, h2⟩
      · left; rw [UInt8.lt_iff_toNat_lt] at h1 h2 ⊢; omega
      · left; exact h1
    · rcases h2 with h2 | ⟨rfl, h2⟩
      · left; exact h2
      · right; exact ⟨rfl, bl_trans' x y z h1 h2⟩
theorem list_inj {a b : ByteArray} (h : a.toList = b.toList) : a = b := by
  rw [Lib.toList_data, Lib.toList_data] at h
  cases a; cases b; congr 1; exact Array.toList_inj.1 h
theorem bl_self (a : ByteArray) : bl a a = false := bl_self' _
theorem bl_total {a b : ByteArray} (h : a ≠ b) : bl a b = !(bl b a) := bl_total' _ _ (fun e => h (list_inj e))
theorem bl_trans {a b c : ByteArray} (h1 : bl a b = true) (h2 : bl b c = true) : bl a c = true := bl_trans' _ _ _ h1 h2
theorem bl_asymm {a b : ByteArray} (h : bl a b = true) : bl b a = false := by
  by_cases e : a = b
  · rw [e]; exact bl_self b
  · rw [bl_total e] at h; simpa using h
theorem bl_ne {a b : ByteArray} (h : bl a b = true) : a ≠ b := fun e => by rw [e, bl_self] at h; exact absurd h (by simp)
/-- 'not above', as the program asks it -/
theorem bl_le (a b : ByteArray) : (Op.bytesLess a.toList b.toList || a.toList == b.toList) = !(bl b a) := by
  by_cases e : a = b
  · subst e; rw [bl_self]; simp
  · have h1 : (a.toList == b.toList) = false := by rw [beq_eq_false_iff_ne]; exact fun h => e (list_inj h)
    rw [h1, Bool.or_false]; exact bl_total e
theorem bl_lt (a b : ByteArray) : Op.bytesLess a.toList b.toList = bl a b := rfl
theorem eq_list (a b : ByteArray) : (a.toList == b.toList) = decide (a = b) := by
  by_cases e : a = b
  · subst e; simp
  · rw [decide_eq_false e, beq_eq_false_iff_ne]; exact fun h => e (list_inj h)

/-- valid, and behind the one ahead of it -/
def riseAt {α : Type} (ok : α → Bool) (lt : α → α → Bool) (l : List α) (k : Nat) : Bool :=
  match l[k]? with
  | none => true
  | some s => ok s && (decide (k = 0) || (match l[k-1]? with | none => true | some r => lt r s))
def riseTo {α : Type} (ok : α → Bool) (lt : α → α → Bool) (l : List α) (k : Nat) : Bool := (List.range k).all (riseAt ok lt l)
theorem riseTo_zero {α : Type} (ok : α → Bool) (lt : α → α → Bool) (l : List α) : riseTo ok lt l 0 = true := rfl
theorem riseTo_succ {α : Type} (ok : α → Bool) (lt : α → α → Bool) (l : List α) (k : Nat) : riseTo ok lt l (k + 1) = (riseTo ok lt l k && riseAt ok lt l k) := by simp [riseTo, List.range_succ, List.all_append]
theorem riseTo_not {α : Type} {ok : α → Bool} {lt : α → α → Bool} {l : List α} {k n : Nat} (h : riseAt ok lt l k = false) (hk : k < n) : riseTo ok lt l n = false := by
  unfold riseTo
  rw [Bool.eq_false_iff]
  intro ha
  have := List.all_eq_true.1 ha k (List.mem_range.2 hk)
  rw [h] at this; exact absurd this (by simp)
def riseL {α : Type} (m : Nat) (ok : α → Bool) (lt : α → α → Bool) (l : List α) : Bool := decide (l.length ≤ m) && riseTo ok lt l l.length
theorem riseAt_bad {α : Type} {ok : α → Bool} {lt : α → α → Bool} {l : List α} {k : Nat} {s : α} (hs : l[k]? = some s) (h : ok s = false) : riseAt ok lt l k = false := by unfold riseAt; rw [hs]; simp [h]
theorem riseAt_first {α : Type} {ok : α → Bool} {lt : α → α → Bool} {l : List α} {s : α} (hs : l[0]? = some s) (h : ok s = true) : riseAt ok lt l 0 = true := by unfold riseAt; rw [hs]; simp [h]
theorem riseAt_next {α : Type} {ok : α → Bool} {lt : α → α → Bool} {l : List α} {k : Nat} {s r : α} (hs : l[k]? = some s) (hr : l[k-1]? = some r) (hk : 0 < k) (h : ok s = true) : riseAt ok lt l k = lt r s := by
  unfold riseAt; rw [hs]; simp only [hr, h, Bool.true_and, decide_eq_false (show ¬ k = 0 by omega), Bool.false_or]
theorem riseL_len {α : Type} {m : Nat} {ok : α → Bool} {lt : α → α → Bool} {l : List α} (h : riseL m ok lt l = true) : l.length ≤ m := by unfold riseL at h; simp only [Bool.and_eq_true, decide_eq_true_eq] at h; exact h.1
theorem riseTo_at {α : Type} {ok : α → Bool} {lt : α → α → Bool} {l : List α} {n : Nat} (h : riseTo ok lt l n = true) {k : Nat} (hk : k < n) : riseAt ok lt l k = true := List.all_eq_true.1 h k (List.mem_range.2 hk)
theorem riseL_ok {α : Type} {m : Nat} {ok : α → Bool} {lt : α → α → Bool} {l : List α} (h : riseL m ok lt l = true) {k : Nat} {s : α} (hs : l[k]? = some s) : ok s = true := by
  unfold riseL at h
  simp only [Bool.and_eq_true, decide_eq_true_eq] at h
  have := riseTo_at h.2 (List.getElem?_eq_some_iff.1 hs).1
  unfold riseAt at this
  rw [hs] at this
  simp only [Bool.and_eq_true] at this
  exact this.1
theorem riseL_mem {α : Type} {m : Nat} {ok : α → Bool} {lt : α → α → Bool} {l : List α} (h : riseL m ok lt l = true) {s : α} (hs : s ∈ l) : ok s = true := by
  obtain ⟨k, hk⟩ := List.getElem?_of_mem hs
  exact riseL_ok h hk
theorem riseL_step {α : Type} {m : Nat} {ok : α → Bool} {lt : α → α → Bool} {l : List α} (h : riseL m ok lt l = true) {k : Nat} {x y : α} (hx : l[k]? = some x) (hy : l[k + 1]? = some y) : lt x y = true := by
  unfold riseL at h
  simp only [Bool.and_eq_true, decide_eq_true_eq] at h
  have := riseTo_at h.2 (List.getElem?_eq_some_iff.1 hy).1
  unfold riseAt at this
  rw [hy] at this
  simp only [Nat.add_sub_cancel, hx, Bool.and_eq_true, Bool.or_eq_true, decide_eq_true_eq] at this
  rcases this.2 with h0 | h0
  · omega
  · exact h0
theorem riseL_lt {α : Type} {m : Nat} {ok : α → Bool} {lt : α → α → Bool} (tr : ∀ a b c, lt a b = true → lt b c = true → lt a c = true) {l : List α} (h : riseL m ok lt l = true) {i j : Nat} {x y : α} (hij : i < j) (hx : l[i]? = some x) (hy : l[j]? = some y) : lt x y = true := by
  obtain ⟨d, rfl⟩ : ∃ d, j = i + d + 1 := ⟨j - i - 1, by omega⟩
  clear hij
  induction d generalizing y with
  | zero => exact riseL_step h hx hy
  | succ d ih =>
    obtain ⟨z, hz, _⟩ := at_lt (l := l) (k := i + d + 1) (by have := (List.getElem?_eq_some_iff.1 hy).1; omega)
    exact tr _ _ _ (ih hz) (riseL_step (k := i + d + 1) h hz (by rw [← hy]; rfl))
/-- a loop that goes through a list of records and stops with 'no' at the first that is bad -/
theorem rise_loop {α : Type} {ok : α → Bool} {lt : α → α → Bool} {l : List α} {R : Type} {no : R} {f : Nat → Unit → (Unit → Option R) → (Unit → Option R) → Option R} {fin : Unit → Option R}
    (step : ∀ k nx s, l[k]? = some s → (ok s = false → f k () nx fin = some no) ∧ (ok s = true → (k = 0 → f k () nx fin = nx ()) ∧ (0 < k → ∀ r, l[k-1]? = some r → (lt r s = true → f k () nx fin = nx ()) ∧ (lt r s = false → f k () nx fin = some no)))) :
    cntK f l.length 0 () fin = if riseTo ok lt l l.length then fin () else some no := by
  have key : ∀ m k, k + m = l.length → riseTo ok lt l k = true → cntK f m k () fin = if riseTo ok lt l l.length then fin () else some no := by
    intro m
    induction m with
    | zero => intro k hk hu; obtain rfl : k = l.length := by omega
              rw [hu]; rfl
    | succ m ih =>
      intro k hk hu
      have hlt : k < l.length := by omega
      obtain ⟨s, hs, _⟩ := at_lt hlt
      obtain ⟨h1, h2⟩ := step k (fun s' => cntK f m (k + 1) s' fin) s hs
      show f k () _ fin = _
      cases hok : ok s with
      | false => rw [h1 hok, riseTo_not (riseAt_bad hs hok) hlt]; rfl
      | true =>
        obtain ⟨h3, h4⟩ := h2 hok
        by_cases hk0 : k = 0
        · rw [h3 hk0]
          subst hk0
          exact ih 1 (by omega) (by rw [riseTo_succ, hu, riseAt_first hs hok]; rfl)
        · obtain ⟨r, hr, _⟩ := at_lt (l := l) (k := k - 1) (by omega)
          obtain ⟨h5, h6⟩ := h4 (by omega) r hr
          cases hl : lt r s with
          | true =>
            rw [h5 hl]
            exact ih (k + 1) (by omega) (by rw [riseTo_succ, hu, riseAt_next hs hr (by omega) hok, hl]; rfl)
          | false => rw [h6 hl, riseTo_not (by rw [riseAt_next hs hr (by omega) hok, hl]) hlt]; rfl
  exact key l.length 0 (by omega) (riseTo_zero ok lt l)
end Go.Proofs.Ytlljmgphgmklcaa.QOrd

/- Chapter 8: rates: the plain functions of the program and of the reference agree, and the laws answer true. (QRiseL) No condition but those of each theorem. -/
namespace Go.Proofs.Ytlljmgphgmklcaa.QRiseL
set_option linter.unusedVariables false
set_option linter.unusedSimpArgs false
open Go.RowKit
open Go.Proofs.Ytlljmgphgmklcaa.GoP Go.Proofs.Ytlljmgphgmklcaa.PlainStamp Go.Proofs.Ytlljmgphgmklcaa.QBase Go.Proofs.Ytlljmgphgmklcaa.QOrd Go.Proofs.Ytlljmgphgmklcaa.QLoop

/-- the same, for a loop that counts by itself and stops behind m: the list may be longer than m -/
theorem rise_lp {α R : Type} {ok : α → Bool} {lt : α → α → Bool} {l : List α} {m : Nat} {no : R} {yes : Option R} {f : Int → (Int → Option R) → (Int → Option R) → Option R} {fin : Int → Option R}
    (stop : ∀ (k : Nat) nx, (l.length ≤ k ∨ m < k) → k ≤ l.length → k ≤ m + 1 → f (k : Int) nx fin = fin (k : Int))
    (end_ : ∀ k : Int, fin k = if l.length ≤ m then yes else some no)
    (step : ∀ (k : Nat) nx s, k ≤ m → l[k]? = some s → (ok s = false → f (k : Int) nx fin = some no) ∧ (ok s = true → (k = 0 → f (k : Int) nx fin = nx ((k + 1 : Nat) : Int)) ∧ (0 < k → ∀ r, l[k-1]? = some r → ok r = true → (lt r s = true → f (k : Int) nx fin = nx ((k + 1 : Nat) : Int)) ∧ (lt r s = false → f (k : Int) nx fin = some no)))) :
    ∀ fuel k, m + 1 - k < fuel → k ≤ l.length → k ≤ m + 1 → riseTo ok lt l k = true → loopK f fuel (k : Int) fin = if riseL m ok lt l = true then yes else some no := by
  intro fuel
  induction fuel with
  | zero => intro k h; omega
  | succ n ih =>
    intro k hf hk hm hu
    show f (k : Int) (fun s' => loopK f n s' fin) fin = _
    by_cases hs : l.length ≤ k ∨ m < k
    · rw [stop k _ hs hk hm, end_]
      by_cases hl : l.length ≤ m
      · obtain rfl : k = l.length := by omega
        rw [if_pos hl, if_pos (by unfold riseL; simp [hl, hu])]
      · rw [if_neg hl, if_neg (by unfold riseL; simp [hl])]
    · have hlt : k < l.length := by omega
      obtain ⟨s, hs', _⟩ := at_lt hlt
      obtain ⟨h1, h2⟩ := step k (fun s' => loopK f n s' fin) s (by omega) hs'
      have bad : riseAt ok lt l k = false → riseL m ok lt l = false := by
        intro h; unfold riseL; rw [riseTo_not h hlt, Bool.and_false]
      cases hok : ok s with
      | false => rw [h1 hok, bad (riseAt_bad hs' hok)]; rfl
      | true =>
        obtain ⟨h3, h4⟩ := h2 hok
        by_cases hk0 : k = 0
        · rw [h3 hk0]
          subst hk0
          exact ih 1 (by omega) (by omega) (by omega) (by rw [riseTo_succ, hu, riseAt_first hs' hok]; rfl)
        · obtain ⟨r, hr, _⟩ := at_lt (l := l) (k := k - 1) (by omega)
          have hokr : ok r = true := by
            have := riseTo_at hu (k := k - 1) (by omega)
            unfold riseAt at this; rw [hr] at this
            simp only [Bool.and_eq_true] at this; exact this.1
          obtain ⟨h5, h6⟩ := h4 (by omega) r hr hokr
          cases hl : lt r s with
          | true =>
            rw [h5 hl]
            exact ih (k + 1) (by omega) (by omega) (by omega) (by rw [riseTo_succ, hu, riseAt_next hs' hr (by omega) hok, hl]; rfl)
          | false => rw [h6 hl, bad (by rw [riseAt_next hs' hr (by omega) hok, hl])]; rfl
/-- what each step gives holds between any two -/
theorem riseL_rel {α : Type} {m : Nat} {ok : α → Bool} {lt : α → α → Bool} (rel : α → α → Prop) (st : ∀ a b, ok a = true → ok b = true → lt a b = true → rel a b) (tr : ∀ a b c, rel a b → rel b c → rel a c) {l : List α} (h : riseL m ok lt l = true) {i j : Nat} {x y : α} (hij : i < j) (hx : l[i]? = some x) (hy : l[j]? = some y) : rel x y := by
  obtain ⟨d, rfl⟩ : ∃ d, j = i + d + 1 := ⟨j - i - 1, by omega⟩
  clear hij
  induction d generalizing y with
  | zero => exact st _ _ (riseL_ok h hx) (riseL_ok h hy) (riseL_step h hx hy)
  | succ d ih =>
    obtain ⟨z, hz, _⟩ := at_lt (l := l) (k := i + d + 1) (by have := (List.getElem?_eq_some_iff.1 hy).1; omega)
    exact tr _ _ _ (ih hz) (st _ _ (riseL_ok h hz) (riseL_ok h hy) (riseL_step (k := i + d + 1) h hz (by rw [← hy]; rfl)))
end Go.Proofs.Ytlljmgphgmklcaa.QRiseL

/- The record Rate as data that comes in, and a slice of it. No condition. -/
namespace Go.Proofs.Ytlljmgphgmklcaa.ORate
set_option linter.unusedVariables false
set_option maxRecDepth 100000
open Go.Joins Go.ChangeShapes Go.WideShapes Go.RowKit Go.Deep
open Go.Proofs.Ytlljmgphgmklcaa.Rowed Go.Proofs.Ytlljmgphgmklcaa.OpenAny Go.Proofs.Ytlljmgphgmklcaa.PRate

/-- the slice 'A, n' reads as the records l -/
abbrev Rates (w : World) (A : Option Addr) (n : Nat) (l : List Rate) : Prop := Cells w 5 A n (flat l)
theorem at_ {w : World} {A : Option Addr} {n k : Nat} {l : List Rate} (h : Rates w A n l) (hk : k < n) :
    ∃ (b o : Nat) (s : Rate), A = some ⟨b, o, none⟩ ∧ l[k]? = some s ∧ w.cell? ⟨b, o + k * 5, none⟩ = some (.int .i64 s.zone) ∧ w.cell? ⟨b, o + k * 5 + 1, none⟩ = some (.int .i64 s.grams) ∧ w.cell? ⟨b, o + k * 5 + 2, none⟩ = some (.int .i64 s.from_) ∧ w.cell? ⟨b, o + k * 5 + 3, none⟩ = some (.int .i64 s.until_) ∧ w.cell? ⟨b, o + k * 5 + 4, none⟩ = some (.int .i64 s.cents) := by
  have hl : k < l.length := by have := h.1; rw [flat_len] at this; omega
  obtain ⟨⟨b, o, sp⟩, e, hc⟩ := h.2 (by rw [flat_len]; omega)
  have h0 := hc 0 _ (flat_at l 0 l[0] (List.getElem?_eq_getElem (by omega)) 0 (by omega))
  obtain rfl : sp = none := cell_spot (b := b) (o := o) h0
  have hs := List.getElem?_eq_getElem hl
  have f := flat_at l k _ hs
  have g := fun j u hu => add_none b o j ▸ hc j u hu
  exact ⟨b, o, l[k], e, hs, g _ _ (f 0 (by omega)), g _ _ (f 1 (by omega)), g _ _ (f 2 (by omega)), g _ _ (f 3 (by omega)), g _ _ (f 4 (by omega))⟩
theorem len_of {w : World} {A : Option Addr} {n : Nat} {l : List Rate} (h : Rates w A n l) : l.length = n := by
  have := h.1
  rw [flat_len] at this; omega

/-- a slice of records that came in: the list that it reads as -/
structure Came (w : World) (A : Option Addr) (len cap : Nat) (l : List Rate) : Prop where
  cells : Rates w A len l
  small : len ≤ maxLen
  fits : ∀ s ∈ l, s.fits
theorem Came.len {w : World} {A : Option Addr} {len cap : Nat} {l : List Rate} (h : Came w A len cap l) : l.length = len := len_of h.cells

section
variable {H : Type} {enc : TypeId × Value → H} {w : World} {base : Nat} {spare : Nat → Bool} {held : Bool}
theorem read_one {n : Nat} {cs : List Value} {x : DataW H × List MemPlace} (h : DataW.trod enc Try.prog w base spare held n 106 cs = some x) : ∃ s : Rate, cs = s.cells ∧ s.fits := by
  have hc : Try.prog.cellsOf 106 = 5 := by kernel_rfl
  obtain ⟨hl, hf⟩ := read_fields Try.underlying106 (by kernel_rfl) hc h
  rw [hc] at hl
  match cs, hl with
  | [v0, v1, v2, v3, v4], _ =>
    obtain ⟨u0, n0, y0, eu0, t0⟩ := hf 0 _ rfl
    obtain ⟨x0, e0, _, f0⟩ := DataW.trod_int Try.underlying3 t0
    obtain rfl : v0 = u0 := by simpa using eu0
    obtain rfl : v0 = .int .i64 x0 := by simpa using e0
    obtain ⟨u1, n1, y1, eu1, t1⟩ := hf 1 _ rfl
    obtain ⟨x1, e1, _, f1⟩ := DataW.trod_int Try.underlying3 t1
    obtain rfl : v1 = u1 := by simpa using eu1
    obtain rfl : v1 = .int .i64 x1 := by simpa using e1
    obtain ⟨u2, n2, y2, eu2, t2⟩ := hf 2 _ rfl
    obtain ⟨x2, e2, _, f2⟩ := DataW.trod_int Try.underlying3 t2
    obtain rfl : v2 = u2 := by simpa using eu2
    obtain rfl : v2 = .int .i64 x2 := by simpa using e2
    obtain ⟨u3, n3, y3, eu3, t3⟩ := hf 3 _ rfl
    obtain ⟨x3, e3, _, f3⟩ := DataW.trod_int Try.underlying3 t3
    obtain rfl : v3 = u3 := by simpa using eu3
    obtain rfl : v3 = .int .i64 x3 := by simpa using e3
    obtain ⟨u4, n4, y4, eu4, t4⟩ := hf 4 _ rfl
    obtain ⟨x4, e4, _, f4⟩ := DataW.trod_int Try.underlying3 t4
    obtain rfl : v4 = u4 := by simpa using eu4
    obtain rfl : v4 = .int .i64 x4 := by simpa using e4
    exact ⟨⟨x0, x1, x2, x3, x4⟩, rfl, f0, f1, f2, f3, f4⟩
theorem open_one {r : Reach} {b0 : Nat} {v : Value} {d : DataW H} {p : List MemPlace} (hv : Value.okWide Try.prog w r b0 106 v) (h : DataW.Trod enc Try.prog w base spare held 106 v d p) :
    ∃ s : Rate, v = s.val ∧ s.fits := by
  obtain ⟨cs, n, x, rfl, ht⟩ := agg_any Try.underlying106 hv h
  obtain ⟨s, e, hs⟩ := read_one ht
  refine ⟨s, ?_, hs⟩
  obtain ⟨l⟩ := cs
  obtain rfl : l = s.cells := by simpa using e
  rfl
end
theorem open_field {H : Type} {enc : TypeId × Value → H} {W : World} {fuel : Nat} {u : Value} {y : DataW H × List MemPlace}
    (hf : DataW.trod enc Try.prog W 0 (fun _ => true) true fuel 35 [u] = some y) : ∃ (a : Option Addr) (len cap : Nat) (l : List Rate), u = .slice a len cap ∧ Came W a len cap l := by
  have ck : Try.prog.cellsOf 106 = 5 := by kernel_rfl
  rcases open_slice Try.underlying35 hf with ⟨hcs, _⟩ | ⟨x, ln, cp, m, n, D, Pl, hcs, hb, hl, hm, hmm, _, hi⟩
  · obtain rfl : u = .slice none 0 0 := by simpa using hcs
    exact ⟨none, 0, 0, [], rfl, Cells.nil_ _ _ _, by unfold maxLen; omega, by intro s hs; simp at hs⟩
  · obtain rfl : u = .slice (some x) ln cp := by simpa using hcs
    simp only [if_true] at hmm
    subst hmm
    rw [ck] at hi
    obtain ⟨l, hll, hp⟩ := list_of (fun k s => Rate.fits s ∧ ∀ j, j < 5 → W.cell? (x.add (k * 5 + j)) = s.cells[j]?) ln (fun k hk => by
      obtain ⟨cs', hc, ht⟩ := hi k (by omega)
      obtain ⟨s, rfl, hfit⟩ := read_one ht
      refine ⟨s, hfit, fun j hj => ?_⟩
      have := (World.cells?_some hc).2.2 j hj
      rw [Go.Deep.add_add] at this
      exact this)
    refine ⟨some x, ln, _, l, rfl, ⟨by rw [flat_len, hll], fun h0 => ⟨x, rfl, fun j u hu => ?_⟩⟩, by omega, fun s hs => ?_⟩
    · have hj : j < (flat l).length := (List.getElem?_eq_some_iff.1 hu).1
      rw [flat_len] at hj
      have hk : j / 5 < l.length := by omega
      have e := flat_at l (j / 5) l[j/5] (List.getElem?_eq_getElem hk) (j % 5) (by omega)
      rw [show j / 5 * 5 + j % 5 = j by omega, hu] at e
      have := (hp (j / 5) l[j/5] (List.getElem?_eq_getElem hk)).2 (j % 5) (by omega)
      rw [show j / 5 * 5 + j % 5 = j by omega, ← e] at this
      exact this
    · obtain ⟨k, hk⟩ := List.getElem?_of_mem hs
      exact (hp k s hk).1
theorem open_many {H : Type} {enc : TypeId × Value → H} {W : World} {a : Option Addr} {len cap : Nat} {d : DataW H} {p : List MemPlace}
    (h : DataW.Trod enc Try.prog W 0 (fun _ => true) true 35 (.slice a len cap) d p) : ∃ l : List Rate, Came W a len cap l := by
  obtain ⟨fuel, hf⟩ := h
  obtain ⟨a2, l2, c2, l, e, hl⟩ := open_field (u := .slice a len cap) hf
  simp only [Value.slice.injEq] at e
  obtain ⟨rfl, rfl, rfl⟩ := e
  exact ⟨l, hl⟩

/-- a record that was boxed -/
theorem box_ {w : World} {s : Rate} {g : Nat} (h : Cells w 5 (some ⟨g, 0, none⟩) 1 s.cells) : w.cell? ⟨g, 0, none⟩ = some (.int .i64 s.zone) ∧ w.cell? ⟨g, 1, none⟩ = some (.int .i64 s.grams) ∧ w.cell? ⟨g, 2, none⟩ = some (.int .i64 s.from_) ∧ w.cell? ⟨g, 3, none⟩ = some (.int .i64 s.until_) ∧ w.cell? ⟨g, 4, none⟩ = some (.int .i64 s.cents) := by
  obtain ⟨ad, e, hc⟩ := h.2 (by simp [Rate.cells])
  obtain rfl := Option.some.inj e
  have gg := fun j u hu => add_none g 0 j ▸ hc j u hu
  exact ⟨by simpa using gg 0 _ rfl, by simpa using gg 1 _ rfl, by simpa using gg 2 _ rfl, by simpa using gg 3 _ rfl, by simpa using gg 4 _ rfl⟩
theorem box_new (w : World) (s : Rate) (T : TypeId) : Cells (w.alloc (.cells #[.int .i64 s.zone, .int .i64 s.grams, .int .i64 s.from_, .int .i64 s.until_, .int .i64 s.cents] T)) 5 (some ⟨w.heap.size, 0, none⟩) 1 s.cells :=
  ⟨by simp [Rate.cells], fun _ => ⟨_, rfl, fun j u hu => by
    have hj : j < 5 := by have := (List.getElem?_eq_some_iff.1 hu).1; simpa [Rate.cells] using this
    rw [add_none, World.cell?_alloc_new]
    match j, hj with
    | 0, _ => simpa [Rate.cells] using hu
    | 1, _ => simpa [Rate.cells] using hu
    | 2, _ => simpa [Rate.cells] using hu
    | 3, _ => simpa [Rate.cells] using hu
    | 4, _ => simpa [Rate.cells] using hu
⟩⟩
end Go.Proofs.Ytlljmgphgmklcaa.ORate

/- loop.example/g01062/impl.AreRates as a plain function, and the contract of the program's: where the plain one has an answer, the program has it. Conditions: slices read as lists. -/
namespace Go.Proofs.Ytlljmgphgmklcaa.GiAreRates
set_option linter.unusedVariables false
set_option linter.unusedSimpArgs false
open Go.RowKit
open Go.Proofs.Ytlljmgphgmklcaa.Rowed Go.Proofs.Ytlljmgphgmklcaa.Turn Go.Proofs.Ytlljmgphgmklcaa.Aid Go.Proofs.Ytlljmgphgmklcaa.GoP Go.Proofs.Ytlljmgphgmklcaa.GoM

def l0 (list : (List Go.Proofs.Ytlljmgphgmklcaa.PRate.Rate)) (k0 : Nat) (s : Unit) (nx0 bk0 : Unit → Option (Bool)) : Option (Bool) :=
  
  Option.bind (idx list (k0 : Int)) fun (yt_10 : Go.Proofs.Ytlljmgphgmklcaa.PRate.Rate) =>
  unRate yt_10 fun (t_10_zone : Int) (t_10_grams : Int) (t_10_from_ : Int) (t_10_until_ : Int) (t_10_cents : Int) =>
  Option.bind (Go.Proofs.Ytlljmgphgmklcaa.GiIsRate.P (Go.Proofs.Ytlljmgphgmklcaa.PRate.Rate.mk t_10_zone t_10_grams t_10_from_ t_10_until_ t_10_cents)) fun (t_16 : Bool) =>
  letK (!t_16) fun (t_17 : Bool) =>
  joinK (fun (t_31 : Bool) =>
  iteK t_31
  (some false)
  (appK nx0 ())) fun jt_31 => iteK t_17 (appK jt_31 true) (letK (decide (0 < (k0 : Int))) fun (t_20 : Bool) =>
  joinK (fun (t_30 : Bool) =>
  appK jt_31 t_30) fun jt_30 => iteK t_20 (letK (IntKind.i64.wrap ((k0 : Int) - 1)) fun (t_25 : Int) =>
  Option.bind (idx list t_25) fun (yt_26 : Go.Proofs.Ytlljmgphgmklcaa.PRate.Rate) =>
  unRate yt_26 fun (t_26_zone : Int) (t_26_grams : Int) (t_26_from_ : Int) (t_26_until_ : Int) (t_26_cents : Int) =>
  Option.bind (Go.Proofs.Ytlljmgphgmklcaa.GiCanFollow.P (Go.Proofs.Ytlljmgphgmklcaa.PRate.Rate.mk t_10_zone t_10_grams t_10_from_ t_10_until_ t_10_cents) (Go.Proofs.Ytlljmgphgmklcaa.PRate.Rate.mk t_26_zone t_26_grams t_26_from_ t_26_until_ t_26_cents)) fun (t_28 : Bool) =>
  letK (!t_28) fun (t_29 : Bool) =>
  appK jt_30 t_29) (appK jt_30 false))

def e0  (s : Unit) : Option (Bool) :=
  
  some true

def P (list : (List Go.Proofs.Ytlljmgphgmklcaa.PRate.Rate)) : Option (Bool) :=
  letK (decide (16 < (list.length : Int))) fun (t_3 : Bool) =>
  iteK t_3
  (some false)
  (cntK (l0 list) (list.length) 0 () (e0 ))

set_option maxRecDepth 100000 in
set_option maxHeartbeats 2000000 in
theorem C (list : (List Go.Proofs.Ytlljmgphgmklcaa.PRate.Rate)) (A0 : Option Addr) (c0 : Nat)  (w : World) (M0 : Hid (Cells w 5 A0 list.length (Go.Proofs.Ytlljmgphgmklcaa.PRate.flat list))) (N0 : Hid (list.length ≤ 9223372036854775807))  {r : Bool} (H : Hid (P list = some r)) :
    Calls Try.prog 67 #[.slice A0 list.length c0] w (Gives (.bool r) w) := by
  have HB := Lib.hid (Below.refl w.heap.size w)
  unfold P at H
  have N0o := N0.out
  go_enter Try.func67, Try.ntmps67
  replace H := let_hid H
  obtain ⟨t_3, ht_3, H⟩ := H
  cases t_3 with
  | false =>
    have nht_3 : ¬ (16 < list.length) := by have := of_decide_eq_false ht_3; omega
    replace H := ite_f H
    go_wp2_with fail
    go_loopg [10] (list.length) (fun m_ v10_ wr => ∃ (k0 : Nat) , k0 + m_ = list.length ∧ v10_ = .int .i64 (k0 : Int) ∧ Hid (cntK (l0 list) m_ k0 () (e0 ) = some r) ∧ Hid (Below w.heap.size w wr))
    case atStart => exact ⟨0, by omega, rfl, H, HB⟩
    case round =>
      obtain ⟨k0, hkm0, rfl, H, HBwr0⟩ := hrel
      rename World => wr0
      cases gk with
      | zero =>
        obtain rfl : k0 = list.length := by omega
        have hc0 : decide (((list.length : Nat) : Int) < ((list.length : Nat) : Int)) = false := by simp
        replace H := cnt_zero H
        unfold e0 at H
        obtain rfl := ret_hid H
        go_wp2_with fail
        go_ret
        exact ⟨rfl, HBwr0.out⟩
      | succ m0 =>
        have hlt0 : k0 < list.length := by omega
        have hc0 : decide ((k0 : Int) < ((list.length : Nat) : Int)) = true := by simp; omega
        replace H := cnt_succ H
        unfold l0 at H
        replace H := idx_hid H
        obtain ⟨nt_10, yt_10, et_10, lt_10, gt_10, H⟩ := H
        obtain rfl : k0 = nt_10 := by omega
        clear et_10
        obtain ⟨t_10_zone, t_10_grams, t_10_from_, t_10_until_, t_10_cents⟩ := yt_10
        replace H := unRate_hid H
        obtain ⟨ab_t_10, ao_t_10, zt_10, At_10, z_t_10, ct_10_0, ct_10_1, ct_10_2, ct_10_3, ct_10_4⟩ := Go.Proofs.Ytlljmgphgmklcaa.ORate.at_ M0.out lt_10
        obtain rfl := Option.some.inj (gt_10.out.symm.trans z_t_10)
        subst At_10
        have ltt_10 := cell_lt ct_10_0
        replace ct_10_0 := cell_below HBwr0.out ct_10_0
        replace ct_10_1 := cell_below HBwr0.out ct_10_1
        replace ct_10_2 := cell_below HBwr0.out ct_10_2
        replace ct_10_3 := cell_below HBwr0.out ct_10_3
        replace ct_10_4 := cell_below HBwr0.out ct_10_4
        clear z_t_10
        have b0t_10 : (0 : Int) ≤ (k0 : Int) := by omega
        have b1t_10 : (k0 : Int) < ((list.length : Nat) : Int) := by omega
        have b2t_10 : ((k0 : Int)).toNat = k0 := by omega
        obtain ⟨w_r_12, hw_r_12⟩ : ∃ x, wr0.alloc (.cells #[.int .i64 t_10_zone, .int .i64 t_10_grams, .int .i64 t_10_from_, .int .i64 t_10_until_, .int .i64 t_10_cents] 104) = x := ⟨_, rfl⟩
        have bw_r_12 : Below wr0.heap.size wr0 w_r_12 := by rw [← hw_r_12]; exact (Below.refl _ _).alloc (Nat.le_refl _) _
        have HBw_r_12 := Lib.hid (Below.step HBwr0.out bw_r_12)
        have ct_10_0__790 := cell_below bw_r_12 ct_10_0
        have ct_10_1__791 := cell_below bw_r_12 ct_10_1
        have ct_10_2__792 := cell_below bw_r_12 ct_10_2
        have ct_10_3__793 := cell_below bw_r_12 ct_10_3
        have ct_10_4__794 := cell_below bw_r_12 ct_10_4
        clear bw_r_12
        have kr_12_0 : w_r_12.cell? ⟨wr0.heap.size, 0, none⟩ = some (.int .i64 t_10_zone) := by rw [← hw_r_12]; exact box_new _ _ _ 0 _ rfl
        have kr_12_1 : w_r_12.cell? ⟨wr0.heap.size, 1, none⟩ = some (.int .i64 t_10_grams) := by rw [← hw_r_12]; exact box_new _ _ _ 1 _ rfl
        have kr_12_2 : w_r_12.cell? ⟨wr0.heap.size, 2, none⟩ = some (.int .i64 t_10_from_) := by rw [← hw_r_12]; exact box_new _ _ _ 2 _ rfl
        have kr_12_3 : w_r_12.cell? ⟨wr0.heap.size, 3, none⟩ = some (.int .i64 t_10_until_) := by rw [← hw_r_12]; exact box_new _ _ _ 3 _ rfl
        have kr_12_4 : w_r_12.cell? ⟨wr0.heap.size, 4, none⟩ = some (.int .i64 t_10_cents) := by rw [← hw_r_12]; exact box_new _ _ _ 4 _ rfl
        go_wp2_with fail
        clear ct_10_0 ct_10_1 ct_10_2 ct_10_3 ct_10_4
        have Hct_10_0__790 := Lib.hid ct_10_0__790
        replace ct_10_0__790 := cell_regrown ct_10_0__790
        have Hct_10_1__791 := Lib.hid ct_10_1__791
        replace ct_10_1__791 := cell_regrown ct_10_1__791
        have Hct_10_2__792 := Lib.hid ct_10_2__792
        replace ct_10_2__792 := cell_regrown ct_10_2__792
        have Hct_10_3__793 := Lib.hid ct_10_3__793
        replace ct_10_3__793 := cell_regrown ct_10_3__793
        have Hct_10_4__794 := Lib.hid ct_10_4__794
        replace ct_10_4__794 := cell_regrown ct_10_4__794
        have Hkr_12_0 := Lib.hid kr_12_0
        replace kr_12_0 := cell_regrown kr_12_0
        have Hkr_12_1 := Lib.hid kr_12_1
        replace kr_12_1 := cell_regrown kr_12_1
        have Hkr_12_2 := Lib.hid kr_12_2
        replace kr_12_2 := cell_regrown kr_12_2
        have Hkr_12_3 := Lib.hid kr_12_3
        replace kr_12_3 := cell_regrown kr_12_3
        have Hkr_12_4 := Lib.hid kr_12_4
        replace kr_12_4 := cell_regrown kr_12_4
        replace H := bind_hid H
        obtain ⟨t_16, qt_16, H⟩ := H
        have nt_16 : ∀ d os, Calls Try.prog 132 #[.agg #[.int .i64 t_10_zone, .int .i64 t_10_grams, .int .i64 t_10_from_, .int .i64 t_10_until_, .int .i64 t_10_cents]] (Go.Sort.grow (redrawn w_r_12 d) os) fun e w'' => e = .returned (.bool t_16) ∧ ∃ p : Regrown, w'' = Go.Sort.grow (redrawn w_r_12 p.d) p.os := fun d os => Calls.regrown_of (Go.Proofs.Ytlljmgphgmklcaa.GiIsRate.C ((Go.Proofs.Ytlljmgphgmklcaa.PRate.Rate.mk t_10_zone t_10_grams t_10_from_ t_10_until_ t_10_cents))  _    qt_16)
        cases t_16 with
        | false =>
          replace H := let_hid H
          obtain ⟨t_17, ht_17, H⟩ := H
          obtain rfl : t_17 = true := ht_17.symm
          replace H := join_hid H
          replace H := ite_t H
          replace H := app_hid H
          refine wp_region_quiet_below (by kernel_rfl) (by kernel_rfl) ?_
          repeat (go_big_quiet_step (first | (go_at_call 132; exact nt_16 _ _)))
          refine wpQuiet_nil ?_
          intro Y6 hY6
          replace hY6 := below_class hY6
          clear nt_16
          replace ct_10_0__790 := Hct_10_0__790.out
          clear Hct_10_0__790
          replace ct_10_1__791 := Hct_10_1__791.out
          clear Hct_10_1__791
          replace ct_10_2__792 := Hct_10_2__792.out
          clear Hct_10_2__792
          replace ct_10_3__793 := Hct_10_3__793.out
          clear Hct_10_3__793
          replace ct_10_4__794 := Hct_10_4__794.out
          clear Hct_10_4__794
          replace kr_12_0 := Hkr_12_0.out
          clear Hkr_12_0
          replace kr_12_1 := Hkr_12_1.out
          clear Hkr_12_1
          replace kr_12_2 := Hkr_12_2.out
          clear Hkr_12_2
          replace kr_12_3 := Hkr_12_3.out
          clear Hkr_12_3
          replace kr_12_4 := Hkr_12_4.out
          clear Hkr_12_4
          have HBY6 := Lib.hid (Below.step HBw_r_12.out hY6)
          replace ct_10_0__790 := cell_below hY6 ct_10_0__790
          replace ct_10_1__791 := cell_below hY6 ct_10_1__791
          replace ct_10_2__792 := cell_below hY6 ct_10_2__792
          replace ct_10_3__793 := cell_below hY6 ct_10_3__793
          replace ct_10_4__794 := cell_below hY6 ct_10_4__794
          replace kr_12_0 := cell_below hY6 kr_12_0
          replace kr_12_1 := cell_below hY6 kr_12_1
          replace kr_12_2 := cell_below hY6 kr_12_2
          replace kr_12_3 := cell_below hY6 kr_12_3
          replace kr_12_4 := cell_below hY6 kr_12_4
          clear hY6
          replace H := ite_t H
          obtain rfl := ret_hid H
          go_wp2_with fail
          go_ret
          exact ⟨rfl, HBY6.out⟩
        | true =>
          replace H := let_hid H
          obtain ⟨t_17, ht_17, H⟩ := H
          obtain rfl : t_17 = false := ht_17.symm
          replace H := join_hid H
          replace H := ite_f H
          replace H := let_hid H
          obtain ⟨t_20, ht_20, H⟩ := H
          replace H := join_hid H
          cases t_20 with
          | false =>
            have nht_20 : ¬ (0 < k0) := by have := of_decide_eq_false ht_20; omega
            replace H := ite_f H
            replace H := app_hid H
            replace H := app_hid H
            refine wp_region_quiet_below (by kernel_rfl) (by kernel_rfl) ?_
            repeat (go_big_quiet_step (first | (go_at_call 132; exact nt_16 _ _)))
            refine wpQuiet_nil ?_
            intro Y6 hY6
            replace hY6 := below_class hY6
            clear nt_16
            replace ct_10_0__790 := Hct_10_0__790.out
            clear Hct_10_0__790
            replace ct_10_1__791 := Hct_10_1__791.out
            clear Hct_10_1__791
            replace ct_10_2__792 := Hct_10_2__792.out
            clear Hct_10_2__792
            replace ct_10_3__793 := Hct_10_3__793.out
            clear Hct_10_3__793
            replace ct_10_4__794 := Hct_10_4__794.out
            clear Hct_10_4__794
            replace kr_12_0 := Hkr_12_0.out
            clear Hkr_12_0
            replace kr_12_1 := Hkr_12_1.out
            clear Hkr_12_1
            replace kr_12_2 := Hkr_12_2.out
            clear Hkr_12_2
            replace kr_12_3 := Hkr_12_3.out
            clear Hkr_12_3
            replace kr_12_4 := Hkr_12_4.out
            clear Hkr_12_4
            have HBY6 := Lib.hid (Below.step HBw_r_12.out hY6)
            replace ct_10_0__790 := cell_below hY6 ct_10_0__790
            replace ct_10_1__791 := cell_below hY6 ct_10_1__791
            replace ct_10_2__792 := cell_below hY6 ct_10_2__792
            replace ct_10_3__793 := cell_below hY6 ct_10_3__793
            replace ct_10_4__794 := cell_below hY6 ct_10_4__794
            replace kr_12_0 := cell_below hY6 kr_12_0
            replace kr_12_1 := cell_below hY6 kr_12_1
            replace kr_12_2 := cell_below hY6 kr_12_2
            replace kr_12_3 := cell_below hY6 kr_12_3
            replace kr_12_4 := cell_below hY6 kr_12_4
            clear hY6
            replace H := ite_f H
            replace H := app_hid H
            go_wp2_with fail
            go_roundg m0
            case measure => omega
            case rel => exact ⟨k0 + 1, by omega, by go_num, H, HBY6⟩
          | true =>
            have nht_20 : 0 < k0 := by have := of_decide_eq_true ht_20; omega
            replace H := ite_t H
            replace H := let_hid H
            obtain ⟨t_25, ht_25, H⟩ := H
            replace H := idx_hid H
            obtain ⟨nt_26, yt_26, et_26, lt_26, gt_26, H⟩ := H
            subst et_26
            obtain ⟨t_26_zone, t_26_grams, t_26_from_, t_26_until_, t_26_cents⟩ := yt_26
            replace H := unRate_hid H
            obtain ⟨ab_t_26, ao_t_26, zt_26, At_26, z_t_26, ct_26_0, ct_26_1, ct_26_2, ct_26_3, ct_26_4⟩ := Go.Proofs.Ytlljmgphgmklcaa.ORate.at_ M0.out lt_26
            obtain rfl := Option.some.inj (gt_26.out.symm.trans z_t_26)
            simp only [Option.some.injEq, Addr.mk.injEq] at At_26
            obtain ⟨rfl, rfl, _⟩ := At_26
            have ltt_26 := cell_lt ct_26_0
            replace ct_26_0 := cell_below HBw_r_12.out ct_26_0
            replace ct_26_1 := cell_below HBw_r_12.out ct_26_1
            replace ct_26_2 := cell_below HBw_r_12.out ct_26_2
            replace ct_26_3 := cell_below HBw_r_12.out ct_26_3
            replace ct_26_4 := cell_below HBw_r_12.out ct_26_4
            clear z_t_26
            have b0t_26 : (0 : Int) ≤ (nt_26 : Int) := by omega
            have b1t_26 : (nt_26 : Int) < ((list.length : Nat) : Int) := by omega
            have b2t_26 : ((nt_26 : Int)).toNat = nt_26 := by omega
            have Hct_26_0 := Lib.hid ct_26_0
            replace ct_26_0 := cell_regrown ct_26_0
            have Hct_26_1 := Lib.hid ct_26_1
            replace ct_26_1 := cell_regrown ct_26_1
            have Hct_26_2 := Lib.hid ct_26_2
            replace ct_26_2 := cell_regrown ct_26_2
            have Hct_26_3 := Lib.hid ct_26_3
            replace ct_26_3 := cell_regrown ct_26_3
            have Hct_26_4 := Lib.hid ct_26_4
            replace ct_26_4 := cell_regrown ct_26_4
            replace H := bind_hid H
            obtain ⟨t_28, qt_28, H⟩ := H
            have nt_28 : ∀ d os, Calls Try.prog 133 #[.agg #[.int .i64 t_10_zone, .int .i64 t_10_grams, .int .i64 t_10_from_, .int .i64 t_10_until_, .int .i64 t_10_cents], .agg #[.int .i64 t_26_zone, .int .i64 t_26_grams, .int .i64 t_26_from_, .int .i64 t_26_until_, .int .i64 t_26_cents]] (Go.Sort.grow (redrawn w_r_12 d) os) fun e w'' => e = .returned (.bool t_28) ∧ ∃ p : Regrown, w'' = Go.Sort.grow (redrawn w_r_12 p.d) p.os := fun d os => Calls.regrown_of (Go.Proofs.Ytlljmgphgmklcaa.GiCanFollow.C ((Go.Proofs.Ytlljmgphgmklcaa.PRate.Rate.mk t_10_zone t_10_grams t_10_from_ t_10_until_ t_10_cents)) ((Go.Proofs.Ytlljmgphgmklcaa.PRate.Rate.mk t_26_zone t_26_grams t_26_from_ t_26_until_ t_26_cents))  _    qt_28)
            cases t_28 with
            | false =>
              replace H := let_hid H
              obtain ⟨t_29, ht_29, H⟩ := H
              obtain rfl : t_29 = true := ht_29.symm
              replace H := app_hid H
              replace H := app_hid H
              refine wp_region_quiet_below (by kernel_rfl) (by kernel_rfl) ?_
              repeat (go_big_quiet_step (first | (go_at_call 132; exact nt_16 _ _) | (go_at_call 133; exact nt_28 _ _)))
              refine wpQuiet_nil ?_
              intro Y6 hY6
              replace hY6 := below_class hY6
              clear nt_16 nt_28
              replace ct_10_0__790 := Hct_10_0__790.out
              clear Hct_10_0__790
              replace ct_10_1__791 := Hct_10_1__791.out
              clear Hct_10_1__791
              replace ct_10_2__792 := Hct_10_2__792.out
              clear Hct_10_2__792
              replace ct_10_3__793 := Hct_10_3__793.out
              clear Hct_10_3__793
              replace ct_10_4__794 := Hct_10_4__794.out
              clear Hct_10_4__794
              replace kr_12_0 := Hkr_12_0.out
              clear Hkr_12_0
              replace kr_12_1 := Hkr_12_1.out
              clear Hkr_12_1
              replace kr_12_2 := Hkr_12_2.out
              clear Hkr_12_2
              replace kr_12_3 := Hkr_12_3.out
              clear Hkr_12_3
              replace kr_12_4 := Hkr_12_4.out
              clear Hkr_12_4
              replace ct_26_0 := Hct_26_0.out
              clear Hct_26_0
              replace ct_26_1 := Hct_26_1.out
              clear Hct_26_1
              replace ct_26_2 := Hct_26_2.out
              clear Hct_26_2
              replace ct_26_3 := Hct_26_3.out
              clear Hct_26_3
              replace ct_26_4 := Hct_26_4.out
              clear Hct_26_4
              have HBY6 := Lib.hid (Below.step HBw_r_12.out hY6)
              replace ct_10_0__790 := cell_below hY6 ct_10_0__790
              replace ct_10_1__791 := cell_below hY6 ct_10_1__791
              replace ct_10_2__792 := cell_below hY6 ct_10_2__792
              replace ct_10_3__793 := cell_below hY6 ct_10_3__793
              replace ct_10_4__794 := cell_below hY6 ct_10_4__794
              replace kr_12_0 := cell_below hY6 kr_12_0
              replace kr_12_1 := cell_below hY6 kr_12_1
              replace kr_12_2 := cell_below hY6 kr_12_2
              replace kr_12_3 := cell_below hY6 kr_12_3
              replace kr_12_4 := cell_below hY6 kr_12_4
              replace ct_26_0 := cell_below hY6 ct_26_0
              replace ct_26_1 := cell_below hY6 ct_26_1
              replace ct_26_2 := cell_below hY6 ct_26_2
              replace ct_26_3 := cell_below hY6 ct_26_3
              replace ct_26_4 := cell_below hY6 ct_26_4
              clear hY6
              replace H := ite_t H
              obtain rfl := ret_hid H
              go_wp2_with fail
              go_ret
              exact ⟨rfl, HBY6.out⟩
            | true =>
              replace H := let_hid H
              obtain ⟨t_29, ht_29, H⟩ := H
              obtain rfl : t_29 = false := ht_29.symm
              replace H := app_hid H
              replace H := app_hid H
              refine wp_region_quiet_below (by kernel_rfl) (by kernel_rfl) ?_
              repeat (go_big_quiet_step (first | (go_at_call 132; exact nt_16 _ _) | (go_at_call 133; exact nt_28 _ _)))
              refine wpQuiet_nil ?_
              intro Y6 hY6
              replace hY6 := below_class hY6
              clear nt_16 nt_28
              replace ct_10_0__790 := Hct_10_0__790.out
              clear Hct_10_0__790
              replace ct_10_1__791 := Hct_10_1__791.out
              clear Hct_10_1__791
              replace ct_10_2__792 := Hct_10_2__792.out
              clear Hct_10_2__792
              replace ct_10_3__793 := Hct_10_3__793.out
              clear Hct_10_3__793
              replace ct_10_4__794 := Hct_10_4__794.out
              clear Hct_10_4__794
              replace kr_12_0 := Hkr_12_0.out
              clear Hkr_12_0
              replace kr_12_1 := Hkr_12_1.out
              clear Hkr_12_1
              replace kr_12_2 := Hkr_12_2.out
              clear Hkr_12_2
              replace kr_12_3 := Hkr_12_3.out
              clear Hkr_12_3
              replace kr_12_4 := Hkr_12_4.out
              clear Hkr_12_4
              replace ct_26_0 := Hct_26_0.out
              clear Hct_26_0
              replace ct_26_1 := Hct_26_1.out
              clear Hct_26_1
              replace ct_26_2 := Hct_26_2.out
              clear Hct_26_2
              replace ct_26_3 := Hct_26_3.out
              clear Hct_26_3
              replace ct_26_4 := Hct_26_4.out
              clear Hct_26_4
              have HBY6 := Lib.hid (Below.step HBw_r_12.out hY6)
              replace ct_10_0__790 := cell_below hY6 ct_10_0__790
              replace ct_10_1__791 := cell_below hY6 ct_10_1__791
              replace ct_10_2__792 := cell_below hY6 ct_10_2__792
              replace ct_10_3__793 := cell_below hY6 ct_10_3__793
              replace ct_10_4__794 := cell_below hY6 ct_10_4__794
              replace kr_12_0 := cell_below hY6 kr_12_0
              replace kr_12_1 := cell_below hY6 kr_12_1
              replace kr_12_2 := cell_below hY6 kr_12_2
              replace kr_12_3 := cell_below hY6 kr_12_3
              replace kr_12_4 := cell_below hY6 kr_12_4
              replace ct_26_0 := cell_below hY6 ct_26_0
              replace ct_26_1 := cell_below hY6 ct_26_1
              replace ct_26_2 := cell_below hY6 ct_26_2
              replace ct_26_3 := cell_below hY6 ct_26_3
              replace ct_26_4 := cell_below hY6 ct_26_4
              clear hY6
              replace H := ite_f H
              replace H := app_hid H
              go_wp2_with fail
              go_roundg m0
              case measure => omega
              case rel => exact ⟨k0 + 1, by omega, by go_num, H, HBY6⟩
  | true =>
    have nht_3 : 16 < list.length := by have := of_decide_eq_true ht_3; omega
    replace H := ite_t H
    obtain rfl := ret_hid H
    go_wp2_with fail
    go_ret
    exact ⟨rfl, HB.out⟩
end Go.Proofs.Ytlljmgphgmklcaa.GiAreRates

