/- Texts on which the proofs of several laws stand, one behind the other (5 of 13). No condition of their own. -/
import Derived.Test.YtlljmgphgmklcaaChecked
import Derived.Test.YtlljmgphgmklcaaW10P1
import Derived.Test.YtlljmgphgmklcaaW10P4
import Derived.WalkKit
import Derived.Laws.StructEq
import Derived.ChangeKeysEq
import Derived.WalkSpells
import Derived.WalkLawsBesides
import Derived.BigQuiet
import Derived.OwnWalk
import Derived.Deep.LoopGhost
import Derived.Deep.QuietTactic
import Derived.IntWalk
import Derived.Lib.QuietBelow
import Derived.Deep.RegionHeld3
import Derived.Lib.AppendZerosOnto
import Derived.Lib.SliceRun
/- loop.example/g01062/impl.canFollow as a plain function, and the contract of the program's: where the plain one has an answer, the program has it. Conditions: slices read as lists. -/
namespace Go.Proofs.Ytlljmgphgmklcaa.GiCanFollow
set_option linter.unusedVariables false
set_option linter.unusedSimpArgs false
open Go.RowKit
open Go.Proofs.Ytlljmgphgmklcaa.Rowed Go.Proofs.Ytlljmgphgmklcaa.Turn Go.Proofs.Ytlljmgphgmklcaa.Aid Go.Proofs.Ytlljmgphgmklcaa.GoP Go.Proofs.Ytlljmgphgmklcaa.GoM

def P (r_0 : Go.Proofs.Ytlljmgphgmklcaa.PRate.Rate) (before : Go.Proofs.Ytlljmgphgmklcaa.PRate.Rate) : Option (Bool) :=
  unRate r_0 fun (r_0_zone : Int) (r_0_grams : Int) (r_0_from_ : Int) (r_0_until_ : Int) (r_0_cents : Int) =>
  unRate before fun (before_zone : Int) (before_grams : Int) (before_from_ : Int) (before_until_ : Int) (before_cents : Int) =>
  Option.bind (Go.Proofs.Ytlljmgphgmklcaa.GiClassOf.P (Go.Proofs.Ytlljmgphgmklcaa.PRate.Rate.mk r_0_zone r_0_grams r_0_from_ r_0_until_ r_0_cents)) fun (t_4 : Go.Proofs.Ytlljmgphgmklcaa.PrateClass.rateClass) =>
  unrateClass t_4 fun (t_4_zone : Int) (t_4_grams : Int) =>
  Option.bind (Go.Proofs.Ytlljmgphgmklcaa.GiClassOf.P (Go.Proofs.Ytlljmgphgmklcaa.PRate.Rate.mk before_zone before_grams before_from_ before_until_ before_cents)) fun (t_6 : Go.Proofs.Ytlljmgphgmklcaa.PrateClass.rateClass) =>
  unrateClass t_6 fun (t_6_zone : Int) (t_6_grams : Int) =>
  letK (t_4_zone == t_6_zone && t_4_grams == t_6_grams) fun (t_7 : Bool) =>
  iteK t_7
  (letK (decide (before_until_ < r_0_from_)) fun (t_12 : Bool) =>
  some t_12)
  (Option.bind (Go.Proofs.Ytlljmgphgmklcaa.GxCmpCompareInt.P before_zone r_0_zone) fun (t_18 : Int) =>
  Option.bind (Go.Proofs.Ytlljmgphgmklcaa.GxCmpCompareInt.P before_grams r_0_grams) fun (t_23 : Int) =>
  letK ([t_18, t_23]) fun (t_24 : (List Int)) =>
  Option.bind (Go.Proofs.Ytlljmgphgmklcaa.GxCmpOrInt.P t_24) fun (t_25 : Int) =>
  letK (decide (t_25 < 0)) fun (t_26 : Bool) =>
  some t_26)

set_option maxRecDepth 100000
theorem eqr_141 (x0 x1 y0 y1 : Int) : ∀ W, (Op.equalIn 10000 141 (.agg #[Value.int IntKind.i64 x0, Value.int IntKind.i64 x1]) (.agg #[Value.int IntKind.i64 y0, Value.int IntKind.i64 y1])).run Try.prog W = .ok (x0 == y0 && x1 == y1) W := by
  intro W
  rw [run_equalIn_agg W _ _ _ _ (by kernel_rfl) (by kernel_rfl)]
  obtain ⟨f, hf⟩ : ∃ f, (Try.prog.fieldsOf 141).toList = f := ⟨_, rfl⟩
  have : (Try.prog.fieldsOf 141).toList.map (fun f => (f.name, f.type, f.offset)) = [("zone", 3, 0), ("grams", 3, 1)] := by kernel_rfl
  rw [hf] at this ⊢
  match f, this with
  | [f0, f1], h =>
    simp only [List.map_cons, List.map_nil, List.cons.injEq, Prod.mk.injEq, and_true] at h
    obtain ⟨⟨a0, b0, d0⟩, a1, b1, d1⟩ := h
    simp only [Op.eqFields, a0, b0, d0, a1, b1, d1]
    have p0 : ∀ (w : World) (x0 x1 : Int), (part 3 #[Value.int IntKind.i64 x0, Value.int IntKind.i64 x1] 0).run Try.prog w = .ok (.int .i64 x0) w := fun w x0 x1 => run_part_plain w (by kernel_rfl) rfl
    have p1 : ∀ (w : World) (x0 x1 : Int), (part 3 #[Value.int IntKind.i64 x0, Value.int IntKind.i64 x1] 1).run Try.prog w = .ok (.int .i64 x1) w := fun w x0 x1 => run_part_plain w (by kernel_rfl) rfl
    have e0 : ∀ (w : World) (d : Nat) (x y : Int), (Op.equalIn (d + 1) 3 (.int .i64 x) (.int .i64 y)).run Try.prog w = .ok (x == y) w := fun w d x y => run_equalIn_int w d 3 .i64 .i64 x y Try.underlying3
    have e1 : ∀ (w : World) (x y : Int), (Op.equalIn 9999 3 (.int .i64 x) (.int .i64 y)).run Try.prog w = .ok (x == y) w := fun w x y => e0 w 9998 x y
    rw [if_pos (by decide)]; rw [if_pos (by decide)]
    simp only [Sem.run_bind, p0, p1, e1, Result.andThen_ok, Sem.run_ite, Sem.run_pure]
    cases x0 == y0 <;> cases x1 == y1 <;> rfl
theorem eqla_141 (x0 x1 y0 y1 : Int) : ∀ W, (binOp .eql 141 (.agg #[Value.int IntKind.i64 x0, Value.int IntKind.i64 x1]) (.agg #[Value.int IntKind.i64 y0, Value.int IntKind.i64 y1])).run Try.prog W = .ok (.bool (x0 == y0 && x1 == y1)) W := by
  intro W
  rw [run_eql_struct, eqr_141]; rfl
theorem neqa_141 (x0 x1 y0 y1 : Int) : ∀ W, (binOp .neq 141 (.agg #[Value.int IntKind.i64 x0, Value.int IntKind.i64 x1]) (.agg #[Value.int IntKind.i64 y0, Value.int IntKind.i64 y1])).run Try.prog W = .ok (.bool (!(x0 == y0 && x1 == y1))) W := by
  intro W
  rw [run_neq_struct, eqr_141]; rfl

set_option maxRecDepth 100000 in
set_option maxHeartbeats 2000000 in
theorem C (r_0 : Go.Proofs.Ytlljmgphgmklcaa.PRate.Rate) (before : Go.Proofs.Ytlljmgphgmklcaa.PRate.Rate)   (w : World)   {r : Bool} (H : Hid (P r_0 before = some r)) :
    Calls Try.prog 133 #[r_0.val, before.val] w (Gives (.bool r) w) := by
  have HB := Lib.hid (Below.refl w.heap.size w)
  unfold P at H
  obtain ⟨r_0_zone, r_0_grams, r_0_from_, r_0_until_, r_0_cents⟩ := r_0
  replace H := unRate_hid H
  obtain ⟨before_zone, before_grams, before_from_, before_until_, before_cents⟩ := before
  replace H := unRate_hid H
  unfold Go.Proofs.Ytlljmgphgmklcaa.PRate.Rate.val
  go_enter Try.func133, Try.ntmps133
  obtain ⟨w_r_0, hw_r_0⟩ : ∃ x, w.alloc (.cells #[.int .i64 r_0_zone, .int .i64 r_0_grams, .int .i64 r_0_from_, .int .i64 r_0_until_, .int .i64 r_0_cents] 104) = x := ⟨_, rfl⟩
  have bw_r_0 : Below w.heap.size w w_r_0 := by rw [← hw_r_0]; exact (Below.refl _ _).alloc (Nat.le_refl _) _
  have HBw_r_0 := Lib.hid (Below.step HB.out bw_r_0)
  clear bw_r_0
  have kr_0_0 : w_r_0.cell? ⟨w.heap.size, 0, none⟩ = some (.int .i64 r_0_zone) := by rw [← hw_r_0]; exact box_new _ _ _ 0 _ rfl
  have kr_0_1 : w_r_0.cell? ⟨w.heap.size, 1, none⟩ = some (.int .i64 r_0_grams) := by rw [← hw_r_0]; exact box_new _ _ _ 1 _ rfl
  have kr_0_2 : w_r_0.cell? ⟨w.heap.size, 2, none⟩ = some (.int .i64 r_0_from_) := by rw [← hw_r_0]; exact box_new _ _ _ 2 _ rfl
  have kr_0_3 : w_r_0.cell? ⟨w.heap.size, 3, none⟩ = some (.int .i64 r_0_until_) := by rw [← hw_r_0]; exact box_new _ _ _ 3 _ rfl
  have kr_0_4 : w_r_0.cell? ⟨w.heap.size, 4, none⟩ = some (.int .i64 r_0_cents) := by rw [← hw_r_0]; exact box_new _ _ _ 4 _ rfl
  obtain ⟨w_before_1, hw_before_1⟩ : ∃ x, w_r_0.alloc (.cells #[.int .i64 before_zone, .int .i64 before_grams, .int .i64 before_from_, .int .i64 before_until_, .int .i64 before_cents] 104) = x := ⟨_, rfl⟩
  have bw_before_1 : Below w_r_0.heap.size w_r_0 w_before_1 := by rw [← hw_before_1]; exact (Below.refl _ _).alloc (Nat.le_refl _) _
  have HBw_before_1 := Lib.hid (Below.step HBw_r_0.out bw_before_1)
  have kr_0_0__132 := cell_below bw_before_1 kr_0_0
  have kr_0_1__133 := cell_below bw_before_1 kr_0_1
  have kr_0_2__134 := cell_below bw_before_1 kr_0_2
  have kr_0_3__135 := cell_below bw_before_1 kr_0_3
  have kr_0_4__136 := cell_below bw_before_1 kr_0_4
  clear bw_before_1
  have kbefore_1_0 : w_before_1.cell? ⟨w_r_0.heap.size, 0, none⟩ = some (.int .i64 before_zone) := by rw [← hw_before_1]; exact box_new _ _ _ 0 _ rfl
  have kbefore_1_1 : w_before_1.cell? ⟨w_r_0.heap.size, 1, none⟩ = some (.int .i64 before_grams) := by rw [← hw_before_1]; exact box_new _ _ _ 1 _ rfl
  have kbefore_1_2 : w_before_1.cell? ⟨w_r_0.heap.size, 2, none⟩ = some (.int .i64 before_from_) := by rw [← hw_before_1]; exact box_new _ _ _ 2 _ rfl
  have kbefore_1_3 : w_before_1.cell? ⟨w_r_0.heap.size, 3, none⟩ = some (.int .i64 before_until_) := by rw [← hw_before_1]; exact box_new _ _ _ 3 _ rfl
  have kbefore_1_4 : w_before_1.cell? ⟨w_r_0.heap.size, 4, none⟩ = some (.int .i64 before_cents) := by rw [← hw_before_1]; exact box_new _ _ _ 4 _ rfl
  go_wp2_with fail
  clear kr_0_0 kr_0_1 kr_0_2 kr_0_3 kr_0_4
  have Hkr_0_0__132 := Lib.hid kr_0_0__132
  replace kr_0_0__132 := cell_regrown kr_0_0__132
  have Hkr_0_1__133 := Lib.hid kr_0_1__133
  replace kr_0_1__133 := cell_regrown kr_0_1__133
  have Hkr_0_2__134 := Lib.hid kr_0_2__134
  replace kr_0_2__134 := cell_regrown kr_0_2__134
  have Hkr_0_3__135 := Lib.hid kr_0_3__135
  replace kr_0_3__135 := cell_regrown kr_0_3__135
  have Hkr_0_4__136 := Lib.hid kr_0_4__136
  replace kr_0_4__136 := cell_regrown kr_0_4__136
  have Hkbefore_1_0 := Lib.hid kbefore_1_0
  replace kbefore_1_0 := cell_regrown kbefore_1_0
  have Hkbefore_1_1 := Lib.hid kbefore_1_1
  replace kbefore_1_1 := cell_regrown kbefore_1_1
  have Hkbefore_1_2 := Lib.hid kbefore_1_2
  replace kbefore_1_2 := cell_regrown kbefore_1_2
  have Hkbefore_1_3 := Lib.hid kbefore_1_3
  replace kbefore_1_3 := cell_regrown kbefore_1_3
  have Hkbefore_1_4 := Lib.hid kbefore_1_4
  replace kbefore_1_4 := cell_regrown kbefore_1_4
  replace H := bind_hid H
  obtain ⟨t_4, qt_4, H⟩ := H
  obtain ⟨t_4_zone, t_4_grams⟩ := t_4
  replace H := unrateClass_hid H
  have nt_4 : ∀ d os, Calls Try.prog 127 #[.agg #[.int .i64 r_0_zone, .int .i64 r_0_grams, .int .i64 r_0_from_, .int .i64 r_0_until_, .int .i64 r_0_cents]] (Go.Sort.grow (redrawn w_before_1 d) os) fun e w'' => e = .returned (.agg #[.int .i64 t_4_zone, .int .i64 t_4_grams]) ∧ ∃ p : Regrown, w'' = Go.Sort.grow (redrawn w_before_1 p.d) p.os := fun d os => Calls.regrown_of (Go.Proofs.Ytlljmgphgmklcaa.GiClassOf.C ((Go.Proofs.Ytlljmgphgmklcaa.PRate.Rate.mk r_0_zone r_0_grams r_0_from_ r_0_until_ r_0_cents))  _    qt_4)
  replace H := bind_hid H
  obtain ⟨t_6, qt_6, H⟩ := H
  obtain ⟨t_6_zone, t_6_grams⟩ := t_6
  replace H := unrateClass_hid H
  have nt_6 : ∀ d os, Calls Try.prog 127 #[.agg #[.int .i64 before_zone, .int .i64 before_grams, .int .i64 before_from_, .int .i64 before_until_, .int .i64 before_cents]] (Go.Sort.grow (redrawn w_before_1 d) os) fun e w'' => e = .returned (.agg #[.int .i64 t_6_zone, .int .i64 t_6_grams]) ∧ ∃ p : Regrown, w'' = Go.Sort.grow (redrawn w_before_1 p.d) p.os := fun d os => Calls.regrown_of (Go.Proofs.Ytlljmgphgmklcaa.GiClassOf.C ((Go.Proofs.Ytlljmgphgmklcaa.PRate.Rate.mk before_zone before_grams before_from_ before_until_ before_cents))  _    qt_6)
  replace H := let_hid H
  obtain ⟨t_7, ht_7, H⟩ := H
  have ct_7 : ∀ W, (binOp .eql 141 (.agg #[.int .i64 t_4_zone, .int .i64 t_4_grams]) (.agg #[.int .i64 t_6_zone, .int .i64 t_6_grams])).run Try.prog W = .ok (.bool t_7) W := fun W => by rw [eqla_141, ht_7]
  refine wp_region_quiet_below (by kernel_rfl) (by kernel_rfl) ?_
  repeat (go_big_quiet_step (first | (go_at_call 127; with_reducible exact nt_4 _ _) | (go_at_call 127; with_reducible exact nt_6 _ _) | (go_at_call 127; exact nt_4 _ _) | (go_at_call 127; exact nt_6 _ _)))
  refine wpQuiet_nil ?_
  intro Y1 hY1
  replace hY1 := below_class hY1
  clear nt_4 nt_6
  replace kr_0_0__132 := Hkr_0_0__132.out
  clear Hkr_0_0__132
  replace kr_0_1__133 := Hkr_0_1__133.out
  clear Hkr_0_1__133
  replace kr_0_2__134 := Hkr_0_2__134.out
  clear Hkr_0_2__134
  replace kr_0_3__135 := Hkr_0_3__135.out
  clear Hkr_0_3__135
  replace kr_0_4__136 := Hkr_0_4__136.out
  clear Hkr_0_4__136
  replace kbefore_1_0 := Hkbefore_1_0.out
  clear Hkbefore_1_0
  replace kbefore_1_1 := Hkbefore_1_1.out
  clear Hkbefore_1_1
  replace kbefore_1_2 := Hkbefore_1_2.out
  clear Hkbefore_1_2
  replace kbefore_1_3 := Hkbefore_1_3.out
  clear Hkbefore_1_3
  replace kbefore_1_4 := Hkbefore_1_4.out
  clear Hkbefore_1_4
  have HBY1 := Lib.hid (Below.step HBw_before_1.out hY1)
  replace kr_0_0__132 := cell_below hY1 kr_0_0__132
  replace kr_0_1__133 := cell_below hY1 kr_0_1__133
  replace kr_0_2__134 := cell_below hY1 kr_0_2__134
  replace kr_0_3__135 := cell_below hY1 kr_0_3__135
  replace kr_0_4__136 := cell_below hY1 kr_0_4__136
  replace kbefore_1_0 := cell_below hY1 kbefore_1_0
  replace kbefore_1_1 := cell_below hY1 kbefore_1_1
  replace kbefore_1_2 := cell_below hY1 kbefore_1_2
  replace kbefore_1_3 := cell_below hY1 kbefore_1_3
  replace kbefore_1_4 := cell_below hY1 kbefore_1_4
  clear hY1
  cases t_7 with
  | false =>
    replace H := ite_f H
    go_wp2_with fail
    have bd3 : Below Y1.heap.size Y1 Y1.drew := (Below.refl _ _).drew
    have HBY1.drew := Lib.hid (Below.step HBY1.out bd3)
    replace kr_0_0__132 := cell_below bd3 kr_0_0__132
    replace kr_0_1__133 := cell_below bd3 kr_0_1__133
    replace kr_0_2__134 := cell_below bd3 kr_0_2__134
    replace kr_0_3__135 := cell_below bd3 kr_0_3__135
    replace kr_0_4__136 := cell_below bd3 kr_0_4__136
    replace kbefore_1_0 := cell_below bd3 kbefore_1_0
    replace kbefore_1_1 := cell_below bd3 kbefore_1_1
    replace kbefore_1_2 := cell_below bd3 kbefore_1_2
    replace kbefore_1_3 := cell_below bd3 kbefore_1_3
    replace kbefore_1_4 := cell_below bd3 kbefore_1_4
    clear bd3
    replace H := bind_hid H
    obtain ⟨t_18, qt_18, H⟩ := H
    replace H := bind_hid H
    obtain ⟨t_23, qt_23, H⟩ := H
    replace H := let_hid H
    obtain ⟨t_24, ht_24, H⟩ := H
    replace H := bind_hid H
    obtain ⟨t_25, qt_25, H⟩ := H
    replace H := let_hid H
    obtain ⟨t_26, ht_26, H⟩ := H
    go_region_held3 (fun w' => w'.cell? ⟨w.heap.size, 0, none⟩ = some (.int .i64 r_0_zone) ∧ w'.cell? ⟨w.heap.size, 1, none⟩ = some (.int .i64 r_0_grams) ∧ w'.cell? ⟨w.heap.size, 2, none⟩ = some (.int .i64 r_0_from_) ∧ w'.cell? ⟨w.heap.size, 3, none⟩ = some (.int .i64 r_0_until_) ∧ w'.cell? ⟨w.heap.size, 4, none⟩ = some (.int .i64 r_0_cents) ∧ w'.cell? ⟨w_r_0.heap.size, 0, none⟩ = some (.int .i64 before_zone) ∧ w'.cell? ⟨w_r_0.heap.size, 1, none⟩ = some (.int .i64 before_grams) ∧ w'.cell? ⟨w_r_0.heap.size, 2, none⟩ = some (.int .i64 before_from_) ∧ w'.cell? ⟨w_r_0.heap.size, 3, none⟩ = some (.int .i64 before_until_) ∧ w'.cell? ⟨w_r_0.heap.size, 4, none⟩ = some (.int .i64 before_cents)) (first | exact ⟨kr_0_0__132, kr_0_1__133, kr_0_2__134, kr_0_3__135, kr_0_4__136, kbefore_1_0, kbefore_1_1, kbefore_1_2, kbefore_1_3, kbefore_1_4⟩ | exact ⟨kr_0_0__137, kr_0_1__138, kr_0_2__139, kr_0_3__140, kr_0_4__141, kbefore_1_0__142, kbefore_1_1__143, kbefore_1_2__144, kbefore_1_3__145, kbefore_1_4__146⟩)
        (first
          | (go_at_call 161
             refine (Go.Proofs.Ytlljmgphgmklcaa.GxCmpCompareInt.C (before_zone) (r_0_zone)  _    qt_18).mono ?_
             rintro e_t_18 wt_18 ⟨rfl, bt_18⟩
             have HBwt_18 := Lib.hid (Below.step HBY1.drew.out bt_18)
             replace kr_0_0__132 := cell_below bt_18 kr_0_0__132
             replace kr_0_1__133 := cell_below bt_18 kr_0_1__133
             replace kr_0_2__134 := cell_below bt_18 kr_0_2__134
             replace kr_0_3__135 := cell_below bt_18 kr_0_3__135
             replace kr_0_4__136 := cell_below bt_18 kr_0_4__136
             replace kbefore_1_0 := cell_below bt_18 kbefore_1_0
             replace kbefore_1_1 := cell_below bt_18 kbefore_1_1
             replace kbefore_1_2 := cell_below bt_18 kbefore_1_2
             replace kbefore_1_3 := cell_below bt_18 kbefore_1_3
             replace kbefore_1_4 := cell_below bt_18 kbefore_1_4
             clear bt_18
             clear qt_18)
          | (go_at_call 161
             refine (Go.Proofs.Ytlljmgphgmklcaa.GxCmpCompareInt.C (before_grams) (r_0_grams)  _    qt_23).mono ?_
             rintro e_t_23 wt_23 ⟨rfl, bt_23⟩
             have HBwt_23 := Lib.hid (Below.step HBwt_18.out bt_23)
             replace kr_0_0__132 := cell_below bt_23 kr_0_0__132
             replace kr_0_1__133 := cell_below bt_23 kr_0_1__133
             replace kr_0_2__134 := cell_below bt_23 kr_0_2__134
             replace kr_0_3__135 := cell_below bt_23 kr_0_3__135
             replace kr_0_4__136 := cell_below bt_23 kr_0_4__136
             replace kbefore_1_0 := cell_below bt_23 kbefore_1_0
             replace kbefore_1_1 := cell_below bt_23 kbefore_1_1
             replace kbefore_1_2 := cell_below bt_23 kbefore_1_2
             replace kbefore_1_3 := cell_below bt_23 kbefore_1_3
             replace kbefore_1_4 := cell_below bt_23 kbefore_1_4
             clear bt_23
             clear qt_23
             obtain ⟨w_t_24, hw_t_24⟩ : ∃ x, wt_23.alloc (.cells #[.int .i64 t_18, .int .i64 t_23] 3) = x := ⟨_, rfl⟩
             have bw_t_24 : Below wt_23.heap.size wt_23 w_t_24 := by rw [← hw_t_24]; exact (Below.refl _ _).alloc (Nat.le_refl _) _
             have hs_t_24 := HBwt_23.out.size
             have nt_24 : t_24.length = 2 := by rw [← ht_24]; rfl
             have Ot_24 : Hid (w_t_24.ownsRow w.heap.size 3 1 (.slice (some ⟨wt_23.heap.size, 0, none⟩) 2 2) 2 (Go.Proofs.Ytlljmgphgmklcaa.HelpInt.iv t_24)) := by
               rw [← hw_t_24, ← ht_24]
               have e_ : ([.int .i64 t_18, .int .i64 t_23] : List Value) = (Go.Proofs.Ytlljmgphgmklcaa.HelpInt.iv ([t_18, t_23] : List Int)) := rfl
               exact Lib.hid (own_laid (n := 2) hs_t_24 e_ rfl (by unfold maxLen; omega))
             clear hs_t_24
             have hht_24 := Lib.hid ht_24
             clear ht_24
             replace nt_24 := Lib.hid nt_24
             have Dt_24_r_0 := Lib.hid (apart_box kr_0_0__132)
             have Dt_24_before_1 := Lib.hid (apart_box kbefore_1_0)
             have HBw_t_24 := Lib.hid (Below.step HBwt_23.out bw_t_24)
             have kr_0_0__137 := cell_below bw_t_24 kr_0_0__132
             have kr_0_1__138 := cell_below bw_t_24 kr_0_1__133
             have kr_0_2__139 := cell_below bw_t_24 kr_0_2__134
             have kr_0_3__140 := cell_below bw_t_24 kr_0_3__135
             have kr_0_4__141 := cell_below bw_t_24 kr_0_4__136
             have kbefore_1_0__142 := cell_below bw_t_24 kbefore_1_0
             have kbefore_1_1__143 := cell_below bw_t_24 kbefore_1_1
             have kbefore_1_2__144 := cell_below bw_t_24 kbefore_1_2
             have kbefore_1_3__145 := cell_below bw_t_24 kbefore_1_3
             have kbefore_1_4__146 := cell_below bw_t_24 kbefore_1_4
             clear bw_t_24)
          | (have hc0_ := nt_24.out
             have Oct_25_1 := Lib.hid (own_len hc0_ Ot_24.out)
             have con_ := Go.Proofs.Ytlljmgphgmklcaa.GxCmpOrInt.C (t_24) (some ⟨wt_23.heap.size, 0, none⟩) 2 _   (Lib.hid (own_cells Oct_25_1.out)) (Lib.hid (own_max Oct_25_1.out)) qt_25
             rw [hc0_] at con_
             clear hc0_ Oct_25_1
             go_at_call 160
             refine con_.mono ?_
             rintro e_t_25 wt_25 ⟨rfl, bt_25⟩
             have HBwt_25 := Lib.hid (Below.step HBw_t_24.out bt_25)
             replace kr_0_0__137 := cell_below bt_25 kr_0_0__137
             replace kr_0_1__138 := cell_below bt_25 kr_0_1__138
             replace kr_0_2__139 := cell_below bt_25 kr_0_2__139
             replace kr_0_3__140 := cell_below bt_25 kr_0_3__140
             replace kr_0_4__141 := cell_below bt_25 kr_0_4__141
             replace kbefore_1_0__142 := cell_below bt_25 kbefore_1_0__142
             replace kbefore_1_1__143 := cell_below bt_25 kbefore_1_1__143
             replace kbefore_1_2__144 := cell_below bt_25 kbefore_1_2__144
             replace kbefore_1_3__145 := cell_below bt_25 kbefore_1_3__145
             replace kbefore_1_4__146 := cell_below bt_25 kbefore_1_4__146
             replace Ot_24 := Lib.hid (own_below Ot_24.out bt_25)
             clear bt_25
             clear qt_25))
    try clear kr_0_0__132
    try clear kr_0_1__133
    try clear kr_0_2__134
    try clear kr_0_3__135
    try clear kr_0_4__136
    try clear kbefore_1_0
    try clear kbefore_1_1
    try clear kbefore_1_2
    try clear kbefore_1_3
    try clear kbefore_1_4
    obtain rfl := ret_hid H
    go_wp2_with fail
    go_ret
    exact ⟨rfl, HBwt_25.out⟩
  | true =>
    replace H := ite_t H
    replace H := let_hid H
    obtain ⟨t_12, ht_12, H⟩ := H
    obtain rfl := ret_hid H
    go_wp2_with fail
    go_ret
    exact ⟨rfl, HBY1.out⟩
end Go.Proofs.Ytlljmgphgmklcaa.GiCanFollow

/- loop.example/g01062/impl.AreRates as a plain function, and the contract of the program's: where the plain one has an answer, the program has it. Conditions: slices read as lists. -/
namespace Go.Proofs.Ytlljmgphgmklcaa.GiAreRates
set_option linter.unusedVariables false
set_option linter.unusedSimpArgs false
open Go.RowKit
open Go.Proofs.Ytlljmgphgmklcaa.Rowed Go.Proofs.Ytlljmgphgmklcaa.Turn Go.Proofs.Ytlljmgphgmklcaa.Aid Go.Proofs.Ytlljmgphgmklcaa.GoP Go.Proofs.Ytlljmgphgmklcaa.GoM

def l0 (list : (List Go.Proofs.Ytlljmgphgmklcaa.PRate.Rate)) (k0 : Nat) (s : Unit) (nx0 bk0 : Unit → Option (Bool)) : Option (Bool) :=
  
  Option.bind (idx list (k0 : Int)) fun (yt_10 : Go.Proofs.Ytlljmgphgmklcaa.PRate.Rate) =>
  unRate yt_10 fun (t_10_zone : Int) (t_10_grams : Int) (t_10_from_ : Int) (t_10_until_ : Int) (t_10_cents : Int) =>
  Option.bind (Go.Proofs.Ytlljmgphgmklcaa.GiIsRate.P (Go.Proofs.Ytlljmgphgmklcaa.PRate.Rate.mk t_10_zone t_10_grams t_10_from_ t_10_until_ t_10_cents)) fun (t_16 : Bool) =>
  letK (!t_16) fun (t_17 : Bool) =>
  joinK (fun (t_31 : Bool) =>
  iteK t_31
  (some false)
  (appK nx0 ())) fun jt_31 => iteK t_17 (appK jt_31 true) (letK (decide (0 < (k0 : Int))) fun (t_20 : Bool) =>
  joinK (fun (t_30 : Bool) =>
  appK jt_31 t_30) fun jt_30 => iteK t_20 (letK (IntKind.i64.wrap ((k0 : Int) - 1)) fun (t_25 : Int) =>
  Option.bind (idx list t_25) fun (yt_26 : Go.Proofs.Ytlljmgphgmklcaa.PRate.Rate) =>
  unRate yt_26 fun (t_26_zone : Int) (t_26_grams : Int) (t_26_from_ : Int) (t_26_until_ : Int) (t_26_cents : Int) =>
  Option.bind (Go.Proofs.Ytlljmgphgmklcaa.GiCanFollow.P (Go.Proofs.Ytlljmgphgmklcaa.PRate.Rate.mk t_10_zone t_10_grams t_10_from_ t_10_until_ t_10_cents) (Go.Proofs.Ytlljmgphgmklcaa.PRate.Rate.mk t_26_zone t_26_grams t_26_from_ t_26_until_ t_26_cents)) fun (t_28 : Bool) =>
  letK (!t_28) fun (t_29 : Bool) =>
  appK jt_30 t_29) (appK jt_30 false))

def e0  (s : Unit) : Option (Bool) :=
  
  some true

def P (list : (List Go.Proofs.Ytlljmgphgmklcaa.PRate.Rate)) : Option (Bool) :=
  letK (decide (16 < (list.length : Int))) fun (t_3 : Bool) =>
  iteK t_3
  (some false)
  (cntK (l0 list) (list.length) 0 () (e0 ))

set_option maxRecDepth 100000 in
set_option maxHeartbeats 2000000 in
theorem C (list : (List Go.Proofs.Ytlljmgphgmklcaa.PRate.Rate)) (A0 : Option Addr) (c0 : Nat)  (w : World) (M0 : Hid (Cells w 5 A0 list.length (Go.Proofs.Ytlljmgphgmklcaa.PRate.flat list))) (N0 : Hid (list.length ≤ 9223372036854775807))  {r : Bool} (H : Hid (P list = some r)) :
    Calls Try.prog 67 #[.slice A0 list.length c0] w (Gives (.bool r) w) := by
  have HB := Lib.hid (Below.refl w.heap.size w)
  unfold P at H
  have N0o := N0.out
  go_enter Try.func67, Try.ntmps67
  replace H := let_hid H
  obtain ⟨t_3, ht_3, H⟩ := H
  cases t_3 with
  | false =>
    have nht_3 : ¬ (16 < list.length) := by have := of_decide_eq_false ht_3; omega
    replace H := ite_f H
    go_wp2_with fail
    go_loopg [10] (list.length) (fun m_ v10_ wr => ∃ (k0 : Nat) , k0 + m_ = list.length ∧ v10_ = .int .i64 (k0 : Int) ∧ Hid (cntK (l0 list) m_ k0 () (e0 ) = some r) ∧ Hid (Below w.heap.size w wr))
    case atStart => exact ⟨0, by omega, rfl, H, HB⟩
    case round =>
      obtain ⟨k0, hkm0, rfl, H, HBwr0⟩ := hrel
      rename World => wr0
      cases gk with
      | zero =>
        obtain rfl : k0 = list.length := by omega
        have hc0 : decide (((list.length : Nat) : Int) < ((list.length : Nat) : Int)) = false := by simp
        replace H := cnt_zero H
        unfold e0 at H
        obtain rfl := ret_hid H
        go_wp2_with fail
        go_ret
        exact ⟨rfl, HBwr0.out⟩
      | succ m0 =>
        have hlt0 : k0 < list.length := by omega
        have hc0 : decide ((k0 : Int) < ((list.length : Nat) : Int)) = true := by simp; omega
        replace H := cnt_succ H
        unfold l0 at H
        replace H := idx_hid H
        obtain ⟨nt_10, yt_10, et_10, lt_10, gt_10, H⟩ := H
        obtain rfl : k0 = nt_10 := by omega
        clear et_10
        obtain ⟨t_10_zone, t_10_grams, t_10_from_, t_10_until_, t_10_cents⟩ := yt_10
        replace H := unRate_hid H
        obtain ⟨ab_t_10, ao_t_10, zt_10, At_10, z_t_10, ct_10_0, ct_10_1, ct_10_2, ct_10_3, ct_10_4⟩ := Go.Proofs.Ytlljmgphgmklcaa.ORate.at_ M0.out lt_10
        obtain rfl := Option.some.inj (gt_10.out.symm.trans z_t_10)
        subst At_10
        have ltt_10 := cell_lt ct_10_0
        replace ct_10_0 := cell_below HBwr0.out ct_10_0
        replace ct_10_1 := cell_below HBwr0.out ct_10_1
        replace ct_10_2 := cell_below HBwr0.out ct_10_2
        replace ct_10_3 := cell_below HBwr0.out ct_10_3
        replace ct_10_4 := cell_below HBwr0.out ct_10_4
        clear z_t_10
        have b0t_10 : (0 : Int) ≤ (k0 : Int) := by omega
        have b1t_10 : (k0 : Int) < ((list.length : Nat) : Int) := by omega
        have b2t_10 : ((k0 : Int)).toNat = k0 := by omega
        obtain ⟨w_r_12, hw_r_12⟩ : ∃ x, wr0.alloc (.cells #[.int .i64 t_10_zone, .int .i64 t_10_grams, .int .i64 t_10_from_, .int .i64 t_10_until_, .int .i64 t_10_cents] 104) = x := ⟨_, rfl⟩
        have bw_r_12 : Below wr0.heap.size wr0 w_r_12 := by rw [← hw_r_12]; exact (Below.refl _ _).alloc (Nat.le_refl _) _
        have HBw_r_12 := Lib.hid (Below.step HBwr0.out bw_r_12)
        have ct_10_0__147 := cell_below bw_r_12 ct_10_0
        have ct_10_1__148 := cell_below bw_r_12 ct_10_1
        have ct_10_2__149 := cell_below bw_r_12 ct_10_2
        have ct_10_3__150 := cell_below bw_r_12 ct_10_3
        have ct_10_4__151 := cell_below bw_r_12 ct_10_4
        clear bw_r_12
        have kr_12_0 : w_r_12.cell? ⟨wr0.heap.size, 0, none⟩ = some (.int .i64 t_10_zone) := by rw [← hw_r_12]; exact box_new _ _ _ 0 _ rfl
        have kr_12_1 : w_r_12.cell? ⟨wr0.heap.size, 1, none⟩ = some (.int .i64 t_10_grams) := by rw [← hw_r_12]; exact box_new _ _ _ 1 _ rfl
        have kr_12_2 : w_r_12.cell? ⟨wr0.heap.size, 2, none⟩ = some (.int .i64 t_10_from_) := by rw [← hw_r_12]; exact box_new _ _ _ 2 _ rfl
        have kr_12_3 : w_r_12.cell? ⟨wr0.heap.size, 3, none⟩ = some (.int .i64 t_10_until_) := by rw [← hw_r_12]; exact box_new _ _ _ 3 _ rfl
        have kr_12_4 : w_r_12.cell? ⟨wr0.heap.size, 4, none⟩ = some (.int .i64 t_10_cents) := by rw [← hw_r_12]; exact box_new _ _ _ 4 _ rfl
        go_wp2_with fail
        clear ct_10_0 ct_10_1 ct_10_2 ct_10_3 ct_10_4
        have Hct_10_0__147 := Lib.hid ct_10_0__147
        replace ct_10_0__147 := cell_regrown ct_10_0__147
        have Hct_10_1__148 := Lib.hid ct_10_1__148
        replace ct_10_1__148 := cell_regrown ct_10_1__148
        have Hct_10_2__149 := Lib.hid ct_10_2__149
        replace ct_10_2__149 := cell_regrown ct_10_2__149
        have Hct_10_3__150 := Lib.hid ct_10_3__150
        replace ct_10_3__150 := cell_regrown ct_10_3__150
        have Hct_10_4__151 := Lib.hid ct_10_4__151
        replace ct_10_4__151 := cell_regrown ct_10_4__151
        have Hkr_12_0 := Lib.hid kr_12_0
        replace kr_12_0 := cell_regrown kr_12_0
        have Hkr_12_1 := Lib.hid kr_12_1
        replace kr_12_1 := cell_regrown kr_12_1
        have Hkr_12_2 := Lib.hid kr_12_2
        replace kr_12_2 := cell_regrown kr_12_2
        have Hkr_12_3 := Lib.hid kr_12_3
        replace kr_12_3 := cell_regrown kr_12_3
        have Hkr_12_4 := Lib.hid kr_12_4
        replace kr_12_4 := cell_regrown kr_12_4
        replace H := bind_hid H
        obtain ⟨t_16, qt_16, H⟩ := H
        have nt_16 : ∀ d os, Calls Try.prog 132 #[.agg #[.int .i64 t_10_zone, .int .i64 t_10_grams, .int .i64 t_10_from_, .int .i64 t_10_until_, .int .i64 t_10_cents]] (Go.Sort.grow (redrawn w_r_12 d) os) fun e w'' => e = .returned (.bool t_16) ∧ ∃ p : Regrown, w'' = Go.Sort.grow (redrawn w_r_12 p.d) p.os := fun d os => Calls.regrown_of (Go.Proofs.Ytlljmgphgmklcaa.GiIsRate.C ((Go.Proofs.Ytlljmgphgmklcaa.PRate.Rate.mk t_10_zone t_10_grams t_10_from_ t_10_until_ t_10_cents))  _    qt_16)
        cases t_16 with
        | false =>
          replace H := let_hid H
          obtain ⟨t_17, ht_17, H⟩ := H
          obtain rfl : t_17 = true := ht_17.symm
          replace H := join_hid H
          replace H := ite_t H
          replace H := app_hid H
          refine wp_region_quiet_below (by kernel_rfl) (by kernel_rfl) ?_
          repeat (go_big_quiet_step (first | (go_at_call 132; exact nt_16 _ _)))
          refine wpQuiet_nil ?_
          intro Y6 hY6
          replace hY6 := below_class hY6
          clear nt_16
          replace ct_10_0__147 := Hct_10_0__147.out
          clear Hct_10_0__147
          replace ct_10_1__148 := Hct_10_1__148.out
          clear Hct_10_1__148
          replace ct_10_2__149 := Hct_10_2__149.out
          clear Hct_10_2__149
          replace ct_10_3__150 := Hct_10_3__150.out
          clear Hct_10_3__150
          replace ct_10_4__151 := Hct_10_4__151.out
          clear Hct_10_4__151
          replace kr_12_0 := Hkr_12_0.out
          clear Hkr_12_0
          replace kr_12_1 := Hkr_12_1.out
          clear Hkr_12_1
          replace kr_12_2 := Hkr_12_2.out
          clear Hkr_12_2
          replace kr_12_3 := Hkr_12_3.out
          clear Hkr_12_3
          replace kr_12_4 := Hkr_12_4.out
          clear Hkr_12_4
          have HBY6 := Lib.hid (Below.step HBw_r_12.out hY6)
          replace ct_10_0__147 := cell_below hY6 ct_10_0__147
          replace ct_10_1__148 := cell_below hY6 ct_10_1__148
          replace ct_10_2__149 := cell_below hY6 ct_10_2__149
          replace ct_10_3__150 := cell_below hY6 ct_10_3__150
          replace ct_10_4__151 := cell_below hY6 ct_10_4__151
          replace kr_12_0 := cell_below hY6 kr_12_0
          replace kr_12_1 := cell_below hY6 kr_12_1
          replace kr_12_2 := cell_below hY6 kr_12_2
          replace kr_12_3 := cell_below hY6 kr_12_3
          replace kr_12_4 := cell_below hY6 kr_12_4
          clear hY6
          replace H := ite_t H
          obtain rfl := ret_hid H
          go_wp2_with fail
          go_ret
          exact ⟨rfl, HBY6.out⟩
        | true =>
          replace H := let_hid H
          obtain ⟨t_17, ht_17, H⟩ := H
          obtain rfl : t_17 = false := ht_17.symm
          replace H := join_hid H
          replace H := ite_f H
          replace H := let_hid H
          obtain ⟨t_20, ht_20, H⟩ := H
          replace H := join_hid H
          cases t_20 with
          | false =>
            have nht_20 : ¬ (0 < k0) := by have := of_decide_eq_false ht_20; omega
            replace H := ite_f H
            replace H := app_hid H
            replace H := app_hid H
            refine wp_region_quiet_below (by kernel_rfl) (by kernel_rfl) ?_
            repeat (go_big_quiet_step (first | (go_at_call 132; exact nt_16 _ _)))
            refine wpQuiet_nil ?_
            intro Y6 hY6
            replace hY6 := below_class hY6
            clear nt_16
            replace ct_10_0__147 := Hct_10_0__147.out
            clear Hct_10_0__147
            replace ct_10_1__148 := Hct_10_1__148.out
            clear Hct_10_1__148
            replace ct_10_2__149 := Hct_10_2__149.out
            clear Hct_10_2__149
            replace ct_10_3__150 := Hct_10_3__150.out
            clear Hct_10_3__150
            replace ct_10_4__151 := Hct_10_4__151.out
            clear Hct_10_4__151
            replace kr_12_0 := Hkr_12_0.out
            clear Hkr_12_0
            replace kr_12_1 := Hkr_12_1.out
            clear Hkr_12_1
            replace kr_12_2 := Hkr_12_2.out
            clear Hkr_12_2
            replace kr_12_3 := Hkr_12_3.out
            clear Hkr_12_3
            replace kr_12_4 := Hkr_12_4.out
            clear Hkr_12_4
            have HBY6 := Lib.hid (Below.step HBw_r_12.out hY6)
            replace ct_10_0__147 := cell_below hY6 ct_10_0__147
            replace ct_10_1__148 := cell_below hY6 ct_10_1__148
            replace ct_10_2__149 := cell_below hY6 ct_10_2__149
            replace ct_10_3__150 := cell_below hY6 ct_10_3__150
            replace ct_10_4__151 := cell_below hY6 ct_10_4__151
            replace kr_12_0 := cell_below hY6 kr_12_0
            replace kr_12_1 := cell_below hY6 kr_12_1
            replace kr_12_2 := cell_below hY6 kr_12_2
            replace kr_12_3 := cell_below hY6 kr_12_3
            replace kr_12_4 := cell_below hY6 kr_12_4
            clear hY6
            replace H := ite_f H
            replace H := app_hid H
            go_wp2_with fail
            go_roundg m0
            case measure => omega
            case rel => exact ⟨k0 + 1, by omega, by go_num, H, HBY6⟩
          | true =>
            have nht_20 : 0 < k0 := by have := of_decide_eq_true ht_20; omega
            replace H := ite_t H
            replace H := let_hid H
            obtain ⟨t_25, ht_25, H⟩ := H
            replace H := idx_hid H
            obtain ⟨nt_26, yt_26, et_26, lt_26, gt_26, H⟩ := H
            subst et_26
            obtain ⟨t_26_zone, t_26_grams, t_26_from_, t_26_until_, t_26_cents⟩ := yt_26
            replace H := unRate_hid H
            obtain ⟨ab_t_26, ao_t_26, zt_26, At_26, z_t_26, ct_26_0, ct_26_1, ct_26_2, ct_26_3, ct_26_4⟩ := Go.Proofs.Ytlljmgphgmklcaa.ORate.at_ M0.out lt_26
            obtain rfl := Option.some.inj (gt_26.out.symm.trans z_t_26)
            simp only [Option.some.injEq, Addr.mk.injEq] at At_26
            obtain ⟨rfl, rfl, _⟩ := At_26
            have ltt_26 := cell_lt ct_26_0
            replace ct_26_0 := cell_below HBw_r_12.out ct_26_0
            replace ct_26_1 := cell_below HBw_r_12.out ct_26_1
            replace ct_26_2 := cell_below HBw_r_12.out ct_26_2
            replace ct_26_3 := cell_below HBw_r_12.out ct_26_3
            replace ct_26_4 := cell_below HBw_r_12.out ct_26_4
            clear z_t_26
            have b0t_26 : (0 : Int) ≤ (nt_26 : Int) := by omega
            have b1t_26 : (nt_26 : Int) < ((list.length : Nat) : Int) := by omega
            have b2t_26 : ((nt_26 : Int)).toNat = nt_26 := by omega
            have Hct_26_0 := Lib.hid ct_26_0
            replace ct_26_0 := cell_regrown ct_26_0
            have Hct_26_1 := Lib.hid ct_26_1
            replace ct_26_1 := cell_regrown ct_26_1
            have Hct_26_2 := Lib.hid ct_26_2
            replace ct_26_2 := cell_regrown ct_26_2
            have Hct_26_3 := Lib.hid ct_26_3
            replace ct_26_3 := cell_regrown ct_26_3
            have Hct_26_4 := Lib.hid ct_26_4
            replace ct_26_4 := cell_regrown ct_26_4
            replace H := bind_hid H
            obtain ⟨t_28, qt_28, H⟩ := H
            have nt_28 : ∀ d os, Calls Try.prog 133 #[.agg #[.int .i64 t_10_zone, .int .i64 t_10_grams, .int .i64 t_10_from_, .int .i64 t_10_until_, .int .i64 t_10_cents], .agg #[.int .i64 t_26_zone, .int .i64 t_26_grams, .int .i64 t_26_from_, .int .i64 t_26_until_, .int .i64 t_26_cents]] (Go.Sort.grow (redrawn w_r_12 d) os) fun e w'' => e = .returned (.bool t_28) ∧ ∃ p : Regrown, w'' = Go.Sort.grow (redrawn w_r_12 p.d) p.os := fun d os => Calls.regrown_of (Go.Proofs.Ytlljmgphgmklcaa.GiCanFollow.C ((Go.Proofs.Ytlljmgphgmklcaa.PRate.Rate.mk t_10_zone t_10_grams t_10_from_ t_10_until_ t_10_cents)) ((Go.Proofs.Ytlljmgphgmklcaa.PRate.Rate.mk t_26_zone t_26_grams t_26_from_ t_26_until_ t_26_cents))  _    qt_28)
            cases t_28 with
            | false =>
              replace H := let_hid H
              obtain ⟨t_29, ht_29, H⟩ := H
              obtain rfl : t_29 = true := ht_29.symm
              replace H := app_hid H
              replace H := app_hid H
              refine wp_region_quiet_below (by kernel_rfl) (by kernel_rfl) ?_
              repeat (go_big_quiet_step (first | (go_at_call 132; exact nt_16 _ _) | (go_at_call 133; exact nt_28 _ _)))
              refine wpQuiet_nil ?_
              intro Y6 hY6
              replace hY6 := below_class hY6
              clear nt_16 nt_28
              replace ct_10_0__147 := Hct_10_0__147.out
              clear Hct_10_0__147
              replace ct_10_1__148 := Hct_10_1__148.out
              clear Hct_10_1__148
              replace ct_10_2__149 := Hct_10_2__149.out
              clear Hct_10_2__149
              replace ct_10_3__150 := Hct_10_3__150.out
              clear Hct_10_3__150
              replace ct_10_4__151 := Hct_10_4__151.out
              clear Hct_10_4__151
              replace kr_12_0 := Hkr_12_0.out
              clear Hkr_12_0
              replace kr_12_1 := Hkr_12_1.out
              clear Hkr_12_1
              replace kr_12_2 := Hkr_12_2.out
              clear Hkr_12_2
              replace kr_12_3 := Hkr_12_3.out
              clear Hkr_12_3
              replace kr_12_4 := Hkr_12_4.out
              clear Hkr_12_4
              replace ct_26_0 := Hct_26_0.out
              clear Hct_26_0
              replace ct_26_1 := Hct_26_1.out
              clear Hct_26_1
              replace ct_26_2 := Hct_26_2.out
              clear Hct_26_2
              replace ct_26_3 := Hct_26_3.out
              clear Hct_26_3
              replace ct_26_4 := Hct_26_4.out
              clear Hct_26_4
              have HBY6 := Lib.hid (Below.step HBw_r_12.out hY6)
              replace ct_10_0__147 := cell_below hY6 ct_10_0__147
              replace ct_10_1__148 := cell_below hY6 ct_10_1__148
              replace ct_10_2__149 := cell_below hY6 ct_10_2__149
              replace ct_10_3__150 := cell_below hY6 ct_10_3__150
              replace ct_10_4__151 := cell_below hY6 ct_10_4__151
              replace kr_12_0 := cell_below hY6 kr_12_0
              replace kr_12_1 := cell_below hY6 kr_12_1
              replace kr_12_2 := cell_below hY6 kr_12_2
              replace kr_12_3 := cell_below hY6 kr_12_3
              replace kr_12_4 := cell_below hY6 kr_12_4
              replace ct_26_0 := cell_below hY6 ct_26_0
              replace ct_26_1 := cell_below hY6 ct_26_1
              replace ct_26_2 := cell_below hY6 ct_26_2
              replace ct_26_3 := cell_below hY6 ct_26_3
              replace ct_26_4 := cell_below hY6 ct_26_4
              clear hY6
              replace H := ite_t H
              obtain rfl := ret_hid H
              go_wp2_with fail
              go_ret
              exact ⟨rfl, HBY6.out⟩
            | true =>
              replace H := let_hid H
              obtain ⟨t_29, ht_29, H⟩ := H
              obtain rfl : t_29 = false := ht_29.symm
              replace H := app_hid H
              replace H := app_hid H
              refine wp_region_quiet_below (by kernel_rfl) (by kernel_rfl) ?_
              repeat (go_big_quiet_step (first | (go_at_call 132; exact nt_16 _ _) | (go_at_call 133; exact nt_28 _ _)))
              refine wpQuiet_nil ?_
              intro Y6 hY6
              replace hY6 := below_class hY6
              clear nt_16 nt_28
              replace ct_10_0__147 := Hct_10_0__147.out
              clear Hct_10_0__147
              replace ct_10_1__148 := Hct_10_1__148.out
              clear Hct_10_1__148
              replace ct_10_2__149 := Hct_10_2__149.out
              clear Hct_10_2__149
              replace ct_10_3__150 := Hct_10_3__150.out
              clear Hct_10_3__150
              replace ct_10_4__151 := Hct_10_4__151.out
              clear Hct_10_4__151
              replace kr_12_0 := Hkr_12_0.out
              clear Hkr_12_0
              replace kr_12_1 := Hkr_12_1.out
              clear Hkr_12_1
              replace kr_12_2 := Hkr_12_2.out
              clear Hkr_12_2
              replace kr_12_3 := Hkr_12_3.out
              clear Hkr_12_3
              replace kr_12_4 := Hkr_12_4.out
              clear Hkr_12_4
              replace ct_26_0 := Hct_26_0.out
              clear Hct_26_0
              replace ct_26_1 := Hct_26_1.out
              clear Hct_26_1
              replace ct_26_2 := Hct_26_2.out
              clear Hct_26_2
              replace ct_26_3 := Hct_26_3.out
              clear Hct_26_3
              replace ct_26_4 := Hct_26_4.out
              clear Hct_26_4
              have HBY6 := Lib.hid (Below.step HBw_r_12.out hY6)
              replace ct_10_0__147 := cell_below hY6 ct_10_0__147
              replace ct_10_1__148 := cell_below hY6 ct_10_1__148
              replace ct_10_2__149 := cell_below hY6 ct_10_2__149
              replace ct_10_3__150 := cell_below hY6 ct_10_3__150
              replace ct_10_4__151 := cell_below hY6 ct_10_4__151
              replace kr_12_0 := cell_below hY6 kr_12_0
              replace kr_12_1 := cell_below hY6 kr_12_1
              replace kr_12_2 := cell_below hY6 kr_12_2
              replace kr_12_3 := cell_below hY6 kr_12_3
              replace kr_12_4 := cell_below hY6 kr_12_4
              replace ct_26_0 := cell_below hY6 ct_26_0
              replace ct_26_1 := cell_below hY6 ct_26_1
              replace ct_26_2 := cell_below hY6 ct_26_2
              replace ct_26_3 := cell_below hY6 ct_26_3
              replace ct_26_4 := cell_below hY6 ct_26_4
              clear hY6
              replace H := ite_f H
              replace H := app_hid H
              go_wp2_with fail
              go_roundg m0
              case measure => omega
              case rel => exact ⟨k0 + 1, by omega, by go_num, H, HBY6⟩
  | true =>
    have nht_3 : 16 < list.length := by have := of_decide_eq_true ht_3; omega
    replace H := ite_t H
    obtain rfl := ret_hid H
    go_wp2_with fail
    go_ret
    exact ⟨rfl, HB.out⟩
end Go.Proofs.Ytlljmgphgmklcaa.GiAreRates

/- loop.example/g01062/impl.canSend as a plain function, and the contract of the program's: where the plain one has an answer, the program has it. Conditions: slices read as lists. -/
namespace Go.Proofs.Ytlljmgphgmklcaa.GiCanSend
set_option linter.unusedVariables false
set_option linter.unusedSimpArgs false
open Go.RowKit
open Go.Proofs.Ytlljmgphgmklcaa.Rowed Go.Proofs.Ytlljmgphgmklcaa.Turn Go.Proofs.Ytlljmgphgmklcaa.Aid Go.Proofs.Ytlljmgphgmklcaa.GoP Go.Proofs.Ytlljmgphgmklcaa.GoM

def P (list : (List Go.Proofs.Ytlljmgphgmklcaa.PRate.Rate)) (zone : Int) (grams : Int) : Option (Bool) :=
  Option.bind (Go.Proofs.Ytlljmgphgmklcaa.GiAreRates.P list) fun (t_2 : Bool) =>
  joinK (fun (t_6 : Bool) =>
  joinK (fun (t_10 : Bool) =>
  some t_10) fun jt_10 => iteK t_6 (Option.bind (Go.Proofs.Ytlljmgphgmklcaa.GiIsWeight.P grams) fun (t_9 : Bool) =>
  appK jt_10 t_9) (appK jt_10 false)) fun jt_6 => iteK t_2 (Option.bind (Go.Proofs.Ytlljmgphgmklcaa.GiIsZone.P zone) fun (t_5 : Bool) =>
  appK jt_6 t_5) (appK jt_6 false)

set_option maxRecDepth 100000 in
set_option maxHeartbeats 2000000 in
theorem C (list : (List Go.Proofs.Ytlljmgphgmklcaa.PRate.Rate)) (zone : Int) (grams : Int) (A0 : Option Addr) (c0 : Nat)  (w : World) (M0 : Hid (Cells w 5 A0 list.length (Go.Proofs.Ytlljmgphgmklcaa.PRate.flat list))) (N0 : Hid (list.length ≤ 9223372036854775807))  {r : Bool} (H : Hid (P list zone grams = some r)) :
    Calls Try.prog 124 #[.slice A0 list.length c0, .int .i64 zone, .int .i64 grams] w (Gives (.bool r) w) := by
  have HB := Lib.hid (Below.refl w.heap.size w)
  unfold P at H
  have N0o := N0.out
  go_enter Try.func124, Try.ntmps124
  replace H := bind_hid H
  obtain ⟨t_2, qt_2, H⟩ := H
  go_wp2_with fail
  go_at_call 67
  refine (Go.Proofs.Ytlljmgphgmklcaa.GiAreRates.C (list) A0 c0 _   (Lib.hid (Cells.below M0.out HB.out)) N0 qt_2).mono ?_
  rintro e_t_2 wt_2 ⟨rfl, bt_2⟩
  have HBwt_2 := Lib.hid (Below.step HB.out bt_2)
  clear bt_2
  replace H := join_hid H
  cases t_2 with
  | false =>
    replace H := ite_f H
    replace H := app_hid H
    replace H := join_hid H
    replace H := ite_f H
    replace H := app_hid H
    obtain rfl := ret_hid H
    go_wp2_with fail
    go_ret
    exact ⟨rfl, HBwt_2.out⟩
  | true =>
    replace H := ite_t H
    replace H := bind_hid H
    obtain ⟨t_5, qt_5, H⟩ := H
    go_wp2_with fail
    go_at_call 80
    refine (Go.Proofs.Ytlljmgphgmklcaa.GiIsZone.C (zone)  _    qt_5).mono ?_
    rintro e_t_5 wt_5 ⟨rfl, bt_5⟩
    have HBwt_5 := Lib.hid (Below.step HBwt_2.out bt_5)
    clear bt_5
    replace H := app_hid H
    replace H := join_hid H
    cases t_5 with
    | false =>
      replace H := ite_f H
      replace H := app_hid H
      obtain rfl := ret_hid H
      go_wp2_with fail
      go_ret
      exact ⟨rfl, HBwt_5.out⟩
    | true =>
      replace H := ite_t H
      replace H := bind_hid H
      obtain ⟨t_9, qt_9, H⟩ := H
      go_wp2_with fail
      go_at_call 81
      refine (Go.Proofs.Ytlljmgphgmklcaa.GiIsWeight.C (grams)  _    qt_9).mono ?_
      rintro e_t_9 wt_9 ⟨rfl, bt_9⟩
      have HBwt_9 := Lib.hid (Below.step HBwt_5.out bt_9)
      clear bt_9
      replace H := app_hid H
      obtain rfl := ret_hid H
      go_wp2_with fail
      go_ret
      exact ⟨rfl, HBwt_9.out⟩
end Go.Proofs.Ytlljmgphgmklcaa.GiCanSend

/- loop.example/g01062/impl.RaiseRate$1 as a plain function, and the contract of the program's: where the plain one has an answer, the program has it. Conditions: slices read as lists. -/
namespace Go.Proofs.Ytlljmgphgmklcaa.GiRaiseRate1
set_option linter.unusedVariables false
set_option linter.unusedSimpArgs false
open Go.RowKit
open Go.Proofs.Ytlljmgphgmklcaa.Rowed Go.Proofs.Ytlljmgphgmklcaa.Turn Go.Proofs.Ytlljmgphgmklcaa.Aid Go.Proofs.Ytlljmgphgmklcaa.GoP Go.Proofs.Ytlljmgphgmklcaa.GoM

def P (r_0 : Go.Proofs.Ytlljmgphgmklcaa.PRate.Rate) (hq0_zone : Int) (hq0_grams : Int) (hq1 : Int) : Option (Bool) :=
  unRate r_0 fun (r_0_zone : Int) (r_0_grams : Int) (r_0_from_ : Int) (r_0_until_ : Int) (r_0_cents : Int) =>
  Option.bind (Go.Proofs.Ytlljmgphgmklcaa.GiClassOf.P (Go.Proofs.Ytlljmgphgmklcaa.PRate.Rate.mk r_0_zone r_0_grams r_0_from_ r_0_until_ r_0_cents)) fun (t_3 : Go.Proofs.Ytlljmgphgmklcaa.PrateClass.rateClass) =>
  unrateClass t_3 fun (t_3_zone : Int) (t_3_grams : Int) =>
  letK (t_3_zone == hq0_zone && t_3_grams == hq0_grams) fun (t_5 : Bool) =>
  joinK (fun (t_11 : Bool) =>
  joinK (fun (t_17 : Bool) =>
  some t_17) fun jt_17 => iteK t_11 (letK (decide (hq1 ≤ r_0_until_)) fun (t_16 : Bool) =>
  appK jt_17 t_16) (appK jt_17 false)) fun jt_11 => iteK t_5 (letK (decide (r_0_from_ < hq1)) fun (t_10 : Bool) =>
  appK jt_11 t_10) (appK jt_11 false)

set_option maxRecDepth 100000
theorem eqr_141 (x0 x1 y0 y1 : Int) : ∀ W, (Op.equalIn 10000 141 (.agg #[Value.int IntKind.i64 x0, Value.int IntKind.i64 x1]) (.agg #[Value.int IntKind.i64 y0, Value.int IntKind.i64 y1])).run Try.prog W = .ok (x0 == y0 && x1 == y1) W := by
  intro W
  rw [run_equalIn_agg W _ _ _ _ (by kernel_rfl) (by kernel_rfl)]
  obtain ⟨f, hf⟩ : ∃ f, (Try.prog.fieldsOf 141).toList = f := ⟨_, rfl⟩
  have : (Try.prog.fieldsOf 141).toList.map (fun f => (f.name, f.type, f.offset)) = [("zone", 3, 0), ("grams", 3, 1)] := by kernel_rfl
  rw [hf] at this ⊢
  match f, this with
  | [f0, f1], h =>
    simp only [List.map_cons, List.map_nil, List.cons.injEq, Prod.mk.injEq, and_true] at h
    obtain ⟨⟨a0, b0, d0⟩, a1, b1, d1⟩ := h
    simp only [Op.eqFields, a0, b0, d0, a1, b1, d1]
    have p0 : ∀ (w : World) (x0 x1 : Int), (part 3 #[Value.int IntKind.i64 x0, Value.int IntKind.i64 x1] 0).run Try.prog w = .ok (.int .i64 x0) w := fun w x0 x1 => run_part_plain w (by kernel_rfl) rfl
    have p1 : ∀ (w : World) (x0 x1 : Int), (part 3 #[Value.int IntKind.i64 x0, Value.int IntKind.i64 x1] 1).run Try.prog w = .ok (.int .i64 x1) w := fun w x0 x1 => run_part_plain w (by kernel_rfl) rfl
    have e0 : ∀ (w : World) (d : Nat) (x y : Int), (Op.equalIn (d + 1) 3 (.int .i64 x) (.int .i64 y)).run Try.prog w = .ok (x == y) w := fun w d x y => run_equalIn_int w d 3 .i64 .i64 x y Try.underlying3
    have e1 : ∀ (w : World) (x y : Int), (Op.equalIn 9999 3 (.int .i64 x) (.int .i64 y)).run Try.prog w = .ok (x == y) w := fun w x y => e0 w 9998 x y
    rw [if_pos (by decide)]; rw [if_pos (by decide)]
    simp only [Sem.run_bind, p0, p1, e1, Result.andThen_ok, Sem.run_ite, Sem.run_pure]
    cases x0 == y0 <;> cases x1 == y1 <;> rfl
theorem eqla_141 (x0 x1 y0 y1 : Int) : ∀ W, (binOp .eql 141 (.agg #[Value.int IntKind.i64 x0, Value.int IntKind.i64 x1]) (.agg #[Value.int IntKind.i64 y0, Value.int IntKind.i64 y1])).run Try.prog W = .ok (.bool (x0 == y0 && x1 == y1)) W := by
  intro W
  rw [run_eql_struct, eqr_141]; rfl
theorem neqa_141 (x0 x1 y0 y1 : Int) : ∀ W, (binOp .neq 141 (.agg #[Value.int IntKind.i64 x0, Value.int IntKind.i64 x1]) (.agg #[Value.int IntKind.i64 y0, Value.int IntKind.i64 y1])).run Try.prog W = .ok (.bool (!(x0 == y0 && x1 == y1))) W := by
  intro W
  rw [run_neq_struct, eqr_141]; rfl

set_option maxRecDepth 100000 in
set_option maxHeartbeats 2000000 in
theorem C (r_0 : Go.Proofs.Ytlljmgphgmklcaa.PRate.Rate) (hq0_zone : Int) (hq0_grams : Int) (hq1 : Int)  (gq0 : Nat) (gq1 : Nat) (w : World)  (Fq0_0h : Hid (w.cell? ⟨gq0, 0, none⟩ = some (.int .i64 hq0_zone))) (Fq0_1h : Hid (w.cell? ⟨gq0, 1, none⟩ = some (.int .i64 hq0_grams))) (Fq1h : Hid (w.cell? ⟨gq1, 0, none⟩ = some (.int .i64 hq1))) {r : Bool} (H : Hid (P r_0 hq0_zone hq0_grams hq1 = some r)) :
    Calls Try.prog 126 #[r_0.val, .pointer (some ⟨gq0, 0, none⟩), .pointer (some ⟨gq1, 0, none⟩)] w (Gives (.bool r) w) := by
  have HB := Lib.hid (Below.refl w.heap.size w)
  unfold P at H
  obtain ⟨r_0_zone, r_0_grams, r_0_from_, r_0_until_, r_0_cents⟩ := r_0
  replace H := unRate_hid H
  unfold Go.Proofs.Ytlljmgphgmklcaa.PRate.Rate.val
  have Fq0_0 := Fq0_0h.out
  have Fq0_1 := Fq0_1h.out
  have Fq1 := Fq1h.out
  go_enter Try.func126, Try.ntmps126
  obtain ⟨w_r_0, hw_r_0⟩ : ∃ x, w.alloc (.cells #[.int .i64 r_0_zone, .int .i64 r_0_grams, .int .i64 r_0_from_, .int .i64 r_0_until_, .int .i64 r_0_cents] 104) = x := ⟨_, rfl⟩
  have bw_r_0 : Below w.heap.size w w_r_0 := by rw [← hw_r_0]; exact (Below.refl _ _).alloc (Nat.le_refl _) _
  have HBw_r_0 := Lib.hid (Below.step HB.out bw_r_0)
  have Fq0_0__152 := cell_below bw_r_0 Fq0_0
  have Fq0_1__153 := cell_below bw_r_0 Fq0_1
  have Fq1__154 := cell_below bw_r_0 Fq1
  clear bw_r_0
  have kr_0_0 : w_r_0.cell? ⟨w.heap.size, 0, none⟩ = some (.int .i64 r_0_zone) := by rw [← hw_r_0]; exact box_new _ _ _ 0 _ rfl
  have kr_0_1 : w_r_0.cell? ⟨w.heap.size, 1, none⟩ = some (.int .i64 r_0_grams) := by rw [← hw_r_0]; exact box_new _ _ _ 1 _ rfl
  have kr_0_2 : w_r_0.cell? ⟨w.heap.size, 2, none⟩ = some (.int .i64 r_0_from_) := by rw [← hw_r_0]; exact box_new _ _ _ 2 _ rfl
  have kr_0_3 : w_r_0.cell? ⟨w.heap.size, 3, none⟩ = some (.int .i64 r_0_until_) := by rw [← hw_r_0]; exact box_new _ _ _ 3 _ rfl
  have kr_0_4 : w_r_0.cell? ⟨w.heap.size, 4, none⟩ = some (.int .i64 r_0_cents) := by rw [← hw_r_0]; exact box_new _ _ _ 4 _ rfl
  go_wp2_with fail
  clear Fq0_0 Fq0_1 Fq1
  have HFq0_0__152 := Lib.hid Fq0_0__152
  replace Fq0_0__152 := cell_regrown Fq0_0__152
  have HFq0_1__153 := Lib.hid Fq0_1__153
  replace Fq0_1__153 := cell_regrown Fq0_1__153
  have HFq1__154 := Lib.hid Fq1__154
  replace Fq1__154 := cell_regrown Fq1__154
  have Hkr_0_0 := Lib.hid kr_0_0
  replace kr_0_0 := cell_regrown kr_0_0
  have Hkr_0_1 := Lib.hid kr_0_1
  replace kr_0_1 := cell_regrown kr_0_1
  have Hkr_0_2 := Lib.hid kr_0_2
  replace kr_0_2 := cell_regrown kr_0_2
  have Hkr_0_3 := Lib.hid kr_0_3
  replace kr_0_3 := cell_regrown kr_0_3
  have Hkr_0_4 := Lib.hid kr_0_4
  replace kr_0_4 := cell_regrown kr_0_4
  replace H := bind_hid H
  obtain ⟨t_3, qt_3, H⟩ := H
  obtain ⟨t_3_zone, t_3_grams⟩ := t_3
  replace H := unrateClass_hid H
  have nt_3 : ∀ d os, Calls Try.prog 127 #[.agg #[.int .i64 r_0_zone, .int .i64 r_0_grams, .int .i64 r_0_from_, .int .i64 r_0_until_, .int .i64 r_0_cents]] (Go.Sort.grow (redrawn w_r_0 d) os) fun e w'' => e = .returned (.agg #[.int .i64 t_3_zone, .int .i64 t_3_grams]) ∧ ∃ p : Regrown, w'' = Go.Sort.grow (redrawn w_r_0 p.d) p.os := fun d os => Calls.regrown_of (Go.Proofs.Ytlljmgphgmklcaa.GiClassOf.C ((Go.Proofs.Ytlljmgphgmklcaa.PRate.Rate.mk r_0_zone r_0_grams r_0_from_ r_0_until_ r_0_cents))  _    qt_3)
  replace H := let_hid H
  obtain ⟨t_5, ht_5, H⟩ := H
  have ct_5 : ∀ W, (binOp .eql 141 (.agg #[.int .i64 t_3_zone, .int .i64 t_3_grams]) (.agg #[.int .i64 hq0_zone, .int .i64 hq0_grams])).run Try.prog W = .ok (.bool t_5) W := fun W => by rw [eqla_141, ht_5]
  replace H := join_hid H
  cases t_5 with
  | false =>
    replace H := ite_f H
    replace H := app_hid H
    replace H := join_hid H
    replace H := ite_f H
    replace H := app_hid H
    refine wp_region_quiet_below (by kernel_rfl) (by kernel_rfl) ?_
    repeat (go_big_quiet_step (first | (go_at_call 127; exact nt_3 _ _)))
    refine wpQuiet_nil ?_
    intro Y1 hY1
    replace hY1 := below_class hY1
    clear nt_3
    replace Fq0_0__152 := HFq0_0__152.out
    clear HFq0_0__152
    replace Fq0_1__153 := HFq0_1__153.out
    clear HFq0_1__153
    replace Fq1__154 := HFq1__154.out
    clear HFq1__154
    replace kr_0_0 := Hkr_0_0.out
    clear Hkr_0_0
    replace kr_0_1 := Hkr_0_1.out
    clear Hkr_0_1
    replace kr_0_2 := Hkr_0_2.out
    clear Hkr_0_2
    replace kr_0_3 := Hkr_0_3.out
    clear Hkr_0_3
    replace kr_0_4 := Hkr_0_4.out
    clear Hkr_0_4
    have HBY1 := Lib.hid (Below.step HBw_r_0.out hY1)
    replace Fq0_0__152 := cell_below hY1 Fq0_0__152
    replace Fq0_1__153 := cell_below hY1 Fq0_1__153
    replace Fq1__154 := cell_below hY1 Fq1__154
    replace kr_0_0 := cell_below hY1 kr_0_0
    replace kr_0_1 := cell_below hY1 kr_0_1
    replace kr_0_2 := cell_below hY1 kr_0_2
    replace kr_0_3 := cell_below hY1 kr_0_3
    replace kr_0_4 := cell_below hY1 kr_0_4
    clear hY1
    obtain rfl := ret_hid H
    go_wp2_with fail
    go_ret
    exact ⟨rfl, HBY1.out⟩
  | true =>
    replace H := ite_t H
    replace H := let_hid H
    obtain ⟨t_10, ht_10, H⟩ := H
    replace H := app_hid H
    replace H := join_hid H
    cases t_10 with
    | false =>
      replace H := ite_f H
      replace H := app_hid H
      refine wp_region_quiet_below (by kernel_rfl) (by kernel_rfl) ?_
      repeat (go_big_quiet_step (first | (go_at_call 127; exact nt_3 _ _)))
      refine wpQuiet_nil ?_
      intro Y1 hY1
      replace hY1 := below_class hY1
      clear nt_3
      replace Fq0_0__152 := HFq0_0__152.out
      clear HFq0_0__152
      replace Fq0_1__153 := HFq0_1__153.out
      clear HFq0_1__153
      replace Fq1__154 := HFq1__154.out
      clear HFq1__154
      replace kr_0_0 := Hkr_0_0.out
      clear Hkr_0_0
      replace kr_0_1 := Hkr_0_1.out
      clear Hkr_0_1
      replace kr_0_2 := Hkr_0_2.out
      clear Hkr_0_2
      replace kr_0_3 := Hkr_0_3.out
      clear Hkr_0_3
      replace kr_0_4 := Hkr_0_4.out
      clear Hkr_0_4
      have HBY1 := Lib.hid (Below.step HBw_r_0.out hY1)
      replace Fq0_0__152 := cell_below hY1 Fq0_0__152
      replace Fq0_1__153 := cell_below hY1 Fq0_1__153
      replace Fq1__154 := cell_below hY1 Fq1__154
      replace kr_0_0 := cell_below hY1 kr_0_0
      replace kr_0_1 := cell_below hY1 kr_0_1
      replace kr_0_2 := cell_below hY1 kr_0_2
      replace kr_0_3 := cell_below hY1 kr_0_3
      replace kr_0_4 := cell_below hY1 kr_0_4
      clear hY1
      obtain rfl := ret_hid H
      go_wp2_with fail
      go_ret
      exact ⟨rfl, HBY1.out⟩
    | true =>
      replace H := ite_t H
      replace H := let_hid H
      obtain ⟨t_16, ht_16, H⟩ := H
      replace H := app_hid H
      refine wp_region_quiet_below (by kernel_rfl) (by kernel_rfl) ?_
      repeat (go_big_quiet_step (first | (go_at_call 127; exact nt_3 _ _)))
      refine wpQuiet_nil ?_
      intro Y1 hY1
      replace hY1 := below_class hY1
      clear nt_3
      replace Fq0_0__152 := HFq0_0__152.out
      clear HFq0_0__152
      replace Fq0_1__153 := HFq0_1__153.out
      clear HFq0_1__153
      replace Fq1__154 := HFq1__154.out
      clear HFq1__154
      replace kr_0_0 := Hkr_0_0.out
      clear Hkr_0_0
      replace kr_0_1 := Hkr_0_1.out
      clear Hkr_0_1
      replace kr_0_2 := Hkr_0_2.out
      clear Hkr_0_2
      replace kr_0_3 := Hkr_0_3.out
      clear Hkr_0_3
      replace kr_0_4 := Hkr_0_4.out
      clear Hkr_0_4
      have HBY1 := Lib.hid (Below.step HBw_r_0.out hY1)
      replace Fq0_0__152 := cell_below hY1 Fq0_0__152
      replace Fq0_1__153 := cell_below hY1 Fq0_1__153
      replace Fq1__154 := cell_below hY1 Fq1__154
      replace kr_0_0 := cell_below hY1 kr_0_0
      replace kr_0_1 := cell_below hY1 kr_0_1
      replace kr_0_2 := cell_below hY1 kr_0_2
      replace kr_0_3 := cell_below hY1 kr_0_3
      replace kr_0_4 := cell_below hY1 kr_0_4
      clear hY1
      obtain rfl := ret_hid H
      go_wp2_with fail
      go_ret
      exact ⟨rfl, HBY1.out⟩
end Go.Proofs.Ytlljmgphgmklcaa.GiRaiseRate1

/- slices.IndexFunc[[]loop.example/g01062/impl.Rate,loop.example/g01062/impl.Rate] as a plain function, and the contract of the program's: where the plain one has an answer, the program has it. Conditions: slices read as lists. -/
namespace Go.Proofs.Ytlljmgphgmklcaa.GxSlicesIndexFuncLoopExampleG01062ImplRateLoopExampleG01062ImplRateiRaiseRate1
set_option linter.unusedVariables false
set_option linter.unusedSimpArgs false
open Go.RowKit
open Go.Proofs.Ytlljmgphgmklcaa.Rowed Go.Proofs.Ytlljmgphgmklcaa.Turn Go.Proofs.Ytlljmgphgmklcaa.Aid Go.Proofs.Ytlljmgphgmklcaa.GoP Go.Proofs.Ytlljmgphgmklcaa.GoM

def l0 (s_0 : (List Go.Proofs.Ytlljmgphgmklcaa.PRate.Rate)) (hf1_0_zone : Int) (hf1_0_grams : Int) (hf1_1 : Int) (k0 : Nat) (s : Unit) (nx0 bk0 : Unit → Option (Int)) : Option (Int) :=
  
  Option.bind (idx s_0 (k0 : Int)) fun (yt_10 : Go.Proofs.Ytlljmgphgmklcaa.PRate.Rate) =>
  unRate yt_10 fun (t_10_zone : Int) (t_10_grams : Int) (t_10_from_ : Int) (t_10_until_ : Int) (t_10_cents : Int) =>
  Option.bind (Go.Proofs.Ytlljmgphgmklcaa.GiRaiseRate1.P (Go.Proofs.Ytlljmgphgmklcaa.PRate.Rate.mk t_10_zone t_10_grams t_10_from_ t_10_until_ t_10_cents) hf1_0_zone hf1_0_grams hf1_1) fun (t_12 : Bool) =>
  iteK t_12
  (some (k0 : Int))
  (appK nx0 ())

def e0  (s : Unit) : Option (Int) :=
  
  some (-1)

def P (s_0 : (List Go.Proofs.Ytlljmgphgmklcaa.PRate.Rate)) (hf1_0_zone : Int) (hf1_0_grams : Int) (hf1_1 : Int) : Option (Int) :=
  cntK (l0 s_0 hf1_0_zone hf1_0_grams hf1_1) (s_0.length) 0 () (e0 )

set_option maxRecDepth 100000 in
set_option maxHeartbeats 2000000 in
theorem C (s_0 : (List Go.Proofs.Ytlljmgphgmklcaa.PRate.Rate)) (hf1_0_zone : Int) (hf1_0_grams : Int) (hf1_1 : Int) (A0 : Option Addr) (c0 : Nat) (gf1_0 : Nat) (gf1_1 : Nat) (w : World) (M0 : Hid (Cells w 5 A0 s_0.length (Go.Proofs.Ytlljmgphgmklcaa.PRate.flat s_0))) (N0 : Hid (s_0.length ≤ 9223372036854775807)) (Ff1_0_0h : Hid (w.cell? ⟨gf1_0, 0, none⟩ = some (.int .i64 hf1_0_zone))) (Ff1_0_1h : Hid (w.cell? ⟨gf1_0, 1, none⟩ = some (.int .i64 hf1_0_grams))) (Ff1_1h : Hid (w.cell? ⟨gf1_1, 0, none⟩ = some (.int .i64 hf1_1))) {r : Int} (H : Hid (P s_0 hf1_0_zone hf1_0_grams hf1_1 = some r)) :
    Calls Try.prog 125 #[.slice A0 s_0.length c0, .func (.func 126) #[] #[.pointer (some ⟨gf1_0, 0, none⟩), .pointer (some ⟨gf1_1, 0, none⟩)]] w (Gives (.int .i64 r) w) := by
  have HB := Lib.hid (Below.refl w.heap.size w)
  unfold P at H
  have N0o := N0.out
  have Ff1_0_0 := Ff1_0_0h.out
  have Ff1_0_1 := Ff1_0_1h.out
  have Ff1_1 := Ff1_1h.out
  go_enter Try.func125, Try.ntmps125
  go_wp2_with fail
  go_loopg [8] (s_0.length) (fun m_ v8_ wr => ∃ (k0 : Nat) , k0 + m_ = s_0.length ∧ v8_ = .int .i64 (k0 : Int) ∧ Hid (cntK (l0 s_0 hf1_0_zone hf1_0_grams hf1_1) m_ k0 () (e0 ) = some r) ∧ Hid (Below w.heap.size w wr) ∧ wr.cell? ⟨gf1_0, 0, none⟩ = some (.int .i64 hf1_0_zone) ∧ wr.cell? ⟨gf1_0, 1, none⟩ = some (.int .i64 hf1_0_grams) ∧ wr.cell? ⟨gf1_1, 0, none⟩ = some (.int .i64 hf1_1))
  case atStart => exact ⟨0, by omega, rfl, H, HB, Ff1_0_0, Ff1_0_1, Ff1_1⟩
  case round =>
    obtain ⟨k0, hkm0, rfl, H, HBwr0, Ff1_0_0, Ff1_0_1, Ff1_1⟩ := hrel
    rename World => wr0
    cases gk with
    | zero =>
      obtain rfl : k0 = s_0.length := by omega
      have hc0 : decide (((s_0.length : Nat) : Int) < ((s_0.length : Nat) : Int)) = false := by simp
      replace H := cnt_zero H
      unfold e0 at H
      obtain rfl := ret_hid H
      go_wp2_with fail
      go_ret
      exact ⟨rfl, HBwr0.out⟩
    | succ m0 =>
      have hlt0 : k0 < s_0.length := by omega
      have hc0 : decide ((k0 : Int) < ((s_0.length : Nat) : Int)) = true := by simp; omega
      replace H := cnt_succ H
      unfold l0 at H
      replace H := idx_hid H
      obtain ⟨nt_10, yt_10, et_10, lt_10, gt_10, H⟩ := H
      obtain rfl : k0 = nt_10 := by omega
      clear et_10
      obtain ⟨t_10_zone, t_10_grams, t_10_from_, t_10_until_, t_10_cents⟩ := yt_10
      replace H := unRate_hid H
      obtain ⟨ab_t_10, ao_t_10, zt_10, At_10, z_t_10, ct_10_0, ct_10_1, ct_10_2, ct_10_3, ct_10_4⟩ := Go.Proofs.Ytlljmgphgmklcaa.ORate.at_ M0.out lt_10
      obtain rfl := Option.some.inj (gt_10.out.symm.trans z_t_10)
      subst At_10
      have ltt_10 := cell_lt ct_10_0
      replace ct_10_0 := cell_below HBwr0.out ct_10_0
      replace ct_10_1 := cell_below HBwr0.out ct_10_1
      replace ct_10_2 := cell_below HBwr0.out ct_10_2
      replace ct_10_3 := cell_below HBwr0.out ct_10_3
      replace ct_10_4 := cell_below HBwr0.out ct_10_4
      clear z_t_10
      have b0t_10 : (0 : Int) ≤ (k0 : Int) := by omega
      have b1t_10 : (k0 : Int) < ((s_0.length : Nat) : Int) := by omega
      have b2t_10 : ((k0 : Int)).toNat = k0 := by omega
      replace H := bind_hid H
      obtain ⟨t_12, qt_12, H⟩ := H
      go_wp2_with fail
      go_at_call 126
      refine (Go.Proofs.Ytlljmgphgmklcaa.GiRaiseRate1.C ((Go.Proofs.Ytlljmgphgmklcaa.PRate.Rate.mk t_10_zone t_10_grams t_10_from_ t_10_until_ t_10_cents)) (hf1_0_zone) (hf1_0_grams) (hf1_1) (gf1_0) (gf1_1) _   (Lib.hid Ff1_0_0) (Lib.hid Ff1_0_1) (Lib.hid Ff1_1) qt_12).mono ?_
      rintro e_t_12 wt_12 ⟨rfl, bt_12⟩
      have HBwt_12 := Lib.hid (Below.step HBwr0.out bt_12)
      replace Ff1_0_0 := cell_below bt_12 Ff1_0_0
      replace Ff1_0_1 := cell_below bt_12 Ff1_0_1
      replace Ff1_1 := cell_below bt_12 Ff1_1
      replace ct_10_0 := cell_below bt_12 ct_10_0
      replace ct_10_1 := cell_below bt_12 ct_10_1
      replace ct_10_2 := cell_below bt_12 ct_10_2
      replace ct_10_3 := cell_below bt_12 ct_10_3
      replace ct_10_4 := cell_below bt_12 ct_10_4
      clear bt_12
      cases t_12 with
      | false =>
        replace H := ite_f H
        replace H := app_hid H
        go_wp2_with fail
        go_roundg m0
        case measure => omega
        case rel => exact ⟨k0 + 1, by omega, by go_num, H, HBwt_12, Ff1_0_0, Ff1_0_1, Ff1_1⟩
      | true =>
        replace H := ite_t H
        obtain rfl := ret_hid H
        go_wp2_with fail
        go_ret
        exact ⟨rfl, HBwt_12.out⟩
end Go.Proofs.Ytlljmgphgmklcaa.GxSlicesIndexFuncLoopExampleG01062ImplRateLoopExampleG01062ImplRateiRaiseRate1

/- slices.Grow of rates, from nil, as a plain function; the contract of the program's. Condition: the slice is nil. -/
namespace Go.Proofs.Ytlljmgphgmklcaa.GxSlicesGrowLoopExampleG01062ImplRateLoopExampleG01062ImplRate
set_option linter.unusedVariables false
set_option linter.unusedSimpArgs false
open Go.RowKit Go.Lib
open Go.Proofs.Ytlljmgphgmklcaa.Rowed Go.Proofs.Ytlljmgphgmklcaa.Turn Go.Proofs.Ytlljmgphgmklcaa.Aid Go.Proofs.Ytlljmgphgmklcaa.GoP Go.Proofs.Ytlljmgphgmklcaa.GoM
def P (s_0 : List Go.Proofs.Ytlljmgphgmklcaa.PRate.Rate) (n_1 : Int) : Option (List Go.Proofs.Ytlljmgphgmklcaa.PRate.Rate) := if s_0.length = 0 ∧ 0 ≤ n_1 ∧ n_1 ≤ 1099511627776 then some [] else none
theorem made {P : Program} (w : World) (e : TypeId) (z : Value) (hz : z.cells.size = 5) (n G : Nat) (h : n ≤ G) (hm : G ≤ maxLen) :
    (w.drew.alloc (.cells (([] : List Value).toArray ++ Builtin.zeroCells z.cells n ++ Builtin.zeroCells z.cells (G - n)) e)).ownsRow w.heap.size e 5 (.slice (some ⟨w.heap.size, 0, none⟩) 0 G) 0 [] ∧
    Below w.heap.size w (w.drew.alloc (.cells (([] : List Value).toArray ++ Builtin.zeroCells z.cells n ++ Builtin.zeroCells z.cells (G - n)) e)) := by
  refine ⟨World.ownsRow_made (size := 5) w.drew _ G (Nat.le_refl _) hm ?_, ((Below.refl _ _).drew).alloc (Nat.le_refl _) _⟩
  simp only [Builtin.zeroCells, Array.size_append, Array.size_map, Array.size_range, hz, List.size_toArray, List.length_nil]
  omega
set_option maxRecDepth 100000 in
set_option maxHeartbeats 2000000 in
theorem C (s_0 : List Go.Proofs.Ytlljmgphgmklcaa.PRate.Rate) (n_1 : Int) (w : World) {r : List Go.Proofs.Ytlljmgphgmklcaa.PRate.Rate} (H : Hid (P s_0 n_1 = some r)) :
    Calls Try.prog 159 #[.slice none 0 0, .int .i64 n_1] w (fun e w' => ∃ A_r c_r, e = .returned (.slice A_r r.length c_r) ∧ w'.ownsRow w.heap.size 104 5 (.slice A_r r.length c_r) r.length (Go.Proofs.Ytlljmgphgmklcaa.PRate.flat r) ∧ Below w.heap.size w w') := by
  have h : P s_0 n_1 = some r := H
  unfold P at h
  by_cases hp : s_0.length = 0 ∧ 0 ≤ n_1 ∧ n_1 ≤ 1099511627776
  · rw [if_pos hp] at h
    obtain rfl := Option.some.inj h
    obtain ⟨hl, hn0, hn1⟩ := hp
    clear h H hl
    obtain ⟨n, rfl⟩ : ∃ n : Nat, n_1 = (n : Int) := ⟨n_1.toNat, by omega⟩
    have h1 : ¬ ((n : Int) < 0) := by omega
    have h2 : wrap64 (((0 : Nat) : Int) - ((0 : Nat) : Int)) = 0 := by unfold wrap64; omega
    have h3 : wrap64 ((n : Int) - 0) = (n : Int) := by unfold wrap64; omega
    by_cases hz : n = 0
    · subst hz
      go_enter Try.func159, Try.ntmps159
      go_wp2_with fail
      go_ret
      exact ⟨none, 0, rfl, World.ownsRow_nil _ _ _ _, Below.refl _ _⟩
    · have h4 : (n : Int) > 0 := by omega
      obtain ⟨i0, hi, hz0, hz1, hz2⟩ := Aid.info_parts (P := Try.prog) (T := 104) (z := .agg #[.int .i64 0, .int .i64 0, .int .i64 0, .int .i64 0, .int .i64 0]) (s := 5) (b := 40) (by kernel_rfl)
      have hbig : (0 + n) * i0.bytes ≤ 140737488355328 := by rw [hz2]; omega
      have hold : (Builtin.firstCells i0.size 0 (.slice none 0 0)).run Try.prog w.drew = .ok ([] : List Value).toArray w.drew := run_firstCells_none w.drew i0.size 0 0 0
      have hrz : ∀ ty, (Builtin.append_ #[41, 3] ty #[.slice none 0 0, .int .i64 (n : Int)]).run Try.prog w =
          .ok (.slice (some ⟨w.heap.size, 0, none⟩) (0 + n) (grownCap w (0 + n) 0 104)) (w.drew.alloc (.cells (([] : List Value).toArray ++ Builtin.zeroCells (Value.agg #[.int .i64 0, .int .i64 0, .int .i64 0, .int .i64 0, .int .i64 0]).cells n ++ Builtin.zeroCells (Value.agg #[.int .i64 0, .int .i64 0, .int .i64 0, .int .i64 0, .int .i64 0]).cells (grownCap w (0 + n) 0 104 - (0 + n))) 104)) := fun ty =>
        Lib.run_append_grow_zeros w 41 3 ty 104 i0 _ .i64 .i64 Try.underlying41 Try.underlying3 hi hz0 none 0 0 [] hold n (by omega) (by rw [hz1]; decide) (by omega) (by omega) (by rw [hz2]; omega) (growslice_fits (by omega) hbig)
      have hGn : 0 + n ≤ grownCap w (0 + n) 0 104 := grownCap_ge w _ _ _
      have hGm : grownCap w (0 + n) 0 104 ≤ maxLen := grownCap_le_maxLen w (0 + n) 0 104 (by unfold maxLen; omega)
      obtain ⟨G, hG⟩ : ∃ G, G = grownCap w (0 + n) 0 104 := ⟨_, rfl⟩
      rw [← hG] at hrz hGn hGm
      rw [Nat.zero_add] at hrz hGn
      have hmade := made (P := Try.prog) w 104 (Value.agg #[.int .i64 0, .int .i64 0, .int .i64 0, .int .i64 0, .int .i64 0]) rfl n G hGn hGm
      obtain ⟨w1, hw1⟩ : ∃ x, w.drew.alloc (.cells (([] : List Value).toArray ++ Builtin.zeroCells (Value.agg #[.int .i64 0, .int .i64 0, .int .i64 0, .int .i64 0, .int .i64 0]).cells n ++ Builtin.zeroCells (Value.agg #[.int .i64 0, .int .i64 0, .int .i64 0, .int .i64 0, .int .i64 0]).cells (G - n)) 104) = x := ⟨_, rfl⟩
      rw [hw1] at hrz hmade
      unfold maxLen at hGm
      clear hold hG hbig
      go_enter Try.func159, Try.ntmps159
      go_wp2_with (at_builtin; refine Lib.wpList_append_run _ rfl _ _ _ _ rfl _ _ rfl rfl _ _ (hrz _) ?_)
      all_goals (go_ret; exact ⟨_, G, rfl, hmade.1, hmade.2⟩)
  · rw [if_neg hp] at h; simp at h
end Go.Proofs.Ytlljmgphgmklcaa.GxSlicesGrowLoopExampleG01062ImplRateLoopExampleG01062ImplRate

/- slices.Concat[[]loop.example/g01062/impl.Rate,loop.example/g01062/impl.Rate] as a plain function, and the contract of the program's: where the plain one has an answer, the program has it. Conditions: slices read as lists. -/
namespace Go.Proofs.Ytlljmgphgmklcaa.GxSlicesConcatLoopExampleG01062ImplRateLoopExampleG01062ImplRate
set_option linter.unusedVariables false
set_option linter.unusedSimpArgs false
open Go.RowKit
open Go.Proofs.Ytlljmgphgmklcaa.Rowed Go.Proofs.Ytlljmgphgmklcaa.Turn Go.Proofs.Ytlljmgphgmklcaa.Aid Go.Proofs.Ytlljmgphgmklcaa.GoP Go.Proofs.Ytlljmgphgmklcaa.GoM

def l0 (slices : (List (List Go.Proofs.Ytlljmgphgmklcaa.PRate.Rate))) (k0 : Nat) (s : Int) (nx0 bk0 : Int → Option ((List Go.Proofs.Ytlljmgphgmklcaa.PRate.Rate))) : Option ((List Go.Proofs.Ytlljmgphgmklcaa.PRate.Rate)) :=
  letK s fun size_3l0 =>
  Option.bind (idx slices (k0 : Int)) fun (yt_6 : (List Go.Proofs.Ytlljmgphgmklcaa.PRate.Rate)) =>
  letK (IntKind.i64.wrap (size_3l0 + (yt_6.length : Int))) fun (t_12 : Int) =>
  letK (decide (t_12 < 0)) fun (t_15 : Bool) =>
  iteK t_15
  (none)
  (appK nx0 (t_12))

def l1 (slices : (List (List Go.Proofs.Ytlljmgphgmklcaa.PRate.Rate))) (k1 : Nat) (s : (List Go.Proofs.Ytlljmgphgmklcaa.PRate.Rate)) (nx1 bk1 : (List Go.Proofs.Ytlljmgphgmklcaa.PRate.Rate) → Option ((List Go.Proofs.Ytlljmgphgmklcaa.PRate.Rate))) : Option ((List Go.Proofs.Ytlljmgphgmklcaa.PRate.Rate)) :=
  letK s fun newslice_6l1 =>
  Option.bind (idx slices (k1 : Int)) fun (yt_27 : (List Go.Proofs.Ytlljmgphgmklcaa.PRate.Rate)) =>
  guardK (newslice_6l1.length + yt_27.length ≤ 1099511627776) <|
  letK (newslice_6l1 ++ yt_27) fun (t_32 : (List Go.Proofs.Ytlljmgphgmklcaa.PRate.Rate)) =>
  appK nx1 (t_32)

def e1  (s : (List Go.Proofs.Ytlljmgphgmklcaa.PRate.Rate)) : Option ((List Go.Proofs.Ytlljmgphgmklcaa.PRate.Rate)) :=
  letK s fun newslice_6l1 =>
  some newslice_6l1

def e0 (slices : (List (List Go.Proofs.Ytlljmgphgmklcaa.PRate.Rate))) (s : Int) : Option ((List Go.Proofs.Ytlljmgphgmklcaa.PRate.Rate)) :=
  letK s fun size_3l0 =>
  Option.bind (Go.Proofs.Ytlljmgphgmklcaa.GxSlicesGrowLoopExampleG01062ImplRateLoopExampleG01062ImplRate.P [] size_3l0) fun (t_21 : (List Go.Proofs.Ytlljmgphgmklcaa.PRate.Rate)) =>
  cntK (l1 slices) (slices.length) 0 (t_21) (e1 )

def P (slices : (List (List Go.Proofs.Ytlljmgphgmklcaa.PRate.Rate))) : Option ((List Go.Proofs.Ytlljmgphgmklcaa.PRate.Rate)) :=
  cntK (l0 slices) (slices.length) 0 (0) (e0 slices)

set_option maxRecDepth 100000 in
set_option maxHeartbeats 2000000 in
theorem C (slices : (List (List Go.Proofs.Ytlljmgphgmklcaa.PRate.Rate))) (A0 : Option Addr) (c0 : Nat)  (w : World) (M0 : Hid (Go.Proofs.Ytlljmgphgmklcaa.GoN.ReadNest w 5 Go.Proofs.Ytlljmgphgmklcaa.PRate.flat A0 slices)) (N0 : Hid (slices.length ≤ 9223372036854775807)) (Q0 : Hid (Room A0 slices.length c0))  {r : (List Go.Proofs.Ytlljmgphgmklcaa.PRate.Rate)} (H : Hid (P slices = some r)) :
    Calls Try.prog 128 #[.slice A0 slices.length c0] w (fun e w' => ∃ A_r c_r, e = .returned (.slice A_r r.length c_r) ∧ w'.ownsRow w.heap.size 104 5 (.slice A_r r.length c_r) r.length (Go.Proofs.Ytlljmgphgmklcaa.PRate.flat r) ∧ Below w.heap.size w w') := by
  have HB := Lib.hid (Below.refl w.heap.size w)
  unfold P at H
  have N0o := N0.out
  obtain ⟨i0_104, hi_104, hz0_104, hz1_104, hz2_104⟩ := Aid.info_parts (P := Try.prog) (T := 104) (z := .agg #[.int .i64 0, .int .i64 0, .int .i64 0, .int .i64 0, .int .i64 0]) (s := 5) (b := 40) (by kernel_rfl)
  go_enter Try.func128, Try.ntmps128
  go_wp2_with fail
  go_loopg [11, 3] (slices.length) (fun m_ v11_ v3_ wr => ∃ (k0 : Nat) (size_3l0 : Int), k0 + m_ = slices.length ∧ v11_ = .int .i64 (k0 : Int) ∧ v3_ = .int .i64 size_3l0 ∧ Hid (cntK (l0 slices) m_ k0 (size_3l0) (e0 slices) = some r) ∧ Hid (Below w.heap.size w wr))
  case atStart => exact ⟨0, _, by omega, rfl, rfl, H, HB⟩
  case round =>
    obtain ⟨k0, size_3l0, hkm0, rfl, rfl, H, HBwr0⟩ := hrel
    rename World => wr0
    cases gk with
    | zero =>
      obtain rfl : k0 = slices.length := by omega
      have hc0 : decide (((slices.length : Nat) : Int) < ((slices.length : Nat) : Int)) = false := by simp
      replace H := cnt_zero H
      unfold e0 at H
      replace H := let_hid H
      obtain ⟨_, rfl, H⟩ := H
      replace H := bind_hid H
      obtain ⟨t_21, qt_21, H⟩ := H
      go_wp2_with fail
      go_at_call 159
      refine (Go.Proofs.Ytlljmgphgmklcaa.GxSlicesGrowLoopExampleG01062ImplRateLoopExampleG01062ImplRate.C ([]) (size_3l0)  _    qt_21).mono ?_
      rintro e_t_21 wt_21 ⟨At_21, ct_21, rfl, ot_21, bt_21⟩
      have Ot_21 := Lib.hid (own_lower ot_21 HBwr0.out.size)
      clear ot_21
      have HBwt_21 := Lib.hid (Below.step HBwr0.out bt_21)
      clear bt_21
      go_wp2_with fail
      go_loopg [27, 6] (slices.length) (fun m_ v27_ v6_ wr => ∃ (k1 : Nat) (newslice_6l1 : (List Go.Proofs.Ytlljmgphgmklcaa.PRate.Rate)) (Anewslice_6l1 : Option Addr) (cnewslice_6l1 : Nat), k1 + m_ = slices.length ∧ v27_ = .int .i64 (k1 : Int) ∧ v6_ = .slice Anewslice_6l1 newslice_6l1.length cnewslice_6l1 ∧ Hid (cntK (l1 slices) m_ k1 (newslice_6l1) (e1 ) = some r) ∧ Hid (Below w.heap.size w wr) ∧ Hid (wr.ownsRow w.heap.size 104 5 (.slice Anewslice_6l1 newslice_6l1.length cnewslice_6l1) newslice_6l1.length (Go.Proofs.Ytlljmgphgmklcaa.PRate.flat newslice_6l1)))
      case atStart => exact ⟨0, _, _, _, by omega, rfl, rfl, H, HBwt_21, Ot_21⟩
      case round =>
        obtain ⟨k1, newslice_6l1, Anewslice_6l1, cnewslice_6l1, hkm1, rfl, rfl, H, HBwr1, Onewslice_6l1⟩ := hrel
        rename World => wr1
        cases gk with
        | zero =>
          obtain rfl : k1 = slices.length := by omega
          have hc1 : decide (((slices.length : Nat) : Int) < ((slices.length : Nat) : Int)) = false := by simp
          replace H := cnt_zero H
          unfold e1 at H
          replace H := let_hid H
          obtain ⟨_, rfl, H⟩ := H
          obtain rfl := ret_hid H
          go_wp2_with fail
          go_ret
          exact ⟨Anewslice_6l1, cnewslice_6l1, rfl, Onewslice_6l1.out, HBwr1.out⟩
        | succ m1 =>
          have hlt1 : k1 < slices.length := by omega
          have hc1 : decide ((k1 : Int) < ((slices.length : Nat) : Int)) = true := by simp; omega
          replace H := cnt_succ H
          unfold l1 at H
          replace H := let_hid H
          obtain ⟨_, rfl, H⟩ := H
          replace H := idx_hid H
          obtain ⟨nt_27, yt_27, et_27, lt_27, gt_27, H⟩ := H
          obtain rfl : k1 = nt_27 := by omega
          clear et_27
          obtain ⟨bbt_27, oot_27, zt_27, Art_27, crt_27, eAt_27, zzt_27, hct_27, hrt_27, hqt_27, hnt_27⟩ := Go.Proofs.Ytlljmgphgmklcaa.GoN.nest_at M0.out (k := k1) lt_27
          obtain rfl := Option.some.inj (gt_27.out.symm.trans zzt_27)
          clear zzt_27
          subst eAt_27
          have ltt_27 := cell_lt hct_27
          replace hct_27 := cell_below HBwr1.out hct_27
          have Mrt_27 := Lib.hid hrt_27
          have Qrt_27 := Lib.hid hqt_27
          have Nrt_27 := Lib.hid hnt_27
          clear hrt_27 hqt_27 hnt_27
          have b0t_27 : (0 : Int) ≤ (k1 : Int) := by omega
          have b1t_27 : (k1 : Int) < ((slices.length : Nat) : Int) := by omega
          have b2t_27 : ((k1 : Int)).toNat = k1 := by omega
          replace H := guard_hid H
          obtain ⟨hlt_32, H⟩ := H
          replace H := let_hid H
          obtain ⟨t_32, ht_32, H⟩ := H
          have hht_32 := Lib.hid ht_32
          clear ht_32
          have hst_32 := HBwr1.out.size
          have Ct_32 := Lib.hid ((Cells.below Mrt_27.out HBwr1.out))
          go_wp2_with (at_builtin; refine append_spread rfl _ _ 41 rfl w.heap.size 104 i0_104 (.agg #[.int .i64 0, .int .i64 0, .int .i64 0, .int .i64 0, .int .i64 0]) 5 40 Try.underlying41 hi_104 hz0_104 hz1_104 hz2_104 rfl (by decide) Anewslice_6l1 cnewslice_6l1 newslice_6l1.length _ rfl Onewslice_6l1.out Art_27 yt_27.length crt_27 (Go.Proofs.Ytlljmgphgmklcaa.PRate.flat yt_27) rfl Qrt_27.out Ct_32.out (fun u hu => by obtain ⟨y_, _, hy_⟩ := List.mem_flatMap.1 hu; simp only [Go.Proofs.Ytlljmgphgmklcaa.PRate.Rate.cells, List.mem_cons, List.not_mem_nil, or_false] at hy_; rcases hy_ with rfl | rfl | rfl | rfl | rfl <;> rfl) (by unfold maxLen; omega) (by omega) hst_32 ?_; intro vt_32 wt_32 ot_32 gt_32 yt_32; obtain ⟨At_32, ct_32, rfl, pt_32⟩ := own_pushS (f := Go.Proofs.Ytlljmgphgmklcaa.PRate.flat) hht_32.out (by simp [Go.Proofs.Ytlljmgphgmklcaa.PRate.flat]) rfl ot_32; have Pt_32 := Lib.hid pt_32; have Yt_32 := Lib.hid yt_32; have Gt_32 := Lib.hid gt_32; clear ot_32 gt_32 pt_32 yt_32; refine stop_in ?_)
          refine stop_out ?_
          clear Ct_32
          have HBwt_32 := Lib.hid (HBwr1.out.grown Gt_32.out hst_32 (fun q hq => (Onewslice_6l1.out.lt q hq).1))
          clear hst_32
          replace hct_27 := cell_other hct_27 Gt_32.out (apart_old Onewslice_6l1.out ltt_27)
          clear Onewslice_6l1 Yt_32 Gt_32
          replace H := app_hid H
          go_wp2_with fail
          go_roundg m1
          case measure => omega
          case rel => exact ⟨k1 + 1, _, _, _, by omega, by go_num, rfl, H, HBwt_32, Pt_32⟩
    | succ m0 =>
      have hlt0 : k0 < slices.length := by omega
      have hc0 : decide ((k0 : Int) < ((slices.length : Nat) : Int)) = true := by simp; omega
      replace H := cnt_succ H
      unfold l0 at H
      replace H := let_hid H
      obtain ⟨_, rfl, H⟩ := H
      replace H := idx_hid H
      obtain ⟨nt_6, yt_6, et_6, lt_6, gt_6, H⟩ := H
      obtain rfl : k0 = nt_6 := by omega
      clear et_6
      obtain ⟨bbt_6, oot_6, zt_6, Art_6, crt_6, eAt_6, zzt_6, hct_6, hrt_6, hqt_6, hnt_6⟩ := Go.Proofs.Ytlljmgphgmklcaa.GoN.nest_at M0.out (k := k0) lt_6
      obtain rfl := Option.some.inj (gt_6.out.symm.trans zzt_6)
      clear zzt_6
      subst eAt_6
      have ltt_6 := cell_lt hct_6
      replace hct_6 := cell_below HBwr0.out hct_6
      have Mrt_6 := Lib.hid hrt_6
      have Qrt_6 := Lib.hid hqt_6
      have Nrt_6 := Lib.hid hnt_6
      clear hrt_6 hqt_6 hnt_6
      have b0t_6 : (0 : Int) ≤ (k0 : Int) := by omega
      have b1t_6 : (k0 : Int) < ((slices.length : Nat) : Int) := by omega
      have b2t_6 : ((k0 : Int)).toNat = k0 := by omega
      replace H := let_hid H
      obtain ⟨t_12, ht_12, H⟩ := H
      replace H := let_hid H
      obtain ⟨t_15, ht_15, H⟩ := H
      cases t_15 with
      | false =>
        replace H := ite_f H
        replace H := app_hid H
        go_wp2_with fail
        go_roundg m0
        case measure => omega
        case rel => exact ⟨k0 + 1, _, by omega, by go_num, rfl, H, HBwr0⟩
      | true =>
        replace H := ite_t H
        exact (none_hid H).elim
end Go.Proofs.Ytlljmgphgmklcaa.GxSlicesConcatLoopExampleG01062ImplRateLoopExampleG01062ImplRate

