/- loop.example/g01062/impl.canFollow as a plain function, and the contract of the program's: where the plain one has an answer, the program has it. Conditions: slices read as lists. -/
import Derived.Test.YtkinlkmmelkdnaaDoorChecked
import Derived.Test.YtkinlkmmelkdnaaDoorGoM
import Derived.Test.YtkinlkmmelkdnaaDoorGoRRate
import Derived.Test.YtkinlkmmelkdnaaDoorGoRrateClass
import Derived.Test.YtkinlkmmelkdnaaDoorHelpInt
import Derived.Test.YtkinlkmmelkdnaaDoorPrateClass
import Derived.Test.YtkinlkmmelkdnaaDoorGiClassOf
import Derived.Test.YtkinlkmmelkdnaaDoorGxCmpCompareInt
import Derived.Test.YtkinlkmmelkdnaaDoorGxCmpOrInt
import Derived.WalkKit
import Derived.Laws.StructEq
import Derived.ChangeKeysEq
import Derived.WalkSpells
import Derived.WalkLawsBesides
import Derived.BigQuiet
import Derived.OwnWalk
import Derived.Deep.LoopGhost
import Derived.Deep.QuietTactic
import Derived.IntWalk
import Derived.Lib.QuietBelow
import Derived.Deep.RegionHeld3
namespace Go.Proofs.YtkinlkmmelkdnaaDoor.GiCanFollow
set_option linter.unusedVariables false
set_option linter.unusedSimpArgs false
open Go.RowKit
open Go.Proofs.YtkinlkmmelkdnaaDoor.Rowed Go.Proofs.YtkinlkmmelkdnaaDoor.Turn Go.Proofs.YtkinlkmmelkdnaaDoor.Aid Go.Proofs.YtkinlkmmelkdnaaDoor.GoP Go.Proofs.YtkinlkmmelkdnaaDoor.GoM

def P (r_0 : Go.Proofs.YtkinlkmmelkdnaaDoor.PRate.Rate) (before : Go.Proofs.YtkinlkmmelkdnaaDoor.PRate.Rate) : Option (Bool) :=
  unRate r_0 fun (r_0_zone : Int) (r_0_grams : Int) (r_0_from_ : Int) (r_0_until_ : Int) (r_0_cents : Int) =>
  unRate before fun (before_zone : Int) (before_grams : Int) (before_from_ : Int) (before_until_ : Int) (before_cents : Int) =>
  Option.bind (Go.Proofs.YtkinlkmmelkdnaaDoor.GiClassOf.P (Go.Proofs.YtkinlkmmelkdnaaDoor.PRate.Rate.mk r_0_zone r_0_grams r_0_from_ r_0_until_ r_0_cents)) fun (t_4 : Go.Proofs.YtkinlkmmelkdnaaDoor.PrateClass.rateClass) =>
  unrateClass t_4 fun (t_4_zone : Int) (t_4_grams : Int) =>
  Option.bind (Go.Proofs.YtkinlkmmelkdnaaDoor.GiClassOf.P (Go.Proofs.YtkinlkmmelkdnaaDoor.PRate.Rate.mk before_zone before_grams before_from_ before_until_ before_cents)) fun (t_6 : Go.Proofs.YtkinlkmmelkdnaaDoor.PrateClass.rateClass) =>
  unrateClass t_6 fun (t_6_zone : Int) (t_6_grams : Int) =>
  letK (t_4_zone == t_6_zone && t_4_grams == t_6_grams) fun (t_7 : Bool) =>
  iteK t_7
  (letK (decide (before_until_ < r_0_from_)) fun (t_12 : Bool) =>
  some t_12)
  (Option.bind (Go.Proofs.YtkinlkmmelkdnaaDoor.GxCmpCompareInt.P before_zone r_0_zone) fun (t_18 : Int) =>
  Option.bind (Go.Proofs.YtkinlkmmelkdnaaDoor.GxCmpCompareInt.P before_grams r_0_grams) fun (t_23 : Int) =>
  letK ([t_18, t_23]) fun (t_24 : (List Int)) =>
  Option.bind (Go.Proofs.YtkinlkmmelkdnaaDoor.GxCmpOrInt.P t_24) fun (t_25 : Int) =>
  letK (decide (t_25 < 0)) fun (t_26 : Bool) =>
  some t_26)

set_option maxRecDepth 100000
theorem eqr_94 (x0 x1 y0 y1 : Int) : ∀ W, (Op.equalIn 10000 94 (.agg #[Value.int IntKind.i64 x0, Value.int IntKind.i64 x1]) (.agg #[Value.int IntKind.i64 y0, Value.int IntKind.i64 y1])).run Tryd.prog W = .ok (x0 == y0 && x1 == y1) W := by
  intro W
  rw [run_equalIn_agg W _ _ _ _ (by kernel_rfl) (by kernel_rfl)]
  obtain ⟨f, hf⟩ : ∃ f, (Tryd.prog.fieldsOf 94).toList = f := ⟨_, rfl⟩
  have : (Tryd.prog.fieldsOf 94).toList.map (fun f => (f.name, f.type, f.offset)) = [("zone", 3, 0), ("grams", 3, 1)] := by kernel_rfl
  rw [hf] at this ⊢
  match f, this with
  | [f0, f1], h =>
    simp only [List.map_cons, List.map_nil, List.cons.injEq, Prod.mk.injEq, and_true] at h
    obtain ⟨⟨a0, b0, d0⟩, a1, b1, d1⟩ := h
    simp only [Op.eqFields, a0, b0, d0, a1, b1, d1]
    have p0 : ∀ (w : World) (x0 x1 : Int), (part 3 #[Value.int IntKind.i64 x0, Value.int IntKind.i64 x1] 0).run Tryd.prog w = .ok (.int .i64 x0) w := fun w x0 x1 => run_part_plain w (by kernel_rfl) rfl
    have p1 : ∀ (w : World) (x0 x1 : Int), (part 3 #[Value.int IntKind.i64 x0, Value.int IntKind.i64 x1] 1).run Tryd.prog w = .ok (.int .i64 x1) w := fun w x0 x1 => run_part_plain w (by kernel_rfl) rfl
    have e0 : ∀ (w : World) (d : Nat) (x y : Int), (Op.equalIn (d + 1) 3 (.int .i64 x) (.int .i64 y)).run Tryd.prog w = .ok (x == y) w := fun w d x y => run_equalIn_int w d 3 .i64 .i64 x y Tryd.underlying3
    have e1 : ∀ (w : World) (x y : Int), (Op.equalIn 9999 3 (.int .i64 x) (.int .i64 y)).run Tryd.prog w = .ok (x == y) w := fun w x y => e0 w 9998 x y
    rw [if_pos (by decide)]; rw [if_pos (by decide)]
    simp only [Sem.run_bind, p0, p1, e1, Result.andThen_ok, Sem.run_ite, Sem.run_pure]
    cases x0 == y0 <;> cases x1 == y1 <;> rfl
theorem eqla_94 (x0 x1 y0 y1 : Int) : ∀ W, (binOp .eql 94 (.agg #[Value.int IntKind.i64 x0, Value.int IntKind.i64 x1]) (.agg #[Value.int IntKind.i64 y0, Value.int IntKind.i64 y1])).run Tryd.prog W = .ok (.bool (x0 == y0 && x1 == y1)) W := by
  intro W
  rw [run_eql_struct, eqr_94]; rfl
theorem neqa_94 (x0 x1 y0 y1 : Int) : ∀ W, (binOp .neq 94 (.agg #[Value.int IntKind.i64 x0, Value.int IntKind.i64 x1]) (.agg #[Value.int IntKind.i64 y0, Value.int IntKind.i64 y1])).run Tryd.prog W = .ok (.bool (!(x0 == y0 && x1 == y1))) W := by
  intro W
  rw [run_neq_struct, eqr_94]; rfl

set_option maxRecDepth 100000 in
set_option maxHeartbeats 2000000 in
theorem C (r_0 : Go.Proofs.YtkinlkmmelkdnaaDoor.PRate.Rate) (before : Go.Proofs.YtkinlkmmelkdnaaDoor.PRate.Rate)   (w : World)   {r : Bool} (H : Hid (P r_0 before = some r)) :
    Calls Tryd.prog 53 #[r_0.val, before.val] w (Gives (.bool r) w) := by
  have HB := Lib.hid (Below.refl w.heap.size w)
  unfold P at H
  obtain ⟨r_0_zone, r_0_grams, r_0_from_, r_0_until_, r_0_cents⟩ := r_0
  replace H := unRate_hid H
  obtain ⟨before_zone, before_grams, before_from_, before_until_, before_cents⟩ := before
  replace H := unRate_hid H
  unfold Go.Proofs.YtkinlkmmelkdnaaDoor.PRate.Rate.val
  go_enter Tryd.func53, Tryd.ntmps53
  obtain ⟨w_r_0, hw_r_0⟩ : ∃ x, w.alloc (.cells #[.int .i64 r_0_zone, .int .i64 r_0_grams, .int .i64 r_0_from_, .int .i64 r_0_until_, .int .i64 r_0_cents] 26) = x := ⟨_, rfl⟩
  have bw_r_0 : Below w.heap.size w w_r_0 := by rw [← hw_r_0]; exact (Below.refl _ _).alloc (Nat.le_refl _) _
  have HBw_r_0 := Lib.hid (Below.step HB.out bw_r_0)
  clear bw_r_0
  have kr_0_0 : w_r_0.cell? ⟨w.heap.size, 0, none⟩ = some (.int .i64 r_0_zone) := by rw [← hw_r_0]; exact box_new _ _ _ 0 _ rfl
  have kr_0_1 : w_r_0.cell? ⟨w.heap.size, 1, none⟩ = some (.int .i64 r_0_grams) := by rw [← hw_r_0]; exact box_new _ _ _ 1 _ rfl
  have kr_0_2 : w_r_0.cell? ⟨w.heap.size, 2, none⟩ = some (.int .i64 r_0_from_) := by rw [← hw_r_0]; exact box_new _ _ _ 2 _ rfl
  have kr_0_3 : w_r_0.cell? ⟨w.heap.size, 3, none⟩ = some (.int .i64 r_0_until_) := by rw [← hw_r_0]; exact box_new _ _ _ 3 _ rfl
  have kr_0_4 : w_r_0.cell? ⟨w.heap.size, 4, none⟩ = some (.int .i64 r_0_cents) := by rw [← hw_r_0]; exact box_new _ _ _ 4 _ rfl
  obtain ⟨w_before_1, hw_before_1⟩ : ∃ x, w_r_0.alloc (.cells #[.int .i64 before_zone, .int .i64 before_grams, .int .i64 before_from_, .int .i64 before_until_, .int .i64 before_cents] 26) = x := ⟨_, rfl⟩
  have bw_before_1 : Below w_r_0.heap.size w_r_0 w_before_1 := by rw [← hw_before_1]; exact (Below.refl _ _).alloc (Nat.le_refl _) _
  have HBw_before_1 := Lib.hid (Below.step HBw_r_0.out bw_before_1)
  have kr_0_0__310 := cell_below bw_before_1 kr_0_0
  have kr_0_1__311 := cell_below bw_before_1 kr_0_1
  have kr_0_2__312 := cell_below bw_before_1 kr_0_2
  have kr_0_3__313 := cell_below bw_before_1 kr_0_3
  have kr_0_4__314 := cell_below bw_before_1 kr_0_4
  clear bw_before_1
  have kbefore_1_0 : w_before_1.cell? ⟨w_r_0.heap.size, 0, none⟩ = some (.int .i64 before_zone) := by rw [← hw_before_1]; exact box_new _ _ _ 0 _ rfl
  have kbefore_1_1 : w_before_1.cell? ⟨w_r_0.heap.size, 1, none⟩ = some (.int .i64 before_grams) := by rw [← hw_before_1]; exact box_new _ _ _ 1 _ rfl
  have kbefore_1_2 : w_before_1.cell? ⟨w_r_0.heap.size, 2, none⟩ = some (.int .i64 before_from_) := by rw [← hw_before_1]; exact box_new _ _ _ 2 _ rfl
  have kbefore_1_3 : w_before_1.cell? ⟨w_r_0.heap.size, 3, none⟩ = some (.int .i64 before_until_) := by rw [← hw_before_1]; exact box_new _ _ _ 3 _ rfl
  have kbefore_1_4 : w_before_1.cell? ⟨w_r_0.heap.size, 4, none⟩ = some (.int .i64 before_cents) := by rw [← hw_before_1]; exact box_new _ _ _ 4 _ rfl
  go_wp2_with fail
  clear kr_0_0 kr_0_1 kr_0_2 kr_0_3 kr_0_4
  have Hkr_0_0__310 := Lib.hid kr_0_0__310
  replace kr_0_0__310 := cell_regrown kr_0_0__310
  have Hkr_0_1__311 := Lib.hid kr_0_1__311
  replace kr_0_1__311 := cell_regrown kr_0_1__311
  have Hkr_0_2__312 := Lib.hid kr_0_2__312
  replace kr_0_2__312 := cell_regrown kr_0_2__312
  have Hkr_0_3__313 := Lib.hid kr_0_3__313
  replace kr_0_3__313 := cell_regrown kr_0_3__313
  have Hkr_0_4__314 := Lib.hid kr_0_4__314
  replace kr_0_4__314 := cell_regrown kr_0_4__314
  have Hkbefore_1_0 := Lib.hid kbefore_1_0
  replace kbefore_1_0 := cell_regrown kbefore_1_0
  have Hkbefore_1_1 := Lib.hid kbefore_1_1
  replace kbefore_1_1 := cell_regrown kbefore_1_1
  have Hkbefore_1_2 := Lib.hid kbefore_1_2
  replace kbefore_1_2 := cell_regrown kbefore_1_2
  have Hkbefore_1_3 := Lib.hid kbefore_1_3
  replace kbefore_1_3 := cell_regrown kbefore_1_3
  have Hkbefore_1_4 := Lib.hid kbefore_1_4
  replace kbefore_1_4 := cell_regrown kbefore_1_4
  replace H := bind_hid H
  obtain ⟨t_4, qt_4, H⟩ := H
  obtain ⟨t_4_zone, t_4_grams⟩ := t_4
  replace H := unrateClass_hid H
  have nt_4 : ∀ d os, Calls Tryd.prog 98 #[.agg #[.int .i64 r_0_zone, .int .i64 r_0_grams, .int .i64 r_0_from_, .int .i64 r_0_until_, .int .i64 r_0_cents]] (Go.Sort.grow (redrawn w_before_1 d) os) fun e w'' => e = .returned (.agg #[.int .i64 t_4_zone, .int .i64 t_4_grams]) ∧ ∃ p : Regrown, w'' = Go.Sort.grow (redrawn w_before_1 p.d) p.os := fun d os => Calls.regrown_of (Go.Proofs.YtkinlkmmelkdnaaDoor.GiClassOf.C ((Go.Proofs.YtkinlkmmelkdnaaDoor.PRate.Rate.mk r_0_zone r_0_grams r_0_from_ r_0_until_ r_0_cents))  _    qt_4)
  replace H := bind_hid H
  obtain ⟨t_6, qt_6, H⟩ := H
  obtain ⟨t_6_zone, t_6_grams⟩ := t_6
  replace H := unrateClass_hid H
  have nt_6 : ∀ d os, Calls Tryd.prog 98 #[.agg #[.int .i64 before_zone, .int .i64 before_grams, .int .i64 before_from_, .int .i64 before_until_, .int .i64 before_cents]] (Go.Sort.grow (redrawn w_before_1 d) os) fun e w'' => e = .returned (.agg #[.int .i64 t_6_zone, .int .i64 t_6_grams]) ∧ ∃ p : Regrown, w'' = Go.Sort.grow (redrawn w_before_1 p.d) p.os := fun d os => Calls.regrown_of (Go.Proofs.YtkinlkmmelkdnaaDoor.GiClassOf.C ((Go.Proofs.YtkinlkmmelkdnaaDoor.PRate.Rate.mk before_zone before_grams before_from_ before_until_ before_cents))  _    qt_6)
  replace H := let_hid H
  obtain ⟨t_7, ht_7, H⟩ := H
  have ct_7 : ∀ W, (binOp .eql 94 (.agg #[.int .i64 t_4_zone, .int .i64 t_4_grams]) (.agg #[.int .i64 t_6_zone, .int .i64 t_6_grams])).run Tryd.prog W = .ok (.bool t_7) W := fun W => by rw [eqla_94, ht_7]
  refine wp_region_quiet_below (by kernel_rfl) (by kernel_rfl) ?_
  repeat (go_big_quiet_step (first | (go_at_call 98; with_reducible exact nt_4 _ _) | (go_at_call 98; with_reducible exact nt_6 _ _) | (go_at_call 98; exact nt_4 _ _) | (go_at_call 98; exact nt_6 _ _)))
  refine wpQuiet_nil ?_
  intro Y1 hY1
  replace hY1 := below_class hY1
  clear nt_4 nt_6
  replace kr_0_0__310 := Hkr_0_0__310.out
  clear Hkr_0_0__310
  replace kr_0_1__311 := Hkr_0_1__311.out
  clear Hkr_0_1__311
  replace kr_0_2__312 := Hkr_0_2__312.out
  clear Hkr_0_2__312
  replace kr_0_3__313 := Hkr_0_3__313.out
  clear Hkr_0_3__313
  replace kr_0_4__314 := Hkr_0_4__314.out
  clear Hkr_0_4__314
  replace kbefore_1_0 := Hkbefore_1_0.out
  clear Hkbefore_1_0
  replace kbefore_1_1 := Hkbefore_1_1.out
  clear Hkbefore_1_1
  replace kbefore_1_2 := Hkbefore_1_2.out
  clear Hkbefore_1_2
  replace kbefore_1_3 := Hkbefore_1_3.out
  clear Hkbefore_1_3
  replace kbefore_1_4 := Hkbefore_1_4.out
  clear Hkbefore_1_4
  have HBY1 := Lib.hid (Below.step HBw_before_1.out hY1)
  replace kr_0_0__310 := cell_below hY1 kr_0_0__310
  replace kr_0_1__311 := cell_below hY1 kr_0_1__311
  replace kr_0_2__312 := cell_below hY1 kr_0_2__312
  replace kr_0_3__313 := cell_below hY1 kr_0_3__313
  replace kr_0_4__314 := cell_below hY1 kr_0_4__314
  replace kbefore_1_0 := cell_below hY1 kbefore_1_0
  replace kbefore_1_1 := cell_below hY1 kbefore_1_1
  replace kbefore_1_2 := cell_below hY1 kbefore_1_2
  replace kbefore_1_3 := cell_below hY1 kbefore_1_3
  replace kbefore_1_4 := cell_below hY1 kbefore_1_4
  clear hY1
  cases t_7 with
  | false =>
    replace H := ite_f H
    go_wp2_with fail
    have bd3 : Below Y1.heap.size Y1 Y1.drew := (Below.refl _ _).drew
    have HBY1.drew := Lib.hid (Below.step HBY1.out bd3)
    replace kr_0_0__310 := cell_below bd3 kr_0_0__310
    replace kr_0_1__311 := cell_below bd3 kr_0_1__311
    replace kr_0_2__312 := cell_below bd3 kr_0_2__312
    replace kr_0_3__313 := cell_below bd3 kr_0_3__313
    replace kr_0_4__314 := cell_below bd3 kr_0_4__314
    replace kbefore_1_0 := cell_below bd3 kbefore_1_0
    replace kbefore_1_1 := cell_below bd3 kbefore_1_1
    replace kbefore_1_2 := cell_below bd3 kbefore_1_2
    replace kbefore_1_3 := cell_below bd3 kbefore_1_3
    replace kbefore_1_4 := cell_below bd3 kbefore_1_4
    clear bd3
    replace H := bind_hid H
    obtain ⟨t_18, qt_18, H⟩ := H
    replace H := bind_hid H
    obtain ⟨t_23, qt_23, H⟩ := H
    replace H := let_hid H
    obtain ⟨t_24, ht_24, H⟩ := H
    replace H := bind_hid H
    obtain ⟨t_25, qt_25, H⟩ := H
    replace H := let_hid H
    obtain ⟨t_26, ht_26, H⟩ := H
    go_region_held3 (fun w' => w'.cell? ⟨w.heap.size, 0, none⟩ = some (.int .i64 r_0_zone) ∧ w'.cell? ⟨w.heap.size, 1, none⟩ = some (.int .i64 r_0_grams) ∧ w'.cell? ⟨w.heap.size, 2, none⟩ = some (.int .i64 r_0_from_) ∧ w'.cell? ⟨w.heap.size, 3, none⟩ = some (.int .i64 r_0_until_) ∧ w'.cell? ⟨w.heap.size, 4, none⟩ = some (.int .i64 r_0_cents) ∧ w'.cell? ⟨w_r_0.heap.size, 0, none⟩ = some (.int .i64 before_zone) ∧ w'.cell? ⟨w_r_0.heap.size, 1, none⟩ = some (.int .i64 before_grams) ∧ w'.cell? ⟨w_r_0.heap.size, 2, none⟩ = some (.int .i64 before_from_) ∧ w'.cell? ⟨w_r_0.heap.size, 3, none⟩ = some (.int .i64 before_until_) ∧ w'.cell? ⟨w_r_0.heap.size, 4, none⟩ = some (.int .i64 before_cents)) (first | exact ⟨kr_0_0__310, kr_0_1__311, kr_0_2__312, kr_0_3__313, kr_0_4__314, kbefore_1_0, kbefore_1_1, kbefore_1_2, kbefore_1_3, kbefore_1_4⟩ | exact ⟨kr_0_0__315, kr_0_1__316, kr_0_2__317, kr_0_3__318, kr_0_4__319, kbefore_1_0__320, kbefore_1_1__321, kbefore_1_2__322, kbefore_1_3__323, kbefore_1_4__324⟩)
        (first
          | (go_at_call 100
             refine (Go.Proofs.YtkinlkmmelkdnaaDoor.GxCmpCompareInt.C (before_zone) (r_0_zone)  _    qt_18).mono ?_
             rintro e_t_18 wt_18 ⟨rfl, bt_18⟩
             have HBwt_18 := Lib.hid (Below.step HBY1.drew.out bt_18)
             replace kr_0_0__310 := cell_below bt_18 kr_0_0__310
             replace kr_0_1__311 := cell_below bt_18 kr_0_1__311
             replace kr_0_2__312 := cell_below bt_18 kr_0_2__312
             replace kr_0_3__313 := cell_below bt_18 kr_0_3__313
             replace kr_0_4__314 := cell_below bt_18 kr_0_4__314
             replace kbefore_1_0 := cell_below bt_18 kbefore_1_0
             replace kbefore_1_1 := cell_below bt_18 kbefore_1_1
             replace kbefore_1_2 := cell_below bt_18 kbefore_1_2
             replace kbefore_1_3 := cell_below bt_18 kbefore_1_3
             replace kbefore_1_4 := cell_below bt_18 kbefore_1_4
             clear bt_18
             clear qt_18)
          | (go_at_call 100
             refine (Go.Proofs.YtkinlkmmelkdnaaDoor.GxCmpCompareInt.C (before_grams) (r_0_grams)  _    qt_23).mono ?_
             rintro e_t_23 wt_23 ⟨rfl, bt_23⟩
             have HBwt_23 := Lib.hid (Below.step HBwt_18.out bt_23)
             replace kr_0_0__310 := cell_below bt_23 kr_0_0__310
             replace kr_0_1__311 := cell_below bt_23 kr_0_1__311
             replace kr_0_2__312 := cell_below bt_23 kr_0_2__312
             replace kr_0_3__313 := cell_below bt_23 kr_0_3__313
             replace kr_0_4__314 := cell_below bt_23 kr_0_4__314
             replace kbefore_1_0 := cell_below bt_23 kbefore_1_0
             replace kbefore_1_1 := cell_below bt_23 kbefore_1_1
             replace kbefore_1_2 := cell_below bt_23 kbefore_1_2
             replace kbefore_1_3 := cell_below bt_23 kbefore_1_3
             replace kbefore_1_4 := cell_below bt_23 kbefore_1_4
             clear bt_23
             clear qt_23
             obtain ⟨w_t_24, hw_t_24⟩ : ∃ x, wt_23.alloc (.cells #[.int .i64 t_18, .int .i64 t_23] 3) = x := ⟨_, rfl⟩
             have bw_t_24 : Below wt_23.heap.size wt_23 w_t_24 := by rw [← hw_t_24]; exact (Below.refl _ _).alloc (Nat.le_refl _) _
             have hs_t_24 := HBwt_23.out.size
             have nt_24 : t_24.length = 2 := by rw [← ht_24]; rfl
             have Ot_24 : Hid (w_t_24.ownsRow w.heap.size 3 1 (.slice (some ⟨wt_23.heap.size, 0, none⟩) 2 2) 2 (Go.Proofs.YtkinlkmmelkdnaaDoor.HelpInt.iv t_24)) := by
               rw [← hw_t_24, ← ht_24]
               have e_ : ([.int .i64 t_18, .int .i64 t_23] : List Value) = (Go.Proofs.YtkinlkmmelkdnaaDoor.HelpInt.iv ([t_18, t_23] : List Int)) := rfl
               exact Lib.hid (own_laid (n := 2) hs_t_24 e_ rfl (by unfold maxLen; omega))
             clear hs_t_24
             have hht_24 := Lib.hid ht_24
             clear ht_24
             replace nt_24 := Lib.hid nt_24
             have Dt_24_r_0 := Lib.hid (apart_box kr_0_0__310)
             have Dt_24_before_1 := Lib.hid (apart_box kbefore_1_0)
             have HBw_t_24 := Lib.hid (Below.step HBwt_23.out bw_t_24)
             have kr_0_0__315 := cell_below bw_t_24 kr_0_0__310
             have kr_0_1__316 := cell_below bw_t_24 kr_0_1__311
             have kr_0_2__317 := cell_below bw_t_24 kr_0_2__312
             have kr_0_3__318 := cell_below bw_t_24 kr_0_3__313
             have kr_0_4__319 := cell_below bw_t_24 kr_0_4__314
             have kbefore_1_0__320 := cell_below bw_t_24 kbefore_1_0
             have kbefore_1_1__321 := cell_below bw_t_24 kbefore_1_1
             have kbefore_1_2__322 := cell_below bw_t_24 kbefore_1_2
             have kbefore_1_3__323 := cell_below bw_t_24 kbefore_1_3
             have kbefore_1_4__324 := cell_below bw_t_24 kbefore_1_4
             clear bw_t_24)
          | (have hc0_ := nt_24.out
             have Oct_25_1 := Lib.hid (own_len hc0_ Ot_24.out)
             have con_ := Go.Proofs.YtkinlkmmelkdnaaDoor.GxCmpOrInt.C (t_24) (some ⟨wt_23.heap.size, 0, none⟩) 2 _   (Lib.hid (own_cells Oct_25_1.out)) (Lib.hid (own_max Oct_25_1.out)) qt_25
             rw [hc0_] at con_
             clear hc0_ Oct_25_1
             go_at_call 99
             refine con_.mono ?_
             rintro e_t_25 wt_25 ⟨rfl, bt_25⟩
             have HBwt_25 := Lib.hid (Below.step HBw_t_24.out bt_25)
             replace kr_0_0__315 := cell_below bt_25 kr_0_0__315
             replace kr_0_1__316 := cell_below bt_25 kr_0_1__316
             replace kr_0_2__317 := cell_below bt_25 kr_0_2__317
             replace kr_0_3__318 := cell_below bt_25 kr_0_3__318
             replace kr_0_4__319 := cell_below bt_25 kr_0_4__319
             replace kbefore_1_0__320 := cell_below bt_25 kbefore_1_0__320
             replace kbefore_1_1__321 := cell_below bt_25 kbefore_1_1__321
             replace kbefore_1_2__322 := cell_below bt_25 kbefore_1_2__322
             replace kbefore_1_3__323 := cell_below bt_25 kbefore_1_3__323
             replace kbefore_1_4__324 := cell_below bt_25 kbefore_1_4__324
             replace Ot_24 := Lib.hid (own_below Ot_24.out bt_25)
             clear bt_25
             clear qt_25))
    try clear kr_0_0__310
    try clear kr_0_1__311
    try clear kr_0_2__312
    try clear kr_0_3__313
    try clear kr_0_4__314
    try clear kbefore_1_0
    try clear kbefore_1_1
    try clear kbefore_1_2
    try clear kbefore_1_3
    try clear kbefore_1_4
    obtain rfl := ret_hid H
    go_wp2_with fail
    go_ret
    exact ⟨rfl, HBwt_25.out⟩
  | true =>
    replace H := ite_t H
    replace H := let_hid H
    obtain ⟨t_12, ht_12, H⟩ := H
    obtain rfl := ret_hid H
    go_wp2_with fail
    go_ret
    exact ⟨rfl, HBY1.out⟩
end Go.Proofs.YtkinlkmmelkdnaaDoor.GiCanFollow
