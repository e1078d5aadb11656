/- The texts on which the proof of FnExactCheapestZones stands, one behind the other (2 of 2). No condition of their own. -/
import Derived.Test.YtkinlkmmelkdnaaChecked
import Derived.Test.YtkinlkmmelkdnaaFnExactCheapestZonesP1
import Derived.WalkKit
import Derived.Laws.StructEq
import Derived.ChangeKeysEq
import Derived.WalkSpells
import Derived.WalkLawsBesides
import Derived.BigQuiet
import Derived.OwnWalk
import Derived.Deep.LoopGhost
import Derived.Deep.QuietTactic
import Derived.IntWalk
import Derived.Lib.QuietBelow
import Derived.Deep.RegionHeld3
/- loop.example/g01062/impl.canFollow as a plain function, and the contract of the program's: where the plain one has an answer, the program has it. Conditions: slices read as lists. -/
namespace Go.Proofs.Ytkinlkmmelkdnaa.GiCanFollow
set_option linter.unusedVariables false
set_option linter.unusedSimpArgs false
open Go.RowKit
open Go.Proofs.Ytkinlkmmelkdnaa.Rowed Go.Proofs.Ytkinlkmmelkdnaa.Turn Go.Proofs.Ytkinlkmmelkdnaa.Aid Go.Proofs.Ytkinlkmmelkdnaa.GoP Go.Proofs.Ytkinlkmmelkdnaa.GoM

def P (r_0 : Go.Proofs.Ytkinlkmmelkdnaa.PRate.Rate) (before : Go.Proofs.Ytkinlkmmelkdnaa.PRate.Rate) : Option (Bool) :=
  unRate r_0 fun (r_0_zone : Int) (r_0_grams : Int) (r_0_from_ : Int) (r_0_until_ : Int) (r_0_cents : Int) =>
  unRate before fun (before_zone : Int) (before_grams : Int) (before_from_ : Int) (before_until_ : Int) (before_cents : Int) =>
  Option.bind (Go.Proofs.Ytkinlkmmelkdnaa.GiClassOf.P (Go.Proofs.Ytkinlkmmelkdnaa.PRate.Rate.mk r_0_zone r_0_grams r_0_from_ r_0_until_ r_0_cents)) fun (t_4 : Go.Proofs.Ytkinlkmmelkdnaa.PrateClass.rateClass) =>
  unrateClass t_4 fun (t_4_zone : Int) (t_4_grams : Int) =>
  Option.bind (Go.Proofs.Ytkinlkmmelkdnaa.GiClassOf.P (Go.Proofs.Ytkinlkmmelkdnaa.PRate.Rate.mk before_zone before_grams before_from_ before_until_ before_cents)) fun (t_6 : Go.Proofs.Ytkinlkmmelkdnaa.PrateClass.rateClass) =>
  unrateClass t_6 fun (t_6_zone : Int) (t_6_grams : Int) =>
  letK (t_4_zone == t_6_zone && t_4_grams == t_6_grams) fun (t_7 : Bool) =>
  iteK t_7
  (letK (decide (before_until_ < r_0_from_)) fun (t_12 : Bool) =>
  some t_12)
  (Option.bind (Go.Proofs.Ytkinlkmmelkdnaa.GxCmpCompareInt.P before_zone r_0_zone) fun (t_18 : Int) =>
  Option.bind (Go.Proofs.Ytkinlkmmelkdnaa.GxCmpCompareInt.P before_grams r_0_grams) fun (t_23 : Int) =>
  letK ([t_18, t_23]) fun (t_24 : (List Int)) =>
  Option.bind (Go.Proofs.Ytkinlkmmelkdnaa.GxCmpOrInt.P t_24) fun (t_25 : Int) =>
  letK (decide (t_25 < 0)) fun (t_26 : Bool) =>
  some t_26)

set_option maxRecDepth 100000
theorem eqr_95 (x0 x1 y0 y1 : Int) : ∀ W, (Op.equalIn 10000 95 (.agg #[Value.int IntKind.i64 x0, Value.int IntKind.i64 x1]) (.agg #[Value.int IntKind.i64 y0, Value.int IntKind.i64 y1])).run Try.prog W = .ok (x0 == y0 && x1 == y1) W := by
  intro W
  rw [run_equalIn_agg W _ _ _ _ (by kernel_rfl) (by kernel_rfl)]
  obtain ⟨f, hf⟩ : ∃ f, (Try.prog.fieldsOf 95).toList = f := ⟨_, rfl⟩
  have : (Try.prog.fieldsOf 95).toList.map (fun f => (f.name, f.type, f.offset)) = [("zone", 3, 0), ("grams", 3, 1)] := by kernel_rfl
  rw [hf] at this ⊢
  match f, this with
  | [f0, f1], h =>
    simp only [List.map_cons, List.map_nil, List.cons.injEq, Prod.mk.injEq, and_true] at h
    obtain ⟨⟨a0, b0, d0⟩, a1, b1, d1⟩ := h
    simp only [Op.eqFields, a0, b0, d0, a1, b1, d1]
    have p0 : ∀ (w : World) (x0 x1 : Int), (part 3 #[Value.int IntKind.i64 x0, Value.int IntKind.i64 x1] 0).run Try.prog w = .ok (.int .i64 x0) w := fun w x0 x1 => run_part_plain w (by kernel_rfl) rfl
    have p1 : ∀ (w : World) (x0 x1 : Int), (part 3 #[Value.int IntKind.i64 x0, Value.int IntKind.i64 x1] 1).run Try.prog w = .ok (.int .i64 x1) w := fun w x0 x1 => run_part_plain w (by kernel_rfl) rfl
    have e0 : ∀ (w : World) (d : Nat) (x y : Int), (Op.equalIn (d + 1) 3 (.int .i64 x) (.int .i64 y)).run Try.prog w = .ok (x == y) w := fun w d x y => run_equalIn_int w d 3 .i64 .i64 x y Try.underlying3
    have e1 : ∀ (w : World) (x y : Int), (Op.equalIn 9999 3 (.int .i64 x) (.int .i64 y)).run Try.prog w = .ok (x == y) w := fun w x y => e0 w 9998 x y
    rw [if_pos (by decide)]; rw [if_pos (by decide)]
    simp only [Sem.run_bind, p0, p1, e1, Result.andThen_ok, Sem.run_ite, Sem.run_pure]
    cases x0 == y0 <;> cases x1 == y1 <;> rfl
theorem eqla_95 (x0 x1 y0 y1 : Int) : ∀ W, (binOp .eql 95 (.agg #[Value.int IntKind.i64 x0, Value.int IntKind.i64 x1]) (.agg #[Value.int IntKind.i64 y0, Value.int IntKind.i64 y1])).run Try.prog W = .ok (.bool (x0 == y0 && x1 == y1)) W := by
  intro W
  rw [run_eql_struct, eqr_95]; rfl
theorem neqa_95 (x0 x1 y0 y1 : Int) : ∀ W, (binOp .neq 95 (.agg #[Value.int IntKind.i64 x0, Value.int IntKind.i64 x1]) (.agg #[Value.int IntKind.i64 y0, Value.int IntKind.i64 y1])).run Try.prog W = .ok (.bool (!(x0 == y0 && x1 == y1))) W := by
  intro W
  rw [run_neq_struct, eqr_95]; rfl

set_option maxRecDepth 100000 in
set_option maxHeartbeats 2000000 in
theorem C (r_0 : Go.Proofs.Ytkinlkmmelkdnaa.PRate.Rate) (before : Go.Proofs.Ytkinlkmmelkdnaa.PRate.Rate)   (w : World)   {r : Bool} (H : Hid (P r_0 before = some r)) :
    Calls Try.prog 76 #[r_0.val, before.val] w (Gives (.bool r) w) := by
  have HB := Lib.hid (Below.refl w.heap.size w)
  unfold P at H
  obtain ⟨r_0_zone, r_0_grams, r_0_from_, r_0_until_, r_0_cents⟩ := r_0
  replace H := unRate_hid H
  obtain ⟨before_zone, before_grams, before_from_, before_until_, before_cents⟩ := before
  replace H := unRate_hid H
  unfold Go.Proofs.Ytkinlkmmelkdnaa.PRate.Rate.val
  go_enter Try.func76, Try.ntmps76
  obtain ⟨w_r_0, hw_r_0⟩ : ∃ x, w.alloc (.cells #[.int .i64 r_0_zone, .int .i64 r_0_grams, .int .i64 r_0_from_, .int .i64 r_0_until_, .int .i64 r_0_cents] 25) = x := ⟨_, rfl⟩
  have bw_r_0 : Below w.heap.size w w_r_0 := by rw [← hw_r_0]; exact (Below.refl _ _).alloc (Nat.le_refl _) _
  have HBw_r_0 := Lib.hid (Below.step HB.out bw_r_0)
  clear bw_r_0
  have kr_0_0 : w_r_0.cell? ⟨w.heap.size, 0, none⟩ = some (.int .i64 r_0_zone) := by rw [← hw_r_0]; exact box_new _ _ _ 0 _ rfl
  have kr_0_1 : w_r_0.cell? ⟨w.heap.size, 1, none⟩ = some (.int .i64 r_0_grams) := by rw [← hw_r_0]; exact box_new _ _ _ 1 _ rfl
  have kr_0_2 : w_r_0.cell? ⟨w.heap.size, 2, none⟩ = some (.int .i64 r_0_from_) := by rw [← hw_r_0]; exact box_new _ _ _ 2 _ rfl
  have kr_0_3 : w_r_0.cell? ⟨w.heap.size, 3, none⟩ = some (.int .i64 r_0_until_) := by rw [← hw_r_0]; exact box_new _ _ _ 3 _ rfl
  have kr_0_4 : w_r_0.cell? ⟨w.heap.size, 4, none⟩ = some (.int .i64 r_0_cents) := by rw [← hw_r_0]; exact box_new _ _ _ 4 _ rfl
  obtain ⟨w_before_1, hw_before_1⟩ : ∃ x, w_r_0.alloc (.cells #[.int .i64 before_zone, .int .i64 before_grams, .int .i64 before_from_, .int .i64 before_until_, .int .i64 before_cents] 25) = x := ⟨_, rfl⟩
  have bw_before_1 : Below w_r_0.heap.size w_r_0 w_before_1 := by rw [← hw_before_1]; exact (Below.refl _ _).alloc (Nat.le_refl _) _
  have HBw_before_1 := Lib.hid (Below.step HBw_r_0.out bw_before_1)
  have kr_0_0__130 := cell_below bw_before_1 kr_0_0
  have kr_0_1__131 := cell_below bw_before_1 kr_0_1
  have kr_0_2__132 := cell_below bw_before_1 kr_0_2
  have kr_0_3__133 := cell_below bw_before_1 kr_0_3
  have kr_0_4__134 := cell_below bw_before_1 kr_0_4
  clear bw_before_1
  have kbefore_1_0 : w_before_1.cell? ⟨w_r_0.heap.size, 0, none⟩ = some (.int .i64 before_zone) := by rw [← hw_before_1]; exact box_new _ _ _ 0 _ rfl
  have kbefore_1_1 : w_before_1.cell? ⟨w_r_0.heap.size, 1, none⟩ = some (.int .i64 before_grams) := by rw [← hw_before_1]; exact box_new _ _ _ 1 _ rfl
  have kbefore_1_2 : w_before_1.cell? ⟨w_r_0.heap.size, 2, none⟩ = some (.int .i64 before_from_) := by rw [← hw_before_1]; exact box_new _ _ _ 2 _ rfl
  have kbefore_1_3 : w_before_1.cell? ⟨w_r_0.heap.size, 3, none⟩ = some (.int .i64 before_until_) := by rw [← hw_before_1]; exact box_new _ _ _ 3 _ rfl
  have kbefore_1_4 : w_before_1.cell? ⟨w_r_0.heap.size, 4, none⟩ = some (.int .i64 before_cents) := by rw [← hw_before_1]; exact box_new _ _ _ 4 _ rfl
  go_wp2_with fail
  clear kr_0_0 kr_0_1 kr_0_2 kr_0_3 kr_0_4
  have Hkr_0_0__130 := Lib.hid kr_0_0__130
  replace kr_0_0__130 := cell_regrown kr_0_0__130
  have Hkr_0_1__131 := Lib.hid kr_0_1__131
  replace kr_0_1__131 := cell_regrown kr_0_1__131
  have Hkr_0_2__132 := Lib.hid kr_0_2__132
  replace kr_0_2__132 := cell_regrown kr_0_2__132
  have Hkr_0_3__133 := Lib.hid kr_0_3__133
  replace kr_0_3__133 := cell_regrown kr_0_3__133
  have Hkr_0_4__134 := Lib.hid kr_0_4__134
  replace kr_0_4__134 := cell_regrown kr_0_4__134
  have Hkbefore_1_0 := Lib.hid kbefore_1_0
  replace kbefore_1_0 := cell_regrown kbefore_1_0
  have Hkbefore_1_1 := Lib.hid kbefore_1_1
  replace kbefore_1_1 := cell_regrown kbefore_1_1
  have Hkbefore_1_2 := Lib.hid kbefore_1_2
  replace kbefore_1_2 := cell_regrown kbefore_1_2
  have Hkbefore_1_3 := Lib.hid kbefore_1_3
  replace kbefore_1_3 := cell_regrown kbefore_1_3
  have Hkbefore_1_4 := Lib.hid kbefore_1_4
  replace kbefore_1_4 := cell_regrown kbefore_1_4
  replace H := bind_hid H
  obtain ⟨t_4, qt_4, H⟩ := H
  obtain ⟨t_4_zone, t_4_grams⟩ := t_4
  replace H := unrateClass_hid H
  have nt_4 : ∀ d os, Calls Try.prog 91 #[.agg #[.int .i64 r_0_zone, .int .i64 r_0_grams, .int .i64 r_0_from_, .int .i64 r_0_until_, .int .i64 r_0_cents]] (Go.Sort.grow (redrawn w_before_1 d) os) fun e w'' => e = .returned (.agg #[.int .i64 t_4_zone, .int .i64 t_4_grams]) ∧ ∃ p : Regrown, w'' = Go.Sort.grow (redrawn w_before_1 p.d) p.os := fun d os => Calls.regrown_of (Go.Proofs.Ytkinlkmmelkdnaa.GiClassOf.C ((Go.Proofs.Ytkinlkmmelkdnaa.PRate.Rate.mk r_0_zone r_0_grams r_0_from_ r_0_until_ r_0_cents))  _    qt_4)
  replace H := bind_hid H
  obtain ⟨t_6, qt_6, H⟩ := H
  obtain ⟨t_6_zone, t_6_grams⟩ := t_6
  replace H := unrateClass_hid H
  have nt_6 : ∀ d os, Calls Try.prog 91 #[.agg #[.int .i64 before_zone, .int .i64 before_grams, .int .i64 before_from_, .int .i64 before_until_, .int .i64 before_cents]] (Go.Sort.grow (redrawn w_before_1 d) os) fun e w'' => e = .returned (.agg #[.int .i64 t_6_zone, .int .i64 t_6_grams]) ∧ ∃ p : Regrown, w'' = Go.Sort.grow (redrawn w_before_1 p.d) p.os := fun d os => Calls.regrown_of (Go.Proofs.Ytkinlkmmelkdnaa.GiClassOf.C ((Go.Proofs.Ytkinlkmmelkdnaa.PRate.Rate.mk before_zone before_grams before_from_ before_until_ before_cents))  _    qt_6)
  replace H := let_hid H
  obtain ⟨t_7, ht_7, H⟩ := H
  have ct_7 : ∀ W, (binOp .eql 95 (.agg #[.int .i64 t_4_zone, .int .i64 t_4_grams]) (.agg #[.int .i64 t_6_zone, .int .i64 t_6_grams])).run Try.prog W = .ok (.bool t_7) W := fun W => by rw [eqla_95, ht_7]
  refine wp_region_quiet_below (by kernel_rfl) (by kernel_rfl) ?_
  repeat (go_big_quiet_step (first | (go_at_call 91; with_reducible exact nt_4 _ _) | (go_at_call 91; with_reducible exact nt_6 _ _) | (go_at_call 91; exact nt_4 _ _) | (go_at_call 91; exact nt_6 _ _)))
  refine wpQuiet_nil ?_
  intro Y1 hY1
  replace hY1 := below_class hY1
  clear nt_4 nt_6
  replace kr_0_0__130 := Hkr_0_0__130.out
  clear Hkr_0_0__130
  replace kr_0_1__131 := Hkr_0_1__131.out
  clear Hkr_0_1__131
  replace kr_0_2__132 := Hkr_0_2__132.out
  clear Hkr_0_2__132
  replace kr_0_3__133 := Hkr_0_3__133.out
  clear Hkr_0_3__133
  replace kr_0_4__134 := Hkr_0_4__134.out
  clear Hkr_0_4__134
  replace kbefore_1_0 := Hkbefore_1_0.out
  clear Hkbefore_1_0
  replace kbefore_1_1 := Hkbefore_1_1.out
  clear Hkbefore_1_1
  replace kbefore_1_2 := Hkbefore_1_2.out
  clear Hkbefore_1_2
  replace kbefore_1_3 := Hkbefore_1_3.out
  clear Hkbefore_1_3
  replace kbefore_1_4 := Hkbefore_1_4.out
  clear Hkbefore_1_4
  have HBY1 := Lib.hid (Below.step HBw_before_1.out hY1)
  replace kr_0_0__130 := cell_below hY1 kr_0_0__130
  replace kr_0_1__131 := cell_below hY1 kr_0_1__131
  replace kr_0_2__132 := cell_below hY1 kr_0_2__132
  replace kr_0_3__133 := cell_below hY1 kr_0_3__133
  replace kr_0_4__134 := cell_below hY1 kr_0_4__134
  replace kbefore_1_0 := cell_below hY1 kbefore_1_0
  replace kbefore_1_1 := cell_below hY1 kbefore_1_1
  replace kbefore_1_2 := cell_below hY1 kbefore_1_2
  replace kbefore_1_3 := cell_below hY1 kbefore_1_3
  replace kbefore_1_4 := cell_below hY1 kbefore_1_4
  clear hY1
  cases t_7 with
  | false =>
    replace H := ite_f H
    go_wp2_with fail
    have bd3 : Below Y1.heap.size Y1 Y1.drew := (Below.refl _ _).drew
    have HBY1.drew := Lib.hid (Below.step HBY1.out bd3)
    replace kr_0_0__130 := cell_below bd3 kr_0_0__130
    replace kr_0_1__131 := cell_below bd3 kr_0_1__131
    replace kr_0_2__132 := cell_below bd3 kr_0_2__132
    replace kr_0_3__133 := cell_below bd3 kr_0_3__133
    replace kr_0_4__134 := cell_below bd3 kr_0_4__134
    replace kbefore_1_0 := cell_below bd3 kbefore_1_0
    replace kbefore_1_1 := cell_below bd3 kbefore_1_1
    replace kbefore_1_2 := cell_below bd3 kbefore_1_2
    replace kbefore_1_3 := cell_below bd3 kbefore_1_3
    replace kbefore_1_4 := cell_below bd3 kbefore_1_4
    clear bd3
    replace H := bind_hid H
    obtain ⟨t_18, qt_18, H⟩ := H
    replace H := bind_hid H
    obtain ⟨t_23, qt_23, H⟩ := H
    replace H := let_hid H
    obtain ⟨t_24, ht_24, H⟩ := H
    replace H := bind_hid H
    obtain ⟨t_25, qt_25, H⟩ := H
    replace H := let_hid H
    obtain ⟨t_26, ht_26, H⟩ := H
    go_region_held3 (fun w' => w'.cell? ⟨w.heap.size, 0, none⟩ = some (.int .i64 r_0_zone) ∧ w'.cell? ⟨w.heap.size, 1, none⟩ = some (.int .i64 r_0_grams) ∧ w'.cell? ⟨w.heap.size, 2, none⟩ = some (.int .i64 r_0_from_) ∧ w'.cell? ⟨w.heap.size, 3, none⟩ = some (.int .i64 r_0_until_) ∧ w'.cell? ⟨w.heap.size, 4, none⟩ = some (.int .i64 r_0_cents) ∧ w'.cell? ⟨w_r_0.heap.size, 0, none⟩ = some (.int .i64 before_zone) ∧ w'.cell? ⟨w_r_0.heap.size, 1, none⟩ = some (.int .i64 before_grams) ∧ w'.cell? ⟨w_r_0.heap.size, 2, none⟩ = some (.int .i64 before_from_) ∧ w'.cell? ⟨w_r_0.heap.size, 3, none⟩ = some (.int .i64 before_until_) ∧ w'.cell? ⟨w_r_0.heap.size, 4, none⟩ = some (.int .i64 before_cents)) (first | exact ⟨kr_0_0__130, kr_0_1__131, kr_0_2__132, kr_0_3__133, kr_0_4__134, kbefore_1_0, kbefore_1_1, kbefore_1_2, kbefore_1_3, kbefore_1_4⟩ | exact ⟨kr_0_0__135, kr_0_1__136, kr_0_2__137, kr_0_3__138, kr_0_4__139, kbefore_1_0__140, kbefore_1_1__141, kbefore_1_2__142, kbefore_1_3__143, kbefore_1_4__144⟩)
        (first
          | (go_at_call 111
             refine (Go.Proofs.Ytkinlkmmelkdnaa.GxCmpCompareInt.C (before_zone) (r_0_zone)  _    qt_18).mono ?_
             rintro e_t_18 wt_18 ⟨rfl, bt_18⟩
             have HBwt_18 := Lib.hid (Below.step HBY1.drew.out bt_18)
             replace kr_0_0__130 := cell_below bt_18 kr_0_0__130
             replace kr_0_1__131 := cell_below bt_18 kr_0_1__131
             replace kr_0_2__132 := cell_below bt_18 kr_0_2__132
             replace kr_0_3__133 := cell_below bt_18 kr_0_3__133
             replace kr_0_4__134 := cell_below bt_18 kr_0_4__134
             replace kbefore_1_0 := cell_below bt_18 kbefore_1_0
             replace kbefore_1_1 := cell_below bt_18 kbefore_1_1
             replace kbefore_1_2 := cell_below bt_18 kbefore_1_2
             replace kbefore_1_3 := cell_below bt_18 kbefore_1_3
             replace kbefore_1_4 := cell_below bt_18 kbefore_1_4
             clear bt_18
             clear qt_18)
          | (go_at_call 111
             refine (Go.Proofs.Ytkinlkmmelkdnaa.GxCmpCompareInt.C (before_grams) (r_0_grams)  _    qt_23).mono ?_
             rintro e_t_23 wt_23 ⟨rfl, bt_23⟩
             have HBwt_23 := Lib.hid (Below.step HBwt_18.out bt_23)
             replace kr_0_0__130 := cell_below bt_23 kr_0_0__130
             replace kr_0_1__131 := cell_below bt_23 kr_0_1__131
             replace kr_0_2__132 := cell_below bt_23 kr_0_2__132
             replace kr_0_3__133 := cell_below bt_23 kr_0_3__133
             replace kr_0_4__134 := cell_below bt_23 kr_0_4__134
             replace kbefore_1_0 := cell_below bt_23 kbefore_1_0
             replace kbefore_1_1 := cell_below bt_23 kbefore_1_1
             replace kbefore_1_2 := cell_below bt_23 kbefore_1_2
             replace kbefore_1_3 := cell_below bt_23 kbefore_1_3
             replace kbefore_1_4 := cell_below bt_23 kbefore_1_4
             clear bt_23
             clear qt_23
             obtain ⟨w_t_24, hw_t_24⟩ : ∃ x, wt_23.alloc (.cells #[.int .i64 t_18, .int .i64 t_23] 3) = x := ⟨_, rfl⟩
             have bw_t_24 : Below wt_23.heap.size wt_23 w_t_24 := by rw [← hw_t_24]; exact (Below.refl _ _).alloc (Nat.le_refl _) _
             have hs_t_24 := HBwt_23.out.size
             have nt_24 : t_24.length = 2 := by rw [← ht_24]; rfl
             have Ot_24 : Hid (w_t_24.ownsRow w.heap.size 3 1 (.slice (some ⟨wt_23.heap.size, 0, none⟩) 2 2) 2 (Go.Proofs.Ytkinlkmmelkdnaa.HelpInt.iv t_24)) := by
               rw [← hw_t_24, ← ht_24]
               have e_ : ([.int .i64 t_18, .int .i64 t_23] : List Value) = (Go.Proofs.Ytkinlkmmelkdnaa.HelpInt.iv ([t_18, t_23] : List Int)) := rfl
               exact Lib.hid (own_laid (n := 2) hs_t_24 e_ rfl (by unfold maxLen; omega))
             clear hs_t_24
             have hht_24 := Lib.hid ht_24
             clear ht_24
             replace nt_24 := Lib.hid nt_24
             have Dt_24_r_0 := Lib.hid (apart_box kr_0_0__130)
             have Dt_24_before_1 := Lib.hid (apart_box kbefore_1_0)
             have HBw_t_24 := Lib.hid (Below.step HBwt_23.out bw_t_24)
             have kr_0_0__135 := cell_below bw_t_24 kr_0_0__130
             have kr_0_1__136 := cell_below bw_t_24 kr_0_1__131
             have kr_0_2__137 := cell_below bw_t_24 kr_0_2__132
             have kr_0_3__138 := cell_below bw_t_24 kr_0_3__133
             have kr_0_4__139 := cell_below bw_t_24 kr_0_4__134
             have kbefore_1_0__140 := cell_below bw_t_24 kbefore_1_0
             have kbefore_1_1__141 := cell_below bw_t_24 kbefore_1_1
             have kbefore_1_2__142 := cell_below bw_t_24 kbefore_1_2
             have kbefore_1_3__143 := cell_below bw_t_24 kbefore_1_3
             have kbefore_1_4__144 := cell_below bw_t_24 kbefore_1_4
             clear bw_t_24)
          | (have hc0_ := nt_24.out
             have Oct_25_1 := Lib.hid (own_len hc0_ Ot_24.out)
             have con_ := Go.Proofs.Ytkinlkmmelkdnaa.GxCmpOrInt.C (t_24) (some ⟨wt_23.heap.size, 0, none⟩) 2 _   (Lib.hid (own_cells Oct_25_1.out)) (Lib.hid (own_max Oct_25_1.out)) qt_25
             rw [hc0_] at con_
             clear hc0_ Oct_25_1
             go_at_call 110
             refine con_.mono ?_
             rintro e_t_25 wt_25 ⟨rfl, bt_25⟩
             have HBwt_25 := Lib.hid (Below.step HBw_t_24.out bt_25)
             replace kr_0_0__135 := cell_below bt_25 kr_0_0__135
             replace kr_0_1__136 := cell_below bt_25 kr_0_1__136
             replace kr_0_2__137 := cell_below bt_25 kr_0_2__137
             replace kr_0_3__138 := cell_below bt_25 kr_0_3__138
             replace kr_0_4__139 := cell_below bt_25 kr_0_4__139
             replace kbefore_1_0__140 := cell_below bt_25 kbefore_1_0__140
             replace kbefore_1_1__141 := cell_below bt_25 kbefore_1_1__141
             replace kbefore_1_2__142 := cell_below bt_25 kbefore_1_2__142
             replace kbefore_1_3__143 := cell_below bt_25 kbefore_1_3__143
             replace kbefore_1_4__144 := cell_below bt_25 kbefore_1_4__144
             replace Ot_24 := Lib.hid (own_below Ot_24.out bt_25)
             clear bt_25
             clear qt_25))
    try clear kr_0_0__130
    try clear kr_0_1__131
    try clear kr_0_2__132
    try clear kr_0_3__133
    try clear kr_0_4__134
    try clear kbefore_1_0
    try clear kbefore_1_1
    try clear kbefore_1_2
    try clear kbefore_1_3
    try clear kbefore_1_4
    obtain rfl := ret_hid H
    go_wp2_with fail
    go_ret
    exact ⟨rfl, HBwt_25.out⟩
  | true =>
    replace H := ite_t H
    replace H := let_hid H
    obtain ⟨t_12, ht_12, H⟩ := H
    obtain rfl := ret_hid H
    go_wp2_with fail
    go_ret
    exact ⟨rfl, HBY1.out⟩
end Go.Proofs.Ytkinlkmmelkdnaa.GiCanFollow

/- loop.example/g01062/impl.AreRates as a plain function, and the contract of the program's: where the plain one has an answer, the program has it. Conditions: slices read as lists. -/
namespace Go.Proofs.Ytkinlkmmelkdnaa.GiAreRates
set_option linter.unusedVariables false
set_option linter.unusedSimpArgs false
open Go.RowKit
open Go.Proofs.Ytkinlkmmelkdnaa.Rowed Go.Proofs.Ytkinlkmmelkdnaa.Turn Go.Proofs.Ytkinlkmmelkdnaa.Aid Go.Proofs.Ytkinlkmmelkdnaa.GoP Go.Proofs.Ytkinlkmmelkdnaa.GoM

def l0 (list : (List Go.Proofs.Ytkinlkmmelkdnaa.PRate.Rate)) (k0 : Nat) (s : Unit) (nx0 bk0 : Unit → Option (Bool)) : Option (Bool) :=
  
  Option.bind (idx list (k0 : Int)) fun (yt_10 : Go.Proofs.Ytkinlkmmelkdnaa.PRate.Rate) =>
  unRate yt_10 fun (t_10_zone : Int) (t_10_grams : Int) (t_10_from_ : Int) (t_10_until_ : Int) (t_10_cents : Int) =>
  Option.bind (Go.Proofs.Ytkinlkmmelkdnaa.GiIsRate.P (Go.Proofs.Ytkinlkmmelkdnaa.PRate.Rate.mk t_10_zone t_10_grams t_10_from_ t_10_until_ t_10_cents)) fun (t_16 : Bool) =>
  letK (!t_16) fun (t_17 : Bool) =>
  joinK (fun (t_31 : Bool) =>
  iteK t_31
  (some false)
  (appK nx0 ())) fun jt_31 => iteK t_17 (appK jt_31 true) (letK (decide (0 < (k0 : Int))) fun (t_20 : Bool) =>
  joinK (fun (t_30 : Bool) =>
  appK jt_31 t_30) fun jt_30 => iteK t_20 (letK (IntKind.i64.wrap ((k0 : Int) - 1)) fun (t_25 : Int) =>
  Option.bind (idx list t_25) fun (yt_26 : Go.Proofs.Ytkinlkmmelkdnaa.PRate.Rate) =>
  unRate yt_26 fun (t_26_zone : Int) (t_26_grams : Int) (t_26_from_ : Int) (t_26_until_ : Int) (t_26_cents : Int) =>
  Option.bind (Go.Proofs.Ytkinlkmmelkdnaa.GiCanFollow.P (Go.Proofs.Ytkinlkmmelkdnaa.PRate.Rate.mk t_10_zone t_10_grams t_10_from_ t_10_until_ t_10_cents) (Go.Proofs.Ytkinlkmmelkdnaa.PRate.Rate.mk t_26_zone t_26_grams t_26_from_ t_26_until_ t_26_cents)) fun (t_28 : Bool) =>
  letK (!t_28) fun (t_29 : Bool) =>
  appK jt_30 t_29) (appK jt_30 false))

def e0  (s : Unit) : Option (Bool) :=
  
  some true

def P (list : (List Go.Proofs.Ytkinlkmmelkdnaa.PRate.Rate)) : Option (Bool) :=
  letK (decide (16 < (list.length : Int))) fun (t_3 : Bool) =>
  iteK t_3
  (some false)
  (cntK (l0 list) (list.length) 0 () (e0 ))

set_option maxRecDepth 100000 in
set_option maxHeartbeats 2000000 in
theorem C (list : (List Go.Proofs.Ytkinlkmmelkdnaa.PRate.Rate)) (A0 : Option Addr) (c0 : Nat)  (w : World) (M0 : Hid (Cells w 5 A0 list.length (Go.Proofs.Ytkinlkmmelkdnaa.PRate.flat list))) (N0 : Hid (list.length ≤ 9223372036854775807))  {r : Bool} (H : Hid (P list = some r)) :
    Calls Try.prog 20 #[.slice A0 list.length c0] w (Gives (.bool r) w) := by
  have HB := Lib.hid (Below.refl w.heap.size w)
  unfold P at H
  have N0o := N0.out
  go_enter Try.func20, Try.ntmps20
  replace H := let_hid H
  obtain ⟨t_3, ht_3, H⟩ := H
  cases t_3 with
  | false =>
    have nht_3 : ¬ (16 < list.length) := by have := of_decide_eq_false ht_3; omega
    replace H := ite_f H
    go_wp2_with fail
    go_loopg [10] (list.length) (fun m_ v10_ wr => ∃ (k0 : Nat) , k0 + m_ = list.length ∧ v10_ = .int .i64 (k0 : Int) ∧ Hid (cntK (l0 list) m_ k0 () (e0 ) = some r) ∧ Hid (Below w.heap.size w wr))
    case atStart => exact ⟨0, by omega, rfl, H, HB⟩
    case round =>
      obtain ⟨k0, hkm0, rfl, H, HBwr0⟩ := hrel
      rename World => wr0
      cases gk with
      | zero =>
        obtain rfl : k0 = list.length := by omega
        have hc0 : decide (((list.length : Nat) : Int) < ((list.length : Nat) : Int)) = false := by simp
        replace H := cnt_zero H
        unfold e0 at H
        obtain rfl := ret_hid H
        go_wp2_with fail
        go_ret
        exact ⟨rfl, HBwr0.out⟩
      | succ m0 =>
        have hlt0 : k0 < list.length := by omega
        have hc0 : decide ((k0 : Int) < ((list.length : Nat) : Int)) = true := by simp; omega
        replace H := cnt_succ H
        unfold l0 at H
        replace H := idx_hid H
        obtain ⟨nt_10, yt_10, et_10, lt_10, gt_10, H⟩ := H
        obtain rfl : k0 = nt_10 := by omega
        clear et_10
        obtain ⟨t_10_zone, t_10_grams, t_10_from_, t_10_until_, t_10_cents⟩ := yt_10
        replace H := unRate_hid H
        obtain ⟨ab_t_10, ao_t_10, zt_10, At_10, z_t_10, ct_10_0, ct_10_1, ct_10_2, ct_10_3, ct_10_4⟩ := Go.Proofs.Ytkinlkmmelkdnaa.ORate.at_ M0.out lt_10
        obtain rfl := Option.some.inj (gt_10.out.symm.trans z_t_10)
        subst At_10
        have ltt_10 := cell_lt ct_10_0
        replace ct_10_0 := cell_below HBwr0.out ct_10_0
        replace ct_10_1 := cell_below HBwr0.out ct_10_1
        replace ct_10_2 := cell_below HBwr0.out ct_10_2
        replace ct_10_3 := cell_below HBwr0.out ct_10_3
        replace ct_10_4 := cell_below HBwr0.out ct_10_4
        clear z_t_10
        have b0t_10 : (0 : Int) ≤ (k0 : Int) := by omega
        have b1t_10 : (k0 : Int) < ((list.length : Nat) : Int) := by omega
        have b2t_10 : ((k0 : Int)).toNat = k0 := by omega
        obtain ⟨w_r_12, hw_r_12⟩ : ∃ x, wr0.alloc (.cells #[.int .i64 t_10_zone, .int .i64 t_10_grams, .int .i64 t_10_from_, .int .i64 t_10_until_, .int .i64 t_10_cents] 25) = x := ⟨_, rfl⟩
        have bw_r_12 : Below wr0.heap.size wr0 w_r_12 := by rw [← hw_r_12]; exact (Below.refl _ _).alloc (Nat.le_refl _) _
        have HBw_r_12 := Lib.hid (Below.step HBwr0.out bw_r_12)
        have ct_10_0__145 := cell_below bw_r_12 ct_10_0
        have ct_10_1__146 := cell_below bw_r_12 ct_10_1
        have ct_10_2__147 := cell_below bw_r_12 ct_10_2
        have ct_10_3__148 := cell_below bw_r_12 ct_10_3
        have ct_10_4__149 := cell_below bw_r_12 ct_10_4
        clear bw_r_12
        have kr_12_0 : w_r_12.cell? ⟨wr0.heap.size, 0, none⟩ = some (.int .i64 t_10_zone) := by rw [← hw_r_12]; exact box_new _ _ _ 0 _ rfl
        have kr_12_1 : w_r_12.cell? ⟨wr0.heap.size, 1, none⟩ = some (.int .i64 t_10_grams) := by rw [← hw_r_12]; exact box_new _ _ _ 1 _ rfl
        have kr_12_2 : w_r_12.cell? ⟨wr0.heap.size, 2, none⟩ = some (.int .i64 t_10_from_) := by rw [← hw_r_12]; exact box_new _ _ _ 2 _ rfl
        have kr_12_3 : w_r_12.cell? ⟨wr0.heap.size, 3, none⟩ = some (.int .i64 t_10_until_) := by rw [← hw_r_12]; exact box_new _ _ _ 3 _ rfl
        have kr_12_4 : w_r_12.cell? ⟨wr0.heap.size, 4, none⟩ = some (.int .i64 t_10_cents) := by rw [← hw_r_12]; exact box_new _ _ _ 4 _ rfl
        go_wp2_with fail
        clear ct_10_0 ct_10_1 ct_10_2 ct_10_3 ct_10_4
        have Hct_10_0__145 := Lib.hid ct_10_0__145
        replace ct_10_0__145 := cell_regrown ct_10_0__145
        have Hct_10_1__146 := Lib.hid ct_10_1__146
        replace ct_10_1__146 := cell_regrown ct_10_1__146
        have Hct_10_2__147 := Lib.hid ct_10_2__147
        replace ct_10_2__147 := cell_regrown ct_10_2__147
        have Hct_10_3__148 := Lib.hid ct_10_3__148
        replace ct_10_3__148 := cell_regrown ct_10_3__148
        have Hct_10_4__149 := Lib.hid ct_10_4__149
        replace ct_10_4__149 := cell_regrown ct_10_4__149
        have Hkr_12_0 := Lib.hid kr_12_0
        replace kr_12_0 := cell_regrown kr_12_0
        have Hkr_12_1 := Lib.hid kr_12_1
        replace kr_12_1 := cell_regrown kr_12_1
        have Hkr_12_2 := Lib.hid kr_12_2
        replace kr_12_2 := cell_regrown kr_12_2
        have Hkr_12_3 := Lib.hid kr_12_3
        replace kr_12_3 := cell_regrown kr_12_3
        have Hkr_12_4 := Lib.hid kr_12_4
        replace kr_12_4 := cell_regrown kr_12_4
        replace H := bind_hid H
        obtain ⟨t_16, qt_16, H⟩ := H
        have nt_16 : ∀ d os, Calls Try.prog 16 #[.agg #[.int .i64 t_10_zone, .int .i64 t_10_grams, .int .i64 t_10_from_, .int .i64 t_10_until_, .int .i64 t_10_cents]] (Go.Sort.grow (redrawn w_r_12 d) os) fun e w'' => e = .returned (.bool t_16) ∧ ∃ p : Regrown, w'' = Go.Sort.grow (redrawn w_r_12 p.d) p.os := fun d os => Calls.regrown_of (Go.Proofs.Ytkinlkmmelkdnaa.GiIsRate.C ((Go.Proofs.Ytkinlkmmelkdnaa.PRate.Rate.mk t_10_zone t_10_grams t_10_from_ t_10_until_ t_10_cents))  _    qt_16)
        cases t_16 with
        | false =>
          replace H := let_hid H
          obtain ⟨t_17, ht_17, H⟩ := H
          obtain rfl : t_17 = true := ht_17.symm
          replace H := join_hid H
          replace H := ite_t H
          replace H := app_hid H
          refine wp_region_quiet_below (by kernel_rfl) (by kernel_rfl) ?_
          repeat (go_big_quiet_step (first | (go_at_call 16; exact nt_16 _ _)))
          refine wpQuiet_nil ?_
          intro Y6 hY6
          replace hY6 := below_class hY6
          clear nt_16
          replace ct_10_0__145 := Hct_10_0__145.out
          clear Hct_10_0__145
          replace ct_10_1__146 := Hct_10_1__146.out
          clear Hct_10_1__146
          replace ct_10_2__147 := Hct_10_2__147.out
          clear Hct_10_2__147
          replace ct_10_3__148 := Hct_10_3__148.out
          clear Hct_10_3__148
          replace ct_10_4__149 := Hct_10_4__149.out
          clear Hct_10_4__149
          replace kr_12_0 := Hkr_12_0.out
          clear Hkr_12_0
          replace kr_12_1 := Hkr_12_1.out
          clear Hkr_12_1
          replace kr_12_2 := Hkr_12_2.out
          clear Hkr_12_2
          replace kr_12_3 := Hkr_12_3.out
          clear Hkr_12_3
          replace kr_12_4 := Hkr_12_4.out
          clear Hkr_12_4
          have HBY6 := Lib.hid (Below.step HBw_r_12.out hY6)
          replace ct_10_0__145 := cell_below hY6 ct_10_0__145
          replace ct_10_1__146 := cell_below hY6 ct_10_1__146
          replace ct_10_2__147 := cell_below hY6 ct_10_2__147
          replace ct_10_3__148 := cell_below hY6 ct_10_3__148
          replace ct_10_4__149 := cell_below hY6 ct_10_4__149
          replace kr_12_0 := cell_below hY6 kr_12_0
          replace kr_12_1 := cell_below hY6 kr_12_1
          replace kr_12_2 := cell_below hY6 kr_12_2
          replace kr_12_3 := cell_below hY6 kr_12_3
          replace kr_12_4 := cell_below hY6 kr_12_4
          clear hY6
          replace H := ite_t H
          obtain rfl := ret_hid H
          go_wp2_with fail
          go_ret
          exact ⟨rfl, HBY6.out⟩
        | true =>
          replace H := let_hid H
          obtain ⟨t_17, ht_17, H⟩ := H
          obtain rfl : t_17 = false := ht_17.symm
          replace H := join_hid H
          replace H := ite_f H
          replace H := let_hid H
          obtain ⟨t_20, ht_20, H⟩ := H
          replace H := join_hid H
          cases t_20 with
          | false =>
            have nht_20 : ¬ (0 < k0) := by have := of_decide_eq_false ht_20; omega
            replace H := ite_f H
            replace H := app_hid H
            replace H := app_hid H
            refine wp_region_quiet_below (by kernel_rfl) (by kernel_rfl) ?_
            repeat (go_big_quiet_step (first | (go_at_call 16; exact nt_16 _ _)))
            refine wpQuiet_nil ?_
            intro Y6 hY6
            replace hY6 := below_class hY6
            clear nt_16
            replace ct_10_0__145 := Hct_10_0__145.out
            clear Hct_10_0__145
            replace ct_10_1__146 := Hct_10_1__146.out
            clear Hct_10_1__146
            replace ct_10_2__147 := Hct_10_2__147.out
            clear Hct_10_2__147
            replace ct_10_3__148 := Hct_10_3__148.out
            clear Hct_10_3__148
            replace ct_10_4__149 := Hct_10_4__149.out
            clear Hct_10_4__149
            replace kr_12_0 := Hkr_12_0.out
            clear Hkr_12_0
            replace kr_12_1 := Hkr_12_1.out
            clear Hkr_12_1
            replace kr_12_2 := Hkr_12_2.out
            clear Hkr_12_2
            replace kr_12_3 := Hkr_12_3.out
            clear Hkr_12_3
            replace kr_12_4 := Hkr_12_4.out
            clear Hkr_12_4
            have HBY6 := Lib.hid (Below.step HBw_r_12.out hY6)
            replace ct_10_0__145 := cell_below hY6 ct_10_0__145
            replace ct_10_1__146 := cell_below hY6 ct_10_1__146
            replace ct_10_2__147 := cell_below hY6 ct_10_2__147
            replace ct_10_3__148 := cell_below hY6 ct_10_3__148
            replace ct_10_4__149 := cell_below hY6 ct_10_4__149
            replace kr_12_0 := cell_below hY6 kr_12_0
            replace kr_12_1 := cell_below hY6 kr_12_1
            replace kr_12_2 := cell_below hY6 kr_12_2
            replace kr_12_3 := cell_below hY6 kr_12_3
            replace kr_12_4 := cell_below hY6 kr_12_4
            clear hY6
            replace H := ite_f H
            replace H := app_hid H
            go_wp2_with fail
            go_roundg m0
            case measure => omega
            case rel => exact ⟨k0 + 1, by omega, by go_num, H, HBY6⟩
          | true =>
            have nht_20 : 0 < k0 := by have := of_decide_eq_true ht_20; omega
            replace H := ite_t H
            replace H := let_hid H
            obtain ⟨t_25, ht_25, H⟩ := H
            replace H := idx_hid H
            obtain ⟨nt_26, yt_26, et_26, lt_26, gt_26, H⟩ := H
            subst et_26
            obtain ⟨t_26_zone, t_26_grams, t_26_from_, t_26_until_, t_26_cents⟩ := yt_26
            replace H := unRate_hid H
            obtain ⟨ab_t_26, ao_t_26, zt_26, At_26, z_t_26, ct_26_0, ct_26_1, ct_26_2, ct_26_3, ct_26_4⟩ := Go.Proofs.Ytkinlkmmelkdnaa.ORate.at_ M0.out lt_26
            obtain rfl := Option.some.inj (gt_26.out.symm.trans z_t_26)
            simp only [Option.some.injEq, Addr.mk.injEq] at At_26
            obtain ⟨rfl, rfl, _⟩ := At_26
            have ltt_26 := cell_lt ct_26_0
            replace ct_26_0 := cell_below HBw_r_12.out ct_26_0
            replace ct_26_1 := cell_below HBw_r_12.out ct_26_1
            replace ct_26_2 := cell_below HBw_r_12.out ct_26_2
            replace ct_26_3 := cell_below HBw_r_12.out ct_26_3
            replace ct_26_4 := cell_below HBw_r_12.out ct_26_4
            clear z_t_26
            have b0t_26 : (0 : Int) ≤ (nt_26 : Int) := by omega
            have b1t_26 : (nt_26 : Int) < ((list.length : Nat) : Int) := by omega
            have b2t_26 : ((nt_26 : Int)).toNat = nt_26 := by omega
            have Hct_26_0 := Lib.hid ct_26_0
            replace ct_26_0 := cell_regrown ct_26_0
            have Hct_26_1 := Lib.hid ct_26_1
            replace ct_26_1 := cell_regrown ct_26_1
            have Hct_26_2 := Lib.hid ct_26_2
            replace ct_26_2 := cell_regrown ct_26_2
            have Hct_26_3 := Lib.hid ct_26_3
            replace ct_26_3 := cell_regrown ct_26_3
            have Hct_26_4 := Lib.hid ct_26_4
            replace ct_26_4 := cell_regrown ct_26_4
            replace H := bind_hid H
            obtain ⟨t_28, qt_28, H⟩ := H
            have nt_28 : ∀ d os, Calls Try.prog 76 #[.agg #[.int .i64 t_10_zone, .int .i64 t_10_grams, .int .i64 t_10_from_, .int .i64 t_10_until_, .int .i64 t_10_cents], .agg #[.int .i64 t_26_zone, .int .i64 t_26_grams, .int .i64 t_26_from_, .int .i64 t_26_until_, .int .i64 t_26_cents]] (Go.Sort.grow (redrawn w_r_12 d) os) fun e w'' => e = .returned (.bool t_28) ∧ ∃ p : Regrown, w'' = Go.Sort.grow (redrawn w_r_12 p.d) p.os := fun d os => Calls.regrown_of (Go.Proofs.Ytkinlkmmelkdnaa.GiCanFollow.C ((Go.Proofs.Ytkinlkmmelkdnaa.PRate.Rate.mk t_10_zone t_10_grams t_10_from_ t_10_until_ t_10_cents)) ((Go.Proofs.Ytkinlkmmelkdnaa.PRate.Rate.mk t_26_zone t_26_grams t_26_from_ t_26_until_ t_26_cents))  _    qt_28)
            cases t_28 with
            | false =>
              replace H := let_hid H
              obtain ⟨t_29, ht_29, H⟩ := H
              obtain rfl : t_29 = true := ht_29.symm
              replace H := app_hid H
              replace H := app_hid H
              refine wp_region_quiet_below (by kernel_rfl) (by kernel_rfl) ?_
              repeat (go_big_quiet_step (first | (go_at_call 16; exact nt_16 _ _) | (go_at_call 76; exact nt_28 _ _)))
              refine wpQuiet_nil ?_
              intro Y6 hY6
              replace hY6 := below_class hY6
              clear nt_16 nt_28
              replace ct_10_0__145 := Hct_10_0__145.out
              clear Hct_10_0__145
              replace ct_10_1__146 := Hct_10_1__146.out
              clear Hct_10_1__146
              replace ct_10_2__147 := Hct_10_2__147.out
              clear Hct_10_2__147
              replace ct_10_3__148 := Hct_10_3__148.out
              clear Hct_10_3__148
              replace ct_10_4__149 := Hct_10_4__149.out
              clear Hct_10_4__149
              replace kr_12_0 := Hkr_12_0.out
              clear Hkr_12_0
              replace kr_12_1 := Hkr_12_1.out
              clear Hkr_12_1
              replace kr_12_2 := Hkr_12_2.out
              clear Hkr_12_2
              replace kr_12_3 := Hkr_12_3.out
              clear Hkr_12_3
              replace kr_12_4 := Hkr_12_4.out
              clear Hkr_12_4
              replace ct_26_0 := Hct_26_0.out
              clear Hct_26_0
              replace ct_26_1 := Hct_26_1.out
              clear Hct_26_1
              replace ct_26_2 := Hct_26_2.out
              clear Hct_26_2
              replace ct_26_3 := Hct_26_3.out
              clear Hct_26_3
              replace ct_26_4 := Hct_26_4.out
              clear Hct_26_4
              have HBY6 := Lib.hid (Below.step HBw_r_12.out hY6)
              replace ct_10_0__145 := cell_below hY6 ct_10_0__145
              replace ct_10_1__146 := cell_below hY6 ct_10_1__146
              replace ct_10_2__147 := cell_below hY6 ct_10_2__147
              replace ct_10_3__148 := cell_below hY6 ct_10_3__148
              replace ct_10_4__149 := cell_below hY6 ct_10_4__149
              replace kr_12_0 := cell_below hY6 kr_12_0
              replace kr_12_1 := cell_below hY6 kr_12_1
              replace kr_12_2 := cell_below hY6 kr_12_2
              replace kr_12_3 := cell_below hY6 kr_12_3
              replace kr_12_4 := cell_below hY6 kr_12_4
              replace ct_26_0 := cell_below hY6 ct_26_0
              replace ct_26_1 := cell_below hY6 ct_26_1
              replace ct_26_2 := cell_below hY6 ct_26_2
              replace ct_26_3 := cell_below hY6 ct_26_3
              replace ct_26_4 := cell_below hY6 ct_26_4
              clear hY6
              replace H := ite_t H
              obtain rfl := ret_hid H
              go_wp2_with fail
              go_ret
              exact ⟨rfl, HBY6.out⟩
            | true =>
              replace H := let_hid H
              obtain ⟨t_29, ht_29, H⟩ := H
              obtain rfl : t_29 = false := ht_29.symm
              replace H := app_hid H
              replace H := app_hid H
              refine wp_region_quiet_below (by kernel_rfl) (by kernel_rfl) ?_
              repeat (go_big_quiet_step (first | (go_at_call 16; exact nt_16 _ _) | (go_at_call 76; exact nt_28 _ _)))
              refine wpQuiet_nil ?_
              intro Y6 hY6
              replace hY6 := below_class hY6
              clear nt_16 nt_28
              replace ct_10_0__145 := Hct_10_0__145.out
              clear Hct_10_0__145
              replace ct_10_1__146 := Hct_10_1__146.out
              clear Hct_10_1__146
              replace ct_10_2__147 := Hct_10_2__147.out
              clear Hct_10_2__147
              replace ct_10_3__148 := Hct_10_3__148.out
              clear Hct_10_3__148
              replace ct_10_4__149 := Hct_10_4__149.out
              clear Hct_10_4__149
              replace kr_12_0 := Hkr_12_0.out
              clear Hkr_12_0
              replace kr_12_1 := Hkr_12_1.out
              clear Hkr_12_1
              replace kr_12_2 := Hkr_12_2.out
              clear Hkr_12_2
              replace kr_12_3 := Hkr_12_3.out
              clear Hkr_12_3
              replace kr_12_4 := Hkr_12_4.out
              clear Hkr_12_4
              replace ct_26_0 := Hct_26_0.out
              clear Hct_26_0
              replace ct_26_1 := Hct_26_1.out
              clear Hct_26_1
              replace ct_26_2 := Hct_26_2.out
              clear Hct_26_2
              replace ct_26_3 := Hct_26_3.out
              clear Hct_26_3
              replace ct_26_4 := Hct_26_4.out
              clear Hct_26_4
              have HBY6 := Lib.hid (Below.step HBw_r_12.out hY6)
              replace ct_10_0__145 := cell_below hY6 ct_10_0__145
              replace ct_10_1__146 := cell_below hY6 ct_10_1__146
              replace ct_10_2__147 := cell_below hY6 ct_10_2__147
              replace ct_10_3__148 := cell_below hY6 ct_10_3__148
              replace ct_10_4__149 := cell_below hY6 ct_10_4__149
              replace kr_12_0 := cell_below hY6 kr_12_0
              replace kr_12_1 := cell_below hY6 kr_12_1
              replace kr_12_2 := cell_below hY6 kr_12_2
              replace kr_12_3 := cell_below hY6 kr_12_3
              replace kr_12_4 := cell_below hY6 kr_12_4
              replace ct_26_0 := cell_below hY6 ct_26_0
              replace ct_26_1 := cell_below hY6 ct_26_1
              replace ct_26_2 := cell_below hY6 ct_26_2
              replace ct_26_3 := cell_below hY6 ct_26_3
              replace ct_26_4 := cell_below hY6 ct_26_4
              clear hY6
              replace H := ite_f H
              replace H := app_hid H
              go_wp2_with fail
              go_roundg m0
              case measure => omega
              case rel => exact ⟨k0 + 1, by omega, by go_num, H, HBY6⟩
  | true =>
    have nht_3 : 16 < list.length := by have := of_decide_eq_true ht_3; omega
    replace H := ite_t H
    obtain rfl := ret_hid H
    go_wp2_with fail
    go_ret
    exact ⟨rfl, HB.out⟩
end Go.Proofs.Ytkinlkmmelkdnaa.GiAreRates

/- loop.example/g01062/impl.rateOn as a plain function, and the contract of the program's: where the plain one has an answer, the program has it. Conditions: slices read as lists. -/
namespace Go.Proofs.Ytkinlkmmelkdnaa.GiRateOn
set_option linter.unusedVariables false
set_option linter.unusedSimpArgs false
open Go.RowKit
open Go.Proofs.Ytkinlkmmelkdnaa.Rowed Go.Proofs.Ytkinlkmmelkdnaa.Turn Go.Proofs.Ytkinlkmmelkdnaa.Aid Go.Proofs.Ytkinlkmmelkdnaa.GoP Go.Proofs.Ytkinlkmmelkdnaa.GoM

def l0 (list : (List Go.Proofs.Ytkinlkmmelkdnaa.PRate.Rate)) (day : Int) (zone : Int) (grams : Int) (k0 : Nat) (s : Unit) (nx0 bk0 : Unit → Option (Int)) : Option (Int) :=
  
  Option.bind (idx list (k0 : Int)) fun (yt_5 : Go.Proofs.Ytkinlkmmelkdnaa.PRate.Rate) =>
  unRate yt_5 fun (t_5_zone : Int) (t_5_grams : Int) (t_5_from_ : Int) (t_5_until_ : Int) (t_5_cents : Int) =>
  letK (t_5_zone == zone) fun (t_12 : Bool) =>
  joinK (fun (t_18 : Bool) =>
  joinK (fun (t_26 : Bool) =>
  iteK t_26
  (some t_5_cents)
  (appK nx0 ())) fun jt_26 => iteK t_18 (Option.bind (Go.Proofs.Ytkinlkmmelkdnaa.GiWithin.P day t_5_from_ t_5_until_) fun (t_25 : Bool) =>
  appK jt_26 t_25) (appK jt_26 false)) fun jt_18 => iteK t_12 (letK (decide (grams ≤ t_5_grams)) fun (t_17 : Bool) =>
  appK jt_18 t_17) (appK jt_18 false)

def e0  (s : Unit) : Option (Int) :=
  
  some 0

def P (list : (List Go.Proofs.Ytkinlkmmelkdnaa.PRate.Rate)) (day : Int) (zone : Int) (grams : Int) : Option (Int) :=
  cntK (l0 list day zone grams) (list.length) 0 () (e0 )

set_option maxRecDepth 100000 in
set_option maxHeartbeats 2000000 in
theorem C (list : (List Go.Proofs.Ytkinlkmmelkdnaa.PRate.Rate)) (day : Int) (zone : Int) (grams : Int) (A0 : Option Addr) (c0 : Nat)  (w : World) (M0 : Hid (Cells w 5 A0 list.length (Go.Proofs.Ytkinlkmmelkdnaa.PRate.flat list))) (N0 : Hid (list.length ≤ 9223372036854775807))  {r : Int} (H : Hid (P list day zone grams = some r)) :
    Calls Try.prog 83 #[.slice A0 list.length c0, .int .i64 day, .int .i64 zone, .int .i64 grams] w (Gives (.int .i64 r) w) := by
  have HB := Lib.hid (Below.refl w.heap.size w)
  unfold P at H
  have N0o := N0.out
  go_enter Try.func83, Try.ntmps83
  go_wp2_with fail
  go_loopg [13] (list.length) (fun m_ v13_ wr => ∃ (k0 : Nat) , k0 + m_ = list.length ∧ v13_ = .int .i64 (k0 : Int) ∧ Hid (cntK (l0 list day zone grams) m_ k0 () (e0 ) = some r) ∧ Hid (Below w.heap.size w wr))
  case atStart => exact ⟨0, by omega, rfl, H, HB⟩
  case round =>
    obtain ⟨k0, hkm0, rfl, H, HBwr0⟩ := hrel
    rename World => wr0
    cases gk with
    | zero =>
      obtain rfl : k0 = list.length := by omega
      have hc0 : decide (((list.length : Nat) : Int) < ((list.length : Nat) : Int)) = false := by simp
      replace H := cnt_zero H
      unfold e0 at H
      obtain rfl := ret_hid H
      go_wp2_with fail
      go_ret
      exact ⟨rfl, HBwr0.out⟩
    | succ m0 =>
      have hlt0 : k0 < list.length := by omega
      have hc0 : decide ((k0 : Int) < ((list.length : Nat) : Int)) = true := by simp; omega
      replace H := cnt_succ H
      unfold l0 at H
      replace H := idx_hid H
      obtain ⟨nt_5, yt_5, et_5, lt_5, gt_5, H⟩ := H
      obtain rfl : k0 = nt_5 := by omega
      clear et_5
      obtain ⟨t_5_zone, t_5_grams, t_5_from_, t_5_until_, t_5_cents⟩ := yt_5
      replace H := unRate_hid H
      obtain ⟨ab_t_5, ao_t_5, zt_5, At_5, z_t_5, ct_5_0, ct_5_1, ct_5_2, ct_5_3, ct_5_4⟩ := Go.Proofs.Ytkinlkmmelkdnaa.ORate.at_ M0.out lt_5
      obtain rfl := Option.some.inj (gt_5.out.symm.trans z_t_5)
      subst At_5
      have ltt_5 := cell_lt ct_5_0
      replace ct_5_0 := cell_below HBwr0.out ct_5_0
      replace ct_5_1 := cell_below HBwr0.out ct_5_1
      replace ct_5_2 := cell_below HBwr0.out ct_5_2
      replace ct_5_3 := cell_below HBwr0.out ct_5_3
      replace ct_5_4 := cell_below HBwr0.out ct_5_4
      clear z_t_5
      have b0t_5 : (0 : Int) ≤ (k0 : Int) := by omega
      have b1t_5 : (k0 : Int) < ((list.length : Nat) : Int) := by omega
      have b2t_5 : ((k0 : Int)).toNat = k0 := by omega
      obtain ⟨w_r_7, hw_r_7⟩ : ∃ x, wr0.alloc (.cells #[.int .i64 t_5_zone, .int .i64 t_5_grams, .int .i64 t_5_from_, .int .i64 t_5_until_, .int .i64 t_5_cents] 25) = x := ⟨_, rfl⟩
      have bw_r_7 : Below wr0.heap.size wr0 w_r_7 := by rw [← hw_r_7]; exact (Below.refl _ _).alloc (Nat.le_refl _) _
      have HBw_r_7 := Lib.hid (Below.step HBwr0.out bw_r_7)
      have ct_5_0__150 := cell_below bw_r_7 ct_5_0
      have ct_5_1__151 := cell_below bw_r_7 ct_5_1
      have ct_5_2__152 := cell_below bw_r_7 ct_5_2
      have ct_5_3__153 := cell_below bw_r_7 ct_5_3
      have ct_5_4__154 := cell_below bw_r_7 ct_5_4
      clear bw_r_7
      have kr_7_0 : w_r_7.cell? ⟨wr0.heap.size, 0, none⟩ = some (.int .i64 t_5_zone) := by rw [← hw_r_7]; exact box_new _ _ _ 0 _ rfl
      have kr_7_1 : w_r_7.cell? ⟨wr0.heap.size, 1, none⟩ = some (.int .i64 t_5_grams) := by rw [← hw_r_7]; exact box_new _ _ _ 1 _ rfl
      have kr_7_2 : w_r_7.cell? ⟨wr0.heap.size, 2, none⟩ = some (.int .i64 t_5_from_) := by rw [← hw_r_7]; exact box_new _ _ _ 2 _ rfl
      have kr_7_3 : w_r_7.cell? ⟨wr0.heap.size, 3, none⟩ = some (.int .i64 t_5_until_) := by rw [← hw_r_7]; exact box_new _ _ _ 3 _ rfl
      have kr_7_4 : w_r_7.cell? ⟨wr0.heap.size, 4, none⟩ = some (.int .i64 t_5_cents) := by rw [← hw_r_7]; exact box_new _ _ _ 4 _ rfl
      replace H := let_hid H
      obtain ⟨t_12, ht_12, H⟩ := H
      replace H := join_hid H
      cases t_12 with
      | false =>
        replace H := ite_f H
        replace H := app_hid H
        replace H := join_hid H
        replace H := ite_f H
        replace H := app_hid H
        replace H := ite_f H
        replace H := app_hid H
        go_wp2_with fail
        clear ct_5_0 ct_5_1 ct_5_2 ct_5_3 ct_5_4
        go_roundg m0
        case measure => omega
        case rel => exact ⟨k0 + 1, by omega, by go_num, H, HBw_r_7⟩
      | true =>
        replace H := ite_t H
        replace H := let_hid H
        obtain ⟨t_17, ht_17, H⟩ := H
        replace H := app_hid H
        replace H := join_hid H
        cases t_17 with
        | false =>
          replace H := ite_f H
          replace H := app_hid H
          replace H := ite_f H
          replace H := app_hid H
          go_wp2_with fail
          clear ct_5_0 ct_5_1 ct_5_2 ct_5_3 ct_5_4
          go_roundg m0
          case measure => omega
          case rel => exact ⟨k0 + 1, by omega, by go_num, H, HBw_r_7⟩
        | true =>
          replace H := ite_t H
          replace H := bind_hid H
          obtain ⟨t_25, qt_25, H⟩ := H
          go_wp2_with fail
          clear ct_5_0 ct_5_1 ct_5_2 ct_5_3 ct_5_4
          go_at_call 86
          refine (Go.Proofs.Ytkinlkmmelkdnaa.GiWithin.C (day) (t_5_from_) (t_5_until_)  _    qt_25).mono ?_
          rintro e_t_25 wt_25 ⟨rfl, bt_25⟩
          have HBwt_25 := Lib.hid (Below.step HBw_r_7.out bt_25)
          replace ct_5_0__150 := cell_below bt_25 ct_5_0__150
          replace ct_5_1__151 := cell_below bt_25 ct_5_1__151
          replace ct_5_2__152 := cell_below bt_25 ct_5_2__152
          replace ct_5_3__153 := cell_below bt_25 ct_5_3__153
          replace ct_5_4__154 := cell_below bt_25 ct_5_4__154
          replace kr_7_0 := cell_below bt_25 kr_7_0
          replace kr_7_1 := cell_below bt_25 kr_7_1
          replace kr_7_2 := cell_below bt_25 kr_7_2
          replace kr_7_3 := cell_below bt_25 kr_7_3
          replace kr_7_4 := cell_below bt_25 kr_7_4
          clear bt_25
          replace H := app_hid H
          cases t_25 with
          | false =>
            replace H := ite_f H
            replace H := app_hid H
            go_wp2_with fail
            go_roundg m0
            case measure => omega
            case rel => exact ⟨k0 + 1, by omega, by go_num, H, HBwt_25⟩
          | true =>
            replace H := ite_t H
            obtain rfl := ret_hid H
            go_wp2_with fail
            go_ret
            exact ⟨rfl, HBwt_25.out⟩
end Go.Proofs.Ytkinlkmmelkdnaa.GiRateOn

/- loop.example/g01062/impl.CheapestZones as a plain function, and the contract of the program's: where the plain one has an answer, the program has it. Conditions: slices read as lists. -/
namespace Go.Proofs.Ytkinlkmmelkdnaa.GiCheapestZones
set_option linter.unusedVariables false
set_option linter.unusedSimpArgs false
open Go.RowKit
open Go.Proofs.Ytkinlkmmelkdnaa.Rowed Go.Proofs.Ytkinlkmmelkdnaa.Turn Go.Proofs.Ytkinlkmmelkdnaa.Aid Go.Proofs.Ytkinlkmmelkdnaa.GoP Go.Proofs.Ytkinlkmmelkdnaa.GoM

def j0 (nx0 : ((List Int) × Int) → Option ((List Int) × Bool)) (k0 : Nat) (s : (List Int) × Int) : Option ((List Int) × Bool) :=
  unp2 s fun zones_8j0 least_9j0 =>
  guardK (zones_8j0.length ≤ 1099511627776) <|
  letK (zones_8j0 ++ [(k0 : Int)]) fun (t_49 : (List Int)) =>
  appK nx0 (t_49, least_9j0)

def l0 (list : (List Go.Proofs.Ytkinlkmmelkdnaa.PRate.Rate)) (day : Int) (grams : Int) (k0 : Nat) (s : (List Int) × Int) (nx0 bk0 : (List Int) × Int → Option ((List Int) × Bool)) : Option ((List Int) × Bool) :=
  unp2 s fun zones_8l0 least_9l0 =>
  Option.bind (Go.Proofs.Ytkinlkmmelkdnaa.GiRateOn.P list day (k0 : Int) grams) fun (t_29 : Int) =>
  letK (t_29 == 0) fun (t_32 : Bool) =>
  joinK (fun (t_37 : Bool) =>
  iteK t_37
  (appK nx0 (zones_8l0, least_9l0))
  (letK (decide (t_29 < least_9l0)) fun (t_40 : Bool) =>
  iteK t_40
  (guardK ((0 : Int) ≤ 0 ∧ (0 : Int) ≤ (zones_8l0.length : Int)) <|
  letK (List.take (Int.toNat 0) zones_8l0) fun (t_44 : (List Int)) =>
  j0 nx0 k0 (t_44, t_29))
  (j0 nx0 k0 (zones_8l0, least_9l0)))) fun jt_37 => iteK t_32 (appK jt_37 true) (letK (decide (least_9l0 < t_29)) fun (t_36 : Bool) =>
  appK jt_37 t_36)

def e0  (s : (List Int) × Int) : Option ((List Int) × Bool) :=
  unp2 s fun zones_8l0 least_9l0 =>
  some (zones_8l0, true)

def P (list : (List Go.Proofs.Ytkinlkmmelkdnaa.PRate.Rate)) (day : Int) (grams : Int) : Option ((List Int) × Bool) :=
  Option.bind (Go.Proofs.Ytkinlkmmelkdnaa.GiAreRates.P list) fun (t_3 : Bool) =>
  letK (!t_3) fun (t_4 : Bool) =>
  joinK (fun (t_9 : Bool) =>
  joinK (fun (t_14 : Bool) =>
  iteK t_14
  (some (([] : List Int), false))
  (cntK (l0 list day grams) (10) 0 (([] : List Int), 10000) (e0 ))) fun jt_14 => iteK t_9 (appK jt_14 true) (Option.bind (Go.Proofs.Ytkinlkmmelkdnaa.GiIsWeight.P grams) fun (t_12 : Bool) =>
  letK (!t_12) fun (t_13 : Bool) =>
  appK jt_14 t_13)) fun jt_9 => iteK t_4 (appK jt_9 true) (Option.bind (Go.Proofs.Ytkinlkmmelkdnaa.GiIsDay.P day) fun (t_7 : Bool) =>
  letK (!t_7) fun (t_8 : Bool) =>
  appK jt_9 t_8)

set_option maxRecDepth 100000 in
set_option maxHeartbeats 2000000 in
theorem C (list : (List Go.Proofs.Ytkinlkmmelkdnaa.PRate.Rate)) (day : Int) (grams : Int) (A0 : Option Addr) (c0 : Nat)  (w : World) (M0 : Hid (Cells w 5 A0 list.length (Go.Proofs.Ytkinlkmmelkdnaa.PRate.flat list))) (N0 : Hid (list.length ≤ 9223372036854775807))  {r0 : (List Int)} {r1 : Bool} (H : Hid (P list day grams = some (r0, r1))) :
    Calls Try.prog 35 #[.slice A0 list.length c0, .int .i64 day, .int .i64 grams] w (fun e w' => ∃ A_r0 c_r0, e = .returned (.tuple #[.slice A_r0 r0.length c_r0, .bool r1]) ∧ w'.ownsRow w.heap.size 3 1 (.slice A_r0 r0.length c_r0) r0.length (Go.Proofs.Ytkinlkmmelkdnaa.HelpInt.iv r0) ∧ Below w.heap.size w w') := by
  have HB := Lib.hid (Below.refl w.heap.size w)
  unfold P at H
  have N0o := N0.out
  obtain ⟨i0_3, hi_3, hz0_3, hz1_3, hz2_3⟩ := Aid.info_parts (P := Try.prog) (T := 3) (z := .int .i64 0) (s := 1) (b := 8) (by kernel_rfl)
  go_enter Try.func35, Try.ntmps35
  replace H := bind_hid H
  obtain ⟨t_3, qt_3, H⟩ := H
  go_wp2_with fail
  go_at_call 20
  refine (Go.Proofs.Ytkinlkmmelkdnaa.GiAreRates.C (list) A0 c0 _   (Lib.hid (Cells.below M0.out HB.out)) N0 qt_3).mono ?_
  rintro e_t_3 wt_3 ⟨rfl, bt_3⟩
  have HBwt_3 := Lib.hid (Below.step HB.out bt_3)
  clear bt_3
  cases t_3 with
  | false =>
    replace H := let_hid H
    obtain ⟨t_4, ht_4, H⟩ := H
    obtain rfl : t_4 = true := ht_4.symm
    replace H := join_hid H
    replace H := ite_t H
    replace H := app_hid H
    replace H := join_hid H
    replace H := ite_t H
    replace H := app_hid H
    replace H := ite_t H
    obtain ⟨w_t_15, hw_t_15⟩ : ∃ x, wt_3.alloc (.cells #[] 3) = x := ⟨_, rfl⟩
    have bw_t_15 : Below wt_3.heap.size wt_3 w_t_15 := by rw [← hw_t_15]; exact (Below.refl _ _).alloc (Nat.le_refl _) _
    have Ot_15 : Hid (w_t_15.ownsRow w.heap.size 3 1 (.slice (some ⟨wt_3.heap.size, 0, none⟩) 0 0) 0 []) := Lib.hid (by rw [← hw_t_15]; exact own_empty HBwt_3.out.size)
    have HBw_t_15 := Lib.hid (Below.step HBwt_3.out bw_t_15)
    clear bw_t_15
    cases ret_hid H
    go_wp2_with fail
    go_ret2
    exact ⟨(some ⟨wt_3.heap.size, 0, none⟩), 0, rfl, Ot_15.out, HBw_t_15.out⟩
  | true =>
    replace H := let_hid H
    obtain ⟨t_4, ht_4, H⟩ := H
    obtain rfl : t_4 = false := ht_4.symm
    replace H := join_hid H
    replace H := ite_f H
    replace H := bind_hid H
    obtain ⟨t_7, qt_7, H⟩ := H
    go_wp2_with fail
    go_at_call 74
    refine (Go.Proofs.Ytkinlkmmelkdnaa.GiIsDay.C (day)  _    qt_7).mono ?_
    rintro e_t_7 wt_7 ⟨rfl, bt_7⟩
    have HBwt_7 := Lib.hid (Below.step HBwt_3.out bt_7)
    clear bt_7
    cases t_7 with
    | false =>
      replace H := let_hid H
      obtain ⟨t_8, ht_8, H⟩ := H
      obtain rfl : t_8 = true := ht_8.symm
      replace H := app_hid H
      replace H := join_hid H
      replace H := ite_t H
      replace H := app_hid H
      replace H := ite_t H
      obtain ⟨w_t_15, hw_t_15⟩ : ∃ x, wt_7.alloc (.cells #[] 3) = x := ⟨_, rfl⟩
      have bw_t_15 : Below wt_7.heap.size wt_7 w_t_15 := by rw [← hw_t_15]; exact (Below.refl _ _).alloc (Nat.le_refl _) _
      have Ot_15 : Hid (w_t_15.ownsRow w.heap.size 3 1 (.slice (some ⟨wt_7.heap.size, 0, none⟩) 0 0) 0 []) := Lib.hid (by rw [← hw_t_15]; exact own_empty HBwt_7.out.size)
      have HBw_t_15 := Lib.hid (Below.step HBwt_7.out bw_t_15)
      clear bw_t_15
      cases ret_hid H
      go_wp2_with fail
      go_ret2
      exact ⟨(some ⟨wt_7.heap.size, 0, none⟩), 0, rfl, Ot_15.out, HBw_t_15.out⟩
    | true =>
      replace H := let_hid H
      obtain ⟨t_8, ht_8, H⟩ := H
      obtain rfl : t_8 = false := ht_8.symm
      replace H := app_hid H
      replace H := join_hid H
      replace H := ite_f H
      replace H := bind_hid H
      obtain ⟨t_12, qt_12, H⟩ := H
      go_wp2_with fail
      go_at_call 72
      refine (Go.Proofs.Ytkinlkmmelkdnaa.GiIsWeight.C (grams)  _    qt_12).mono ?_
      rintro e_t_12 wt_12 ⟨rfl, bt_12⟩
      have HBwt_12 := Lib.hid (Below.step HBwt_7.out bt_12)
      clear bt_12
      cases t_12 with
      | false =>
        replace H := let_hid H
        obtain ⟨t_13, ht_13, H⟩ := H
        obtain rfl : t_13 = true := ht_13.symm
        replace H := app_hid H
        replace H := ite_t H
        obtain ⟨w_t_15, hw_t_15⟩ : ∃ x, wt_12.alloc (.cells #[] 3) = x := ⟨_, rfl⟩
        have bw_t_15 : Below wt_12.heap.size wt_12 w_t_15 := by rw [← hw_t_15]; exact (Below.refl _ _).alloc (Nat.le_refl _) _
        have Ot_15 : Hid (w_t_15.ownsRow w.heap.size 3 1 (.slice (some ⟨wt_12.heap.size, 0, none⟩) 0 0) 0 []) := Lib.hid (by rw [← hw_t_15]; exact own_empty HBwt_12.out.size)
        have HBw_t_15 := Lib.hid (Below.step HBwt_12.out bw_t_15)
        clear bw_t_15
        cases ret_hid H
        go_wp2_with fail
        go_ret2
        exact ⟨(some ⟨wt_12.heap.size, 0, none⟩), 0, rfl, Ot_15.out, HBw_t_15.out⟩
      | true =>
        replace H := let_hid H
        obtain ⟨t_13, ht_13, H⟩ := H
        obtain rfl : t_13 = false := ht_13.symm
        replace H := app_hid H
        replace H := ite_f H
        obtain ⟨w_t_18, hw_t_18⟩ : ∃ x, wt_12.alloc (.cells #[] 3) = x := ⟨_, rfl⟩
        have bw_t_18 : Below wt_12.heap.size wt_12 w_t_18 := by rw [← hw_t_18]; exact (Below.refl _ _).alloc (Nat.le_refl _) _
        have Ot_18 : Hid (w_t_18.ownsRow w.heap.size 3 1 (.slice (some ⟨wt_12.heap.size, 0, none⟩) 0 0) 0 []) := Lib.hid (by rw [← hw_t_18]; exact own_empty HBwt_12.out.size)
        have HBw_t_18 := Lib.hid (Below.step HBwt_12.out bw_t_18)
        clear bw_t_18
        go_wp2_with fail
        go_loopg [27, 8, 9] (10) (fun m_ v27_ v8_ v9_ wr => ∃ (k0 : Nat) (zones_8l0 : (List Int)) (least_9l0 : Int) (Azones_8l0 : Option Addr) (czones_8l0 : Nat), k0 + m_ = 10 ∧ v27_ = .int .i64 (k0 : Int) ∧ v8_ = .slice Azones_8l0 zones_8l0.length czones_8l0 ∧ v9_ = .int .i64 least_9l0 ∧ Hid (cntK (l0 list day grams) m_ k0 (zones_8l0, least_9l0) (e0 ) = some (r0, r1)) ∧ Hid (Below w.heap.size w wr) ∧ Hid (wr.ownsRow w.heap.size 3 1 (.slice Azones_8l0 zones_8l0.length czones_8l0) zones_8l0.length (Go.Proofs.Ytkinlkmmelkdnaa.HelpInt.iv zones_8l0)))
        case atStart => exact ⟨0, _, _, _, _, by omega, rfl, rfl, rfl, H, HBw_t_18, Ot_18⟩
        case round =>
          obtain ⟨k0, zones_8l0, least_9l0, Azones_8l0, czones_8l0, hkm0, rfl, rfl, rfl, H, HBwr0, Ozones_8l0⟩ := hrel
          rename World => wr0
          cases gk with
          | zero =>
            obtain rfl : k0 = 10 := by omega
            have hc0 : decide (((10 : Nat) : Int) < ((10 : Nat) : Int)) = false := by simp
            replace H := cnt_zero H
            unfold e0 at H
            replace H := unp2_hid H
            cases ret_hid H
            go_wp2_with fail
            go_ret2
            exact ⟨Azones_8l0, czones_8l0, rfl, Ozones_8l0.out, HBwr0.out⟩
          | succ m0 =>
            have hlt0 : k0 < 10 := by omega
            have hc0 : decide ((k0 : Int) < ((10 : Nat) : Int)) = true := by simp; omega
            replace H := cnt_succ H
            unfold l0 at H
            replace H := unp2_hid H
            replace H := bind_hid H
            obtain ⟨t_29, qt_29, H⟩ := H
            go_wp2_with fail
            go_at_call 83
            refine (Go.Proofs.Ytkinlkmmelkdnaa.GiRateOn.C (list) (day) ((k0 : Int)) (grams) A0 c0 _   (Lib.hid (Cells.below M0.out HBwr0.out)) N0 qt_29).mono ?_
            rintro e_t_29 wt_29 ⟨rfl, bt_29⟩
            have HBwt_29 := Lib.hid (Below.step HBwr0.out bt_29)
            replace Ozones_8l0 := Lib.hid (own_below Ozones_8l0.out bt_29)
            clear bt_29
            replace H := let_hid H
            obtain ⟨t_32, ht_32, H⟩ := H
            replace H := join_hid H
            cases t_32 with
            | false =>
              replace H := ite_f H
              replace H := let_hid H
              obtain ⟨t_36, ht_36, H⟩ := H
              replace H := app_hid H
              cases t_36 with
              | false =>
                replace H := ite_f H
                replace H := let_hid H
                obtain ⟨t_40, ht_40, H⟩ := H
                cases t_40 with
                | false =>
                  replace H := ite_f H
                  unfold j0 at H
                  replace H := unp2_hid H
                  obtain ⟨w_t_48, hw_t_48⟩ : ∃ x, wt_29.alloc (.cells #[.int .i64 (k0 : Int)] 3) = x := ⟨_, rfl⟩
                  have bw_t_48 : Below wt_29.heap.size wt_29 w_t_48 := by rw [← hw_t_48]; exact (Below.refl _ _).alloc (Nat.le_refl _) _
                  have HBw_t_48 := Lib.hid (Below.step HBwt_29.out bw_t_48)
                  replace Ozones_8l0 := Lib.hid (own_below Ozones_8l0.out bw_t_48)
                  clear bw_t_48
                  replace H := guard_hid H
                  obtain ⟨hlt_49, H⟩ := H
                  replace H := let_hid H
                  obtain ⟨t_49, ht_49, H⟩ := H
                  have hht_49 := Lib.hid ht_49
                  clear ht_49
                  have hst_49 := HBw_t_48.out.size
                  go_wp2_with (at_builtin; refine wpList_append_own_at _ rfl _ _ 45 rfl w.heap.size 3 i0_3 (.int .i64 0) 1 8 Try.underlying45 hi_3 hz0_3 hz1_3 hz2_3 rfl (by decide) _ _ _ rfl Ozones_8l0.out ⟨wt_29.heap.size, 0, none⟩ 1 1 [.int .i64 (k0 : Int)] rfl rfl (news_new hw_t_48) (one_cells rfl) (by unfold maxLen; omega) (by omega) hst_49 ?_; intro vt_49 wt_49 ot_49 gt_49 zt_49 yt_49; clear zt_49; obtain ⟨qt_49, ct_49, rfl, pt_49⟩ := own_push hht_49.out (Go.Proofs.Ytkinlkmmelkdnaa.HelpInt.iv_snoc _ _) rfl ot_49; have Pt_49 := Lib.hid pt_49; have Yt_49 := Lib.hid yt_49; have Gt_49 := Lib.hid gt_49; clear ot_49 gt_49 pt_49 yt_49; refine stop_in ?_)
                  refine stop_out ?_
                  have HBwt_49 := Lib.hid (HBw_t_48.out.grown Gt_49.out hst_49 (fun q hq => (Ozones_8l0.out.lt q hq).1))
                  clear hst_49
                  clear Ozones_8l0 Yt_49 Gt_49
                  replace H := app_hid H
                  go_wp2_with fail
                  go_roundg m0
                  case measure => omega
                  case rel => exact ⟨k0 + 1, _, _, _, _, by omega, by go_num, rfl, rfl, H, HBwt_49, Pt_49⟩
                | true =>
                  replace H := ite_t H
                  replace H := guard_hid H
                  obtain ⟨hl_t_44, H⟩ := H
                  replace H := let_hid H
                  obtain ⟨t_44, ht_44, H⟩ := H
                  have dt_44 : ((Go.Proofs.Ytkinlkmmelkdnaa.HelpInt.iv zones_8l0)).take (Int.toNat 0 * 1) = (Go.Proofs.Ytkinlkmmelkdnaa.HelpInt.iv t_44) := by
                    rw [← ht_44]
                    simp [Go.Proofs.Ytkinlkmmelkdnaa.HelpInt.iv, List.map_take]
                  have nt_44 : Int.toNat 0 = t_44.length := by rw [← ht_44, List.length_take]; omega
                  obtain ⟨rt_44, Ot_44⟩ := slice_head (P := Try.prog) (t := 45) (e := 3) (k := .i64) (by kernel_rfl) (by kernel_rfl) hi_3 hz1_3 Ozones_8l0.out hl_t_44 nt_44 dt_44
                  replace Ot_44 := Lib.hid Ot_44
                  clear dt_44 nt_44 hl_t_44
                  have hht_44 := Lib.hid ht_44
                  clear ht_44
                  unfold j0 at H
                  replace H := unp2_hid H
                  obtain ⟨w_t_48, hw_t_48⟩ : ∃ x, wt_29.alloc (.cells #[.int .i64 (k0 : Int)] 3) = x := ⟨_, rfl⟩
                  have bw_t_48 : Below wt_29.heap.size wt_29 w_t_48 := by rw [← hw_t_48]; exact (Below.refl _ _).alloc (Nat.le_refl _) _
                  have HBw_t_48 := Lib.hid (Below.step HBwt_29.out bw_t_48)
                  replace Ot_44 := Lib.hid (own_below Ot_44.out bw_t_48)
                  clear bw_t_48
                  replace H := guard_hid H
                  obtain ⟨hlt_49, H⟩ := H
                  replace H := let_hid H
                  obtain ⟨t_49, ht_49, H⟩ := H
                  have hht_49 := Lib.hid ht_49
                  clear ht_49
                  have hst_49 := HBw_t_48.out.size
                  go_wp2_with (at_builtin; refine wpList_append_own_at _ rfl _ _ 45 rfl w.heap.size 3 i0_3 (.int .i64 0) 1 8 Try.underlying45 hi_3 hz0_3 hz1_3 hz2_3 rfl (by decide) _ _ _ rfl Ot_44.out ⟨wt_29.heap.size, 0, none⟩ 1 1 [.int .i64 (k0 : Int)] rfl rfl (news_new hw_t_48) (one_cells rfl) (by unfold maxLen; omega) (by omega) hst_49 ?_; intro vt_49 wt_49 ot_49 gt_49 zt_49 yt_49; clear zt_49; obtain ⟨qt_49, ct_49, rfl, pt_49⟩ := own_push hht_49.out (Go.Proofs.Ytkinlkmmelkdnaa.HelpInt.iv_snoc _ _) rfl ot_49; have Pt_49 := Lib.hid pt_49; have Yt_49 := Lib.hid yt_49; have Gt_49 := Lib.hid gt_49; clear ot_49 gt_49 pt_49 yt_49; refine stop_in ?_)
                  refine stop_out ?_
                  have HBwt_49 := Lib.hid (HBw_t_48.out.grown Gt_49.out hst_49 (fun q hq => (Ot_44.out.lt q hq).1))
                  clear hst_49
                  clear Ot_44 Yt_49 Gt_49
                  replace H := app_hid H
                  go_wp2_with fail
                  go_roundg m0
                  case measure => omega
                  case rel => exact ⟨k0 + 1, _, _, _, _, by omega, by go_num, rfl, rfl, H, HBwt_49, Pt_49⟩
              | true =>
                replace H := ite_t H
                replace H := app_hid H
                go_wp2_with fail
                go_roundg m0
                case measure => omega
                case rel => exact ⟨k0 + 1, _, _, _, _, by omega, by go_num, rfl, rfl, H, HBwt_29, Ozones_8l0⟩
            | true =>
              replace H := ite_t H
              replace H := app_hid H
              replace H := ite_t H
              replace H := app_hid H
              go_wp2_with fail
              go_roundg m0
              case measure => omega
              case rel => exact ⟨k0 + 1, _, _, _, _, by omega, by go_num, rfl, rfl, H, HBwt_29, Ozones_8l0⟩
end Go.Proofs.Ytkinlkmmelkdnaa.GiCheapestZones

/- loop.example/g01062/laws.eqIntS as a plain function, and the contract of the program's: where the plain one has an answer, the program has it. Conditions: slices read as lists. -/
namespace Go.Proofs.Ytkinlkmmelkdnaa.GlEqIntS
set_option linter.unusedVariables false
set_option linter.unusedSimpArgs false
open Go.RowKit
open Go.Proofs.Ytkinlkmmelkdnaa.Rowed Go.Proofs.Ytkinlkmmelkdnaa.Turn Go.Proofs.Ytkinlkmmelkdnaa.Aid Go.Proofs.Ytkinlkmmelkdnaa.GoP Go.Proofs.Ytkinlkmmelkdnaa.GoM

def l0 (a : (List Int)) (b : (List Int)) (k0 : Nat) (s : Unit) (nx0 bk0 : Unit → Option (Bool)) : Option (Bool) :=
  
  Option.bind (idx a (k0 : Int)) fun (yt_14 : Int) =>
  Option.bind (idx b (k0 : Int)) fun (yt_18 : Int) =>
  letK (yt_14 != yt_18) fun (t_20 : Bool) =>
  iteK t_20
  (some false)
  (appK nx0 ())

def e0  (s : Unit) : Option (Bool) :=
  
  some true

def P (a : (List Int)) (b : (List Int)) : Option (Bool) :=
  letK ((a.length : Int) != (b.length : Int)) fun (t_5 : Bool) =>
  iteK t_5
  (some false)
  (cntK (l0 a b) (a.length) 0 () (e0 ))

set_option maxRecDepth 100000 in
set_option maxHeartbeats 2000000 in
theorem C (a : (List Int)) (b : (List Int)) (A0 : Option Addr) (c0 : Nat) (A1 : Option Addr) (c1 : Nat)  (w : World) (M0 : Hid (Cells w 1 A0 a.length (Go.Proofs.Ytkinlkmmelkdnaa.HelpInt.iv a))) (N0 : Hid (a.length ≤ 9223372036854775807)) (M1 : Hid (Cells w 1 A1 b.length (Go.Proofs.Ytkinlkmmelkdnaa.HelpInt.iv b))) (N1 : Hid (b.length ≤ 9223372036854775807))  {r : Bool} (H : Hid (P a b = some r)) :
    Calls Try.prog 36 #[.slice A0 a.length c0, .slice A1 b.length c1] w (Gives (.bool r) w) := by
  have HB := Lib.hid (Below.refl w.heap.size w)
  unfold P at H
  have N0o := N0.out
  have N1o := N1.out
  go_enter Try.func36, Try.ntmps36
  replace H := let_hid H
  obtain ⟨t_5, ht_5, H⟩ := H
  cases t_5 with
  | false =>
    have Hht_5 : Hid (a.length = b.length) := Lib.hid (by have := bne_eq_false_iff_eq.1 ht_5; omega)
    have nht_5 : (a.length == b.length) = true := beq_iff_eq.2 Hht_5.out
    replace H := ite_f H
    go_wp2_with fail
    go_loopg [5] (a.length) (fun m_ v5_ wr => ∃ (k0 : Nat) , k0 + m_ = a.length ∧ v5_ = .int .i64 (k0 : Int) ∧ Hid (cntK (l0 a b) m_ k0 () (e0 ) = some r) ∧ Hid (Below w.heap.size w wr))
    case atStart => exact ⟨0, by omega, rfl, H, HB⟩
    case round =>
      obtain ⟨k0, hkm0, rfl, H, HBwr0⟩ := hrel
      rename World => wr0
      cases gk with
      | zero =>
        obtain rfl : k0 = a.length := by omega
        have hc0 : decide (((a.length : Nat) : Int) < ((a.length : Nat) : Int)) = false := by simp
        replace H := cnt_zero H
        unfold e0 at H
        obtain rfl := ret_hid H
        go_wp2_with fail
        go_ret
        exact ⟨rfl, HBwr0.out⟩
      | succ m0 =>
        have hlt0 : k0 < a.length := by omega
        have hc0 : decide ((k0 : Int) < ((a.length : Nat) : Int)) = true := by simp; omega
        replace H := cnt_succ H
        unfold l0 at H
        go_wp2_with fail
        replace H := idx_hid H
        obtain ⟨nt_14, yt_14, et_14, lt_14, gt_14, H⟩ := H
        obtain rfl : k0 = nt_14 := by omega
        clear et_14
        obtain ⟨ab_t_14, ao_t_14, zt_14, At_14, z_t_14, ct_14_0⟩ := Go.Proofs.Ytkinlkmmelkdnaa.HelpInt.Ints.at_ M0.out lt_14
        obtain rfl := Option.some.inj (gt_14.out.symm.trans z_t_14)
        subst At_14
        have ltt_14 := cell_lt ct_14_0
        replace ct_14_0 := cell_below HBwr0.out ct_14_0
        clear z_t_14
        have b0t_14 : (0 : Int) ≤ (k0 : Int) := by omega
        have b1t_14 : (k0 : Int) < ((a.length : Nat) : Int) := by omega
        have b2t_14 : ((k0 : Int)).toNat = k0 := by omega
        have Hct_14_0 := Lib.hid ct_14_0
        replace ct_14_0 := cell_regrown ct_14_0
        replace H := idx_hid H
        obtain ⟨nt_18, yt_18, et_18, lt_18, gt_18, H⟩ := H
        obtain rfl : k0 = nt_18 := by omega
        clear et_18
        obtain ⟨ab_t_18, ao_t_18, zt_18, At_18, z_t_18, ct_18_0⟩ := Go.Proofs.Ytkinlkmmelkdnaa.HelpInt.Ints.at_ M1.out lt_18
        obtain rfl := Option.some.inj (gt_18.out.symm.trans z_t_18)
        subst At_18
        have ltt_18 := cell_lt ct_18_0
        replace ct_18_0 := cell_below HBwr0.out ct_18_0
        clear z_t_18
        have b0t_18 : (0 : Int) ≤ (k0 : Int) := by omega
        have b1t_18 : (k0 : Int) < ((b.length : Nat) : Int) := by omega
        have b2t_18 : ((k0 : Int)).toNat = k0 := by omega
        have Hct_18_0 := Lib.hid ct_18_0
        replace ct_18_0 := cell_regrown ct_18_0
        replace H := let_hid H
        obtain ⟨t_20, ht_20, H⟩ := H
        refine wp_region_quiet_below (by kernel_rfl) (by kernel_rfl) ?_
        repeat (go_big_quiet_step (fail))
        refine wpQuiet_nil ?_
        intro Y6 hY6
        replace hY6 := below_class hY6
        replace ct_14_0 := Hct_14_0.out
        clear Hct_14_0
        replace ct_18_0 := Hct_18_0.out
        clear Hct_18_0
        have HBY6 := Lib.hid (Below.step HBwr0.out hY6)
        replace ct_14_0 := cell_below hY6 ct_14_0
        replace ct_18_0 := cell_below hY6 ct_18_0
        clear hY6
        cases t_20 with
        | false =>
          replace H := ite_f H
          replace H := app_hid H
          go_wp2_with fail
          go_roundg m0
          case measure => omega
          case rel => exact ⟨k0 + 1, by omega, by go_num, H, HBY6⟩
        | true =>
          replace H := ite_t H
          obtain rfl := ret_hid H
          go_wp2_with fail
          go_ret
          exact ⟨rfl, HBY6.out⟩
  | true =>
    have nht_5 : ¬ (a.length = b.length) := by have := bne_iff_ne.1 ht_5; omega
    replace H := ite_t H
    obtain rfl := ret_hid H
    go_wp2_with fail
    go_ret
    exact ⟨rfl, HB.out⟩
end Go.Proofs.Ytkinlkmmelkdnaa.GlEqIntS

/- loop.example/g01062/laws.eqRate as a plain function, and the contract of the program's: where the plain one has an answer, the program has it. Conditions: slices read as lists. -/
namespace Go.Proofs.Ytkinlkmmelkdnaa.GlEqRate
set_option linter.unusedVariables false
set_option linter.unusedSimpArgs false
open Go.RowKit
open Go.Proofs.Ytkinlkmmelkdnaa.Rowed Go.Proofs.Ytkinlkmmelkdnaa.Turn Go.Proofs.Ytkinlkmmelkdnaa.Aid Go.Proofs.Ytkinlkmmelkdnaa.GoP Go.Proofs.Ytkinlkmmelkdnaa.GoM

def P (a : Go.Proofs.Ytkinlkmmelkdnaa.PRate.Rate) (b : Go.Proofs.Ytkinlkmmelkdnaa.PRate.Rate) : Option (Bool) :=
  unRate a fun (a_zone : Int) (a_grams : Int) (a_from_ : Int) (a_until_ : Int) (a_cents : Int) =>
  unRate b fun (b_zone : Int) (b_grams : Int) (b_from_ : Int) (b_until_ : Int) (b_cents : Int) =>
  letK (a_zone != b_zone) fun (t_7 : Bool) =>
  iteK t_7
  (some false)
  (letK (a_grams != b_grams) fun (t_13 : Bool) =>
  iteK t_13
  (some false)
  (letK (a_from_ != b_from_) fun (t_19 : Bool) =>
  iteK t_19
  (some false)
  (letK (a_until_ != b_until_) fun (t_25 : Bool) =>
  iteK t_25
  (some false)
  (letK (a_cents != b_cents) fun (t_31 : Bool) =>
  iteK t_31
  (some false)
  (some true)))))

set_option maxRecDepth 100000 in
set_option maxHeartbeats 2000000 in
theorem C (a : Go.Proofs.Ytkinlkmmelkdnaa.PRate.Rate) (b : Go.Proofs.Ytkinlkmmelkdnaa.PRate.Rate)   (w : World)   {r : Bool} (H : Hid (P a b = some r)) :
    Calls Try.prog 77 #[a.val, b.val] w (Gives (.bool r) w) := by
  have HB := Lib.hid (Below.refl w.heap.size w)
  unfold P at H
  obtain ⟨a_zone, a_grams, a_from_, a_until_, a_cents⟩ := a
  replace H := unRate_hid H
  obtain ⟨b_zone, b_grams, b_from_, b_until_, b_cents⟩ := b
  replace H := unRate_hid H
  unfold Go.Proofs.Ytkinlkmmelkdnaa.PRate.Rate.val
  go_enter Try.func77, Try.ntmps77
  obtain ⟨w_a_0, hw_a_0⟩ : ∃ x, w.alloc (.cells #[.int .i64 a_zone, .int .i64 a_grams, .int .i64 a_from_, .int .i64 a_until_, .int .i64 a_cents] 25) = x := ⟨_, rfl⟩
  have bw_a_0 : Below w.heap.size w w_a_0 := by rw [← hw_a_0]; exact (Below.refl _ _).alloc (Nat.le_refl _) _
  have HBw_a_0 := Lib.hid (Below.step HB.out bw_a_0)
  clear bw_a_0
  have ka_0_0 : w_a_0.cell? ⟨w.heap.size, 0, none⟩ = some (.int .i64 a_zone) := by rw [← hw_a_0]; exact box_new _ _ _ 0 _ rfl
  have ka_0_1 : w_a_0.cell? ⟨w.heap.size, 1, none⟩ = some (.int .i64 a_grams) := by rw [← hw_a_0]; exact box_new _ _ _ 1 _ rfl
  have ka_0_2 : w_a_0.cell? ⟨w.heap.size, 2, none⟩ = some (.int .i64 a_from_) := by rw [← hw_a_0]; exact box_new _ _ _ 2 _ rfl
  have ka_0_3 : w_a_0.cell? ⟨w.heap.size, 3, none⟩ = some (.int .i64 a_until_) := by rw [← hw_a_0]; exact box_new _ _ _ 3 _ rfl
  have ka_0_4 : w_a_0.cell? ⟨w.heap.size, 4, none⟩ = some (.int .i64 a_cents) := by rw [← hw_a_0]; exact box_new _ _ _ 4 _ rfl
  obtain ⟨w_b_1, hw_b_1⟩ : ∃ x, w_a_0.alloc (.cells #[.int .i64 b_zone, .int .i64 b_grams, .int .i64 b_from_, .int .i64 b_until_, .int .i64 b_cents] 25) = x := ⟨_, rfl⟩
  have bw_b_1 : Below w_a_0.heap.size w_a_0 w_b_1 := by rw [← hw_b_1]; exact (Below.refl _ _).alloc (Nat.le_refl _) _
  have HBw_b_1 := Lib.hid (Below.step HBw_a_0.out bw_b_1)
  have ka_0_0__155 := cell_below bw_b_1 ka_0_0
  have ka_0_1__156 := cell_below bw_b_1 ka_0_1
  have ka_0_2__157 := cell_below bw_b_1 ka_0_2
  have ka_0_3__158 := cell_below bw_b_1 ka_0_3
  have ka_0_4__159 := cell_below bw_b_1 ka_0_4
  clear bw_b_1
  have kb_1_0 : w_b_1.cell? ⟨w_a_0.heap.size, 0, none⟩ = some (.int .i64 b_zone) := by rw [← hw_b_1]; exact box_new _ _ _ 0 _ rfl
  have kb_1_1 : w_b_1.cell? ⟨w_a_0.heap.size, 1, none⟩ = some (.int .i64 b_grams) := by rw [← hw_b_1]; exact box_new _ _ _ 1 _ rfl
  have kb_1_2 : w_b_1.cell? ⟨w_a_0.heap.size, 2, none⟩ = some (.int .i64 b_from_) := by rw [← hw_b_1]; exact box_new _ _ _ 2 _ rfl
  have kb_1_3 : w_b_1.cell? ⟨w_a_0.heap.size, 3, none⟩ = some (.int .i64 b_until_) := by rw [← hw_b_1]; exact box_new _ _ _ 3 _ rfl
  have kb_1_4 : w_b_1.cell? ⟨w_a_0.heap.size, 4, none⟩ = some (.int .i64 b_cents) := by rw [← hw_b_1]; exact box_new _ _ _ 4 _ rfl
  replace H := let_hid H
  obtain ⟨t_7, ht_7, H⟩ := H
  cases t_7 with
  | false =>
    replace H := ite_f H
    replace H := let_hid H
    obtain ⟨t_13, ht_13, H⟩ := H
    cases t_13 with
    | false =>
      replace H := ite_f H
      replace H := let_hid H
      obtain ⟨t_19, ht_19, H⟩ := H
      cases t_19 with
      | false =>
        replace H := ite_f H
        replace H := let_hid H
        obtain ⟨t_25, ht_25, H⟩ := H
        cases t_25 with
        | false =>
          replace H := ite_f H
          replace H := let_hid H
          obtain ⟨t_31, ht_31, H⟩ := H
          cases t_31 with
          | false =>
            replace H := ite_f H
            obtain rfl := ret_hid H
            go_wp2_with fail
            go_ret
            exact ⟨rfl, HBw_b_1.out⟩
          | true =>
            replace H := ite_t H
            obtain rfl := ret_hid H
            go_wp2_with fail
            go_ret
            exact ⟨rfl, HBw_b_1.out⟩
        | true =>
          replace H := ite_t H
          obtain rfl := ret_hid H
          go_wp2_with fail
          go_ret
          exact ⟨rfl, HBw_b_1.out⟩
      | true =>
        replace H := ite_t H
        obtain rfl := ret_hid H
        go_wp2_with fail
        go_ret
        exact ⟨rfl, HBw_b_1.out⟩
    | true =>
      replace H := ite_t H
      obtain rfl := ret_hid H
      go_wp2_with fail
      go_ret
      exact ⟨rfl, HBw_b_1.out⟩
  | true =>
    replace H := ite_t H
    obtain rfl := ret_hid H
    go_wp2_with fail
    go_ret
    exact ⟨rfl, HBw_b_1.out⟩
end Go.Proofs.Ytkinlkmmelkdnaa.GlEqRate

/- loop.example/g01062/laws.eqRateS as a plain function, and the contract of the program's: where the plain one has an answer, the program has it. Conditions: slices read as lists. -/
namespace Go.Proofs.Ytkinlkmmelkdnaa.GlEqRateS
set_option linter.unusedVariables false
set_option linter.unusedSimpArgs false
open Go.RowKit
open Go.Proofs.Ytkinlkmmelkdnaa.Rowed Go.Proofs.Ytkinlkmmelkdnaa.Turn Go.Proofs.Ytkinlkmmelkdnaa.Aid Go.Proofs.Ytkinlkmmelkdnaa.GoP Go.Proofs.Ytkinlkmmelkdnaa.GoM

def l0 (a : (List Go.Proofs.Ytkinlkmmelkdnaa.PRate.Rate)) (b : (List Go.Proofs.Ytkinlkmmelkdnaa.PRate.Rate)) (k0 : Nat) (s : Unit) (nx0 bk0 : Unit → Option (Bool)) : Option (Bool) :=
  
  Option.bind (idx a (k0 : Int)) fun (yt_14 : Go.Proofs.Ytkinlkmmelkdnaa.PRate.Rate) =>
  unRate yt_14 fun (t_14_zone : Int) (t_14_grams : Int) (t_14_from_ : Int) (t_14_until_ : Int) (t_14_cents : Int) =>
  Option.bind (idx b (k0 : Int)) fun (yt_18 : Go.Proofs.Ytkinlkmmelkdnaa.PRate.Rate) =>
  unRate yt_18 fun (t_18_zone : Int) (t_18_grams : Int) (t_18_from_ : Int) (t_18_until_ : Int) (t_18_cents : Int) =>
  Option.bind (Go.Proofs.Ytkinlkmmelkdnaa.GlEqRate.P (Go.Proofs.Ytkinlkmmelkdnaa.PRate.Rate.mk t_14_zone t_14_grams t_14_from_ t_14_until_ t_14_cents) (Go.Proofs.Ytkinlkmmelkdnaa.PRate.Rate.mk t_18_zone t_18_grams t_18_from_ t_18_until_ t_18_cents)) fun (t_20 : Bool) =>
  letK (!t_20) fun (t_21 : Bool) =>
  iteK t_21
  (some false)
  (appK nx0 ())

def e0  (s : Unit) : Option (Bool) :=
  
  some true

def P (a : (List Go.Proofs.Ytkinlkmmelkdnaa.PRate.Rate)) (b : (List Go.Proofs.Ytkinlkmmelkdnaa.PRate.Rate)) : Option (Bool) :=
  letK ((a.length : Int) != (b.length : Int)) fun (t_5 : Bool) =>
  iteK t_5
  (some false)
  (cntK (l0 a b) (a.length) 0 () (e0 ))

set_option maxRecDepth 100000 in
set_option maxHeartbeats 2000000 in
theorem C (a : (List Go.Proofs.Ytkinlkmmelkdnaa.PRate.Rate)) (b : (List Go.Proofs.Ytkinlkmmelkdnaa.PRate.Rate)) (A0 : Option Addr) (c0 : Nat) (A1 : Option Addr) (c1 : Nat)  (w : World) (M0 : Hid (Cells w 5 A0 a.length (Go.Proofs.Ytkinlkmmelkdnaa.PRate.flat a))) (N0 : Hid (a.length ≤ 9223372036854775807)) (M1 : Hid (Cells w 5 A1 b.length (Go.Proofs.Ytkinlkmmelkdnaa.PRate.flat b))) (N1 : Hid (b.length ≤ 9223372036854775807))  {r : Bool} (H : Hid (P a b = some r)) :
    Calls Try.prog 21 #[.slice A0 a.length c0, .slice A1 b.length c1] w (Gives (.bool r) w) := by
  have HB := Lib.hid (Below.refl w.heap.size w)
  unfold P at H
  have N0o := N0.out
  have N1o := N1.out
  go_enter Try.func21, Try.ntmps21
  replace H := let_hid H
  obtain ⟨t_5, ht_5, H⟩ := H
  cases t_5 with
  | false =>
    have Hht_5 : Hid (a.length = b.length) := Lib.hid (by have := bne_eq_false_iff_eq.1 ht_5; omega)
    have nht_5 : (a.length == b.length) = true := beq_iff_eq.2 Hht_5.out
    replace H := ite_f H
    go_wp2_with fail
    go_loopg [5] (a.length) (fun m_ v5_ wr => ∃ (k0 : Nat) , k0 + m_ = a.length ∧ v5_ = .int .i64 (k0 : Int) ∧ Hid (cntK (l0 a b) m_ k0 () (e0 ) = some r) ∧ Hid (Below w.heap.size w wr))
    case atStart => exact ⟨0, by omega, rfl, H, HB⟩
    case round =>
      obtain ⟨k0, hkm0, rfl, H, HBwr0⟩ := hrel
      rename World => wr0
      cases gk with
      | zero =>
        obtain rfl : k0 = a.length := by omega
        have hc0 : decide (((a.length : Nat) : Int) < ((a.length : Nat) : Int)) = false := by simp
        replace H := cnt_zero H
        unfold e0 at H
        obtain rfl := ret_hid H
        go_wp2_with fail
        go_ret
        exact ⟨rfl, HBwr0.out⟩
      | succ m0 =>
        have hlt0 : k0 < a.length := by omega
        have hc0 : decide ((k0 : Int) < ((a.length : Nat) : Int)) = true := by simp; omega
        replace H := cnt_succ H
        unfold l0 at H
        go_wp2_with fail
        replace H := idx_hid H
        obtain ⟨nt_14, yt_14, et_14, lt_14, gt_14, H⟩ := H
        obtain rfl : k0 = nt_14 := by omega
        clear et_14
        obtain ⟨t_14_zone, t_14_grams, t_14_from_, t_14_until_, t_14_cents⟩ := yt_14
        replace H := unRate_hid H
        obtain ⟨ab_t_14, ao_t_14, zt_14, At_14, z_t_14, ct_14_0, ct_14_1, ct_14_2, ct_14_3, ct_14_4⟩ := Go.Proofs.Ytkinlkmmelkdnaa.ORate.at_ M0.out lt_14
        obtain rfl := Option.some.inj (gt_14.out.symm.trans z_t_14)
        subst At_14
        have ltt_14 := cell_lt ct_14_0
        replace ct_14_0 := cell_below HBwr0.out ct_14_0
        replace ct_14_1 := cell_below HBwr0.out ct_14_1
        replace ct_14_2 := cell_below HBwr0.out ct_14_2
        replace ct_14_3 := cell_below HBwr0.out ct_14_3
        replace ct_14_4 := cell_below HBwr0.out ct_14_4
        clear z_t_14
        have b0t_14 : (0 : Int) ≤ (k0 : Int) := by omega
        have b1t_14 : (k0 : Int) < ((a.length : Nat) : Int) := by omega
        have b2t_14 : ((k0 : Int)).toNat = k0 := by omega
        have Hct_14_0 := Lib.hid ct_14_0
        replace ct_14_0 := cell_regrown ct_14_0
        have Hct_14_1 := Lib.hid ct_14_1
        replace ct_14_1 := cell_regrown ct_14_1
        have Hct_14_2 := Lib.hid ct_14_2
        replace ct_14_2 := cell_regrown ct_14_2
        have Hct_14_3 := Lib.hid ct_14_3
        replace ct_14_3 := cell_regrown ct_14_3
        have Hct_14_4 := Lib.hid ct_14_4
        replace ct_14_4 := cell_regrown ct_14_4
        replace H := idx_hid H
        obtain ⟨nt_18, yt_18, et_18, lt_18, gt_18, H⟩ := H
        obtain rfl : k0 = nt_18 := by omega
        clear et_18
        obtain ⟨t_18_zone, t_18_grams, t_18_from_, t_18_until_, t_18_cents⟩ := yt_18
        replace H := unRate_hid H
        obtain ⟨ab_t_18, ao_t_18, zt_18, At_18, z_t_18, ct_18_0, ct_18_1, ct_18_2, ct_18_3, ct_18_4⟩ := Go.Proofs.Ytkinlkmmelkdnaa.ORate.at_ M1.out lt_18
        obtain rfl := Option.some.inj (gt_18.out.symm.trans z_t_18)
        subst At_18
        have ltt_18 := cell_lt ct_18_0
        replace ct_18_0 := cell_below HBwr0.out ct_18_0
        replace ct_18_1 := cell_below HBwr0.out ct_18_1
        replace ct_18_2 := cell_below HBwr0.out ct_18_2
        replace ct_18_3 := cell_below HBwr0.out ct_18_3
        replace ct_18_4 := cell_below HBwr0.out ct_18_4
        clear z_t_18
        have b0t_18 : (0 : Int) ≤ (k0 : Int) := by omega
        have b1t_18 : (k0 : Int) < ((b.length : Nat) : Int) := by omega
        have b2t_18 : ((k0 : Int)).toNat = k0 := by omega
        have Hct_18_0 := Lib.hid ct_18_0
        replace ct_18_0 := cell_regrown ct_18_0
        have Hct_18_1 := Lib.hid ct_18_1
        replace ct_18_1 := cell_regrown ct_18_1
        have Hct_18_2 := Lib.hid ct_18_2
        replace ct_18_2 := cell_regrown ct_18_2
        have Hct_18_3 := Lib.hid ct_18_3
        replace ct_18_3 := cell_regrown ct_18_3
        have Hct_18_4 := Lib.hid ct_18_4
        replace ct_18_4 := cell_regrown ct_18_4
        replace H := bind_hid H
        obtain ⟨t_20, qt_20, H⟩ := H
        have nt_20 : ∀ d os, Calls Try.prog 77 #[.agg #[.int .i64 t_14_zone, .int .i64 t_14_grams, .int .i64 t_14_from_, .int .i64 t_14_until_, .int .i64 t_14_cents], .agg #[.int .i64 t_18_zone, .int .i64 t_18_grams, .int .i64 t_18_from_, .int .i64 t_18_until_, .int .i64 t_18_cents]] (Go.Sort.grow (redrawn wr0 d) os) fun e w'' => e = .returned (.bool t_20) ∧ ∃ p : Regrown, w'' = Go.Sort.grow (redrawn wr0 p.d) p.os := fun d os => Calls.regrown_of (Go.Proofs.Ytkinlkmmelkdnaa.GlEqRate.C ((Go.Proofs.Ytkinlkmmelkdnaa.PRate.Rate.mk t_14_zone t_14_grams t_14_from_ t_14_until_ t_14_cents)) ((Go.Proofs.Ytkinlkmmelkdnaa.PRate.Rate.mk t_18_zone t_18_grams t_18_from_ t_18_until_ t_18_cents))  _    qt_20)
        cases t_20 with
        | false =>
          replace H := let_hid H
          obtain ⟨t_21, ht_21, H⟩ := H
          obtain rfl : t_21 = true := ht_21.symm
          refine wp_region_quiet_below (by kernel_rfl) (by kernel_rfl) ?_
          repeat (go_big_quiet_step (first | (go_at_call 77; exact nt_20 _ _)))
          refine wpQuiet_nil ?_
          intro Y6 hY6
          replace hY6 := below_class hY6
          clear nt_20
          replace ct_14_0 := Hct_14_0.out
          clear Hct_14_0
          replace ct_14_1 := Hct_14_1.out
          clear Hct_14_1
          replace ct_14_2 := Hct_14_2.out
          clear Hct_14_2
          replace ct_14_3 := Hct_14_3.out
          clear Hct_14_3
          replace ct_14_4 := Hct_14_4.out
          clear Hct_14_4
          replace ct_18_0 := Hct_18_0.out
          clear Hct_18_0
          replace ct_18_1 := Hct_18_1.out
          clear Hct_18_1
          replace ct_18_2 := Hct_18_2.out
          clear Hct_18_2
          replace ct_18_3 := Hct_18_3.out
          clear Hct_18_3
          replace ct_18_4 := Hct_18_4.out
          clear Hct_18_4
          have HBY6 := Lib.hid (Below.step HBwr0.out hY6)
          replace ct_14_0 := cell_below hY6 ct_14_0
          replace ct_14_1 := cell_below hY6 ct_14_1
          replace ct_14_2 := cell_below hY6 ct_14_2
          replace ct_14_3 := cell_below hY6 ct_14_3
          replace ct_14_4 := cell_below hY6 ct_14_4
          replace ct_18_0 := cell_below hY6 ct_18_0
          replace ct_18_1 := cell_below hY6 ct_18_1
          replace ct_18_2 := cell_below hY6 ct_18_2
          replace ct_18_3 := cell_below hY6 ct_18_3
          replace ct_18_4 := cell_below hY6 ct_18_4
          clear hY6
          replace H := ite_t H
          obtain rfl := ret_hid H
          go_wp2_with fail
          go_ret
          exact ⟨rfl, HBY6.out⟩
        | true =>
          replace H := let_hid H
          obtain ⟨t_21, ht_21, H⟩ := H
          obtain rfl : t_21 = false := ht_21.symm
          refine wp_region_quiet_below (by kernel_rfl) (by kernel_rfl) ?_
          repeat (go_big_quiet_step (first | (go_at_call 77; exact nt_20 _ _)))
          refine wpQuiet_nil ?_
          intro Y6 hY6
          replace hY6 := below_class hY6
          clear nt_20
          replace ct_14_0 := Hct_14_0.out
          clear Hct_14_0
          replace ct_14_1 := Hct_14_1.out
          clear Hct_14_1
          replace ct_14_2 := Hct_14_2.out
          clear Hct_14_2
          replace ct_14_3 := Hct_14_3.out
          clear Hct_14_3
          replace ct_14_4 := Hct_14_4.out
          clear Hct_14_4
          replace ct_18_0 := Hct_18_0.out
          clear Hct_18_0
          replace ct_18_1 := Hct_18_1.out
          clear Hct_18_1
          replace ct_18_2 := Hct_18_2.out
          clear Hct_18_2
          replace ct_18_3 := Hct_18_3.out
          clear Hct_18_3
          replace ct_18_4 := Hct_18_4.out
          clear Hct_18_4
          have HBY6 := Lib.hid (Below.step HBwr0.out hY6)
          replace ct_14_0 := cell_below hY6 ct_14_0
          replace ct_14_1 := cell_below hY6 ct_14_1
          replace ct_14_2 := cell_below hY6 ct_14_2
          replace ct_14_3 := cell_below hY6 ct_14_3
          replace ct_14_4 := cell_below hY6 ct_14_4
          replace ct_18_0 := cell_below hY6 ct_18_0
          replace ct_18_1 := cell_below hY6 ct_18_1
          replace ct_18_2 := cell_below hY6 ct_18_2
          replace ct_18_3 := cell_below hY6 ct_18_3
          replace ct_18_4 := cell_below hY6 ct_18_4
          clear hY6
          replace H := ite_f H
          replace H := app_hid H
          go_wp2_with fail
          go_roundg m0
          case measure => omega
          case rel => exact ⟨k0 + 1, by omega, by go_num, H, HBY6⟩
  | true =>
    have nht_5 : ¬ (a.length = b.length) := by have := bne_iff_ne.1 ht_5; omega
    replace H := ite_t H
    obtain rfl := ret_hid H
    go_wp2_with fail
    go_ret
    exact ⟨rfl, HB.out⟩
end Go.Proofs.Ytkinlkmmelkdnaa.GlEqRateS

/- loop.example/g01062/laws.markRateS as a plain function, and the contract of the program's: where the plain one has an answer, the program has it. Conditions: slices read as lists. -/
namespace Go.Proofs.Ytkinlkmmelkdnaa.GlMarkRateS
set_option linter.unusedVariables false
set_option linter.unusedSimpArgs false
open Go.RowKit
open Go.Proofs.Ytkinlkmmelkdnaa.Rowed Go.Proofs.Ytkinlkmmelkdnaa.Turn Go.Proofs.Ytkinlkmmelkdnaa.Aid Go.Proofs.Ytkinlkmmelkdnaa.GoP Go.Proofs.Ytkinlkmmelkdnaa.GoM

def l0  (k0 : Nat) (s : (List Go.Proofs.Ytkinlkmmelkdnaa.PRate.Rate) × Int) (nx0 bk0 : (List Go.Proofs.Ytkinlkmmelkdnaa.PRate.Rate) × Int → Option (Int × (List Go.Proofs.Ytkinlkmmelkdnaa.PRate.Rate))) : Option (Int × (List Go.Proofs.Ytkinlkmmelkdnaa.PRate.Rate)) :=
  unp2 s fun a_0l0 k_1l0 =>
  Option.bind (idx a_0l0 (k0 : Int)) fun (yt_9 : Go.Proofs.Ytkinlkmmelkdnaa.PRate.Rate) =>
  unRate yt_9 fun (t_9_zone : Int) (t_9_grams : Int) (t_9_from_ : Int) (t_9_until_ : Int) (t_9_cents : Int) =>
  letK (a_0l0.set k0 (Go.Proofs.Ytkinlkmmelkdnaa.PRate.Rate.mk k_1l0 t_9_grams t_9_from_ t_9_until_ t_9_cents)) fun (l11_11 : (List Go.Proofs.Ytkinlkmmelkdnaa.PRate.Rate)) =>
  letK (IntKind.i64.wrap (k_1l0 + 1)) fun (t_13 : Int) =>
  Option.bind (idx l11_11 (k0 : Int)) fun (yt_18 : Go.Proofs.Ytkinlkmmelkdnaa.PRate.Rate) =>
  unRate yt_18 fun (t_18_zone : Int) (t_18_grams : Int) (t_18_from_ : Int) (t_18_until_ : Int) (t_18_cents : Int) =>
  letK (l11_11.set k0 (Go.Proofs.Ytkinlkmmelkdnaa.PRate.Rate.mk t_18_zone t_13 t_18_from_ t_18_until_ t_18_cents)) fun (l20_20 : (List Go.Proofs.Ytkinlkmmelkdnaa.PRate.Rate)) =>
  letK (IntKind.i64.wrap (t_13 + 1)) fun (t_22 : Int) =>
  Option.bind (idx l20_20 (k0 : Int)) fun (yt_27 : Go.Proofs.Ytkinlkmmelkdnaa.PRate.Rate) =>
  unRate yt_27 fun (t_27_zone : Int) (t_27_grams : Int) (t_27_from_ : Int) (t_27_until_ : Int) (t_27_cents : Int) =>
  letK (l20_20.set k0 (Go.Proofs.Ytkinlkmmelkdnaa.PRate.Rate.mk t_27_zone t_27_grams t_22 t_27_until_ t_27_cents)) fun (l29_29 : (List Go.Proofs.Ytkinlkmmelkdnaa.PRate.Rate)) =>
  letK (IntKind.i64.wrap (t_22 + 1)) fun (t_31 : Int) =>
  Option.bind (idx l29_29 (k0 : Int)) fun (yt_36 : Go.Proofs.Ytkinlkmmelkdnaa.PRate.Rate) =>
  unRate yt_36 fun (t_36_zone : Int) (t_36_grams : Int) (t_36_from_ : Int) (t_36_until_ : Int) (t_36_cents : Int) =>
  letK (l29_29.set k0 (Go.Proofs.Ytkinlkmmelkdnaa.PRate.Rate.mk t_36_zone t_36_grams t_36_from_ t_31 t_36_cents)) fun (l38_38 : (List Go.Proofs.Ytkinlkmmelkdnaa.PRate.Rate)) =>
  letK (IntKind.i64.wrap (t_31 + 1)) fun (t_40 : Int) =>
  Option.bind (idx l38_38 (k0 : Int)) fun (yt_45 : Go.Proofs.Ytkinlkmmelkdnaa.PRate.Rate) =>
  unRate yt_45 fun (t_45_zone : Int) (t_45_grams : Int) (t_45_from_ : Int) (t_45_until_ : Int) (t_45_cents : Int) =>
  letK (l38_38.set k0 (Go.Proofs.Ytkinlkmmelkdnaa.PRate.Rate.mk t_45_zone t_45_grams t_45_from_ t_45_until_ t_40)) fun (l47_47 : (List Go.Proofs.Ytkinlkmmelkdnaa.PRate.Rate)) =>
  letK (IntKind.i64.wrap (t_40 + 1)) fun (t_49 : Int) =>
  appK nx0 (l47_47, t_49)

def e0  (s : (List Go.Proofs.Ytkinlkmmelkdnaa.PRate.Rate) × Int) : Option (Int × (List Go.Proofs.Ytkinlkmmelkdnaa.PRate.Rate)) :=
  unp2 s fun a_0l0 k_1l0 =>
  some (k_1l0, a_0l0)

def P (a : (List Go.Proofs.Ytkinlkmmelkdnaa.PRate.Rate)) (k_1 : Int) : Option (Int × (List Go.Proofs.Ytkinlkmmelkdnaa.PRate.Rate)) :=
  cntK (l0 ) (a.length) 0 (a, k_1) (e0 )

set_option maxRecDepth 100000 in
set_option maxHeartbeats 2000000 in
theorem C (a : (List Go.Proofs.Ytkinlkmmelkdnaa.PRate.Rate)) (k_1 : Int) (A0 : Option Addr) (c0 : Nat)  (b0 : Nat) (w : World) (M0 : Hid (w.ownsRow b0 25 5 (.slice A0 a.length c0) a.length (Go.Proofs.Ytkinlkmmelkdnaa.PRate.flat a))) (N0 : Hid (a.length ≤ 9223372036854775807))  {r : Int} {l_ : (List Go.Proofs.Ytkinlkmmelkdnaa.PRate.Rate)} (H : Hid (P a k_1 = some (r, l_))) :
    Calls Try.prog 27 #[.slice A0 a.length c0, .int .i64 k_1] w (fun e w' => e = .returned (.int .i64 r) ∧ w'.ownsRow b0 25 5 (.slice A0 a.length c0) a.length (Go.Proofs.Ytkinlkmmelkdnaa.PRate.flat l_) ∧ l_.length = a.length ∧ w.grownBy w' (Value.slice A0 a.length c0).ownBlock) := by
  have HB := Lib.hid (Aid.grown_refl w (Value.slice A0 a.length c0).ownBlock)
  unfold P at H
  have N0o := N0.out
  go_enter Try.func27, Try.ntmps27
  go_wp2_with fail
  have hb_0 : a.length ≤ 9223372036854775807 := own_max M0.out
  go_wp2_with fail
  go_loopg [5, 1] (a.length) (fun m_ v5_ v1_ wr => ∃ (k0 : Nat) (a_0l0 : (List Go.Proofs.Ytkinlkmmelkdnaa.PRate.Rate)) (k_1l0 : Int), k0 + m_ = a.length ∧ v5_ = .int .i64 (k0 : Int) ∧ v1_ = .int .i64 k_1l0 ∧ Hid (cntK (l0 ) m_ k0 (a_0l0, k_1l0) (e0 ) = some (r, l_)) ∧ Hid (w.grownBy wr (Value.slice A0 a.length c0).ownBlock) ∧ Hid (wr.ownsRow b0 25 5 (.slice A0 a.length c0) a.length (Go.Proofs.Ytkinlkmmelkdnaa.PRate.flat a_0l0)) ∧ Hid (a_0l0.length = a.length))
  case atStart => exact ⟨0, _, _, by omega, rfl, rfl, H, HB, M0, Lib.hid (rfl)⟩
  case round =>
    obtain ⟨k0, a_0l0, k_1l0, hkm0, rfl, rfl, H, HBwr0, Oa_0l0, hna_0l0⟩ := hrel
    rename World => wr0
    cases gk with
    | zero =>
      obtain rfl : k0 = a.length := by omega
      have hc0 : decide (((a.length : Nat) : Int) < ((a.length : Nat) : Int)) = false := by simp
      replace H := cnt_zero H
      unfold e0 at H
      replace H := unp2_hid H
      cases ret_hid H
      go_wp2_with fail
      go_ret
      exact ⟨rfl, Oa_0l0.out, hna_0l0.out, HBwr0.out⟩
    | succ m0 =>
      have hlt0 : k0 < a.length := by omega
      have hc0 : decide ((k0 : Int) < ((a.length : Nat) : Int)) = true := by simp; omega
      replace H := cnt_succ H
      unfold l0 at H
      replace H := unp2_hid H
      replace H := idx_hid H
      obtain ⟨nt_9, yt_9, et_9, lt_9, gt_9, H⟩ := H
      obtain rfl : k0 = nt_9 := by omega
      clear et_9
      obtain ⟨t_9_zone, t_9_grams, t_9_from_, t_9_until_, t_9_cents⟩ := yt_9
      replace H := unRate_hid H
      have hqt_9 := hna_0l0.out
      obtain ⟨qt_9, Qt_9⟩ := own_some Oa_0l0.out (by omega)
      subst Qt_9
      obtain ⟨ab_t_9, ao_t_9, zt_9, At_9, z_t_9, ct_9_0, ct_9_1, ct_9_2, ct_9_3, ct_9_4⟩ := Go.Proofs.Ytkinlkmmelkdnaa.ORate.at_ (own_cells Oa_0l0.out) (k := k0) (by omega)
      obtain rfl := Option.some.inj (gt_9.out.symm.trans z_t_9)
      simp only [Option.some.injEq, Addr.mk.injEq] at At_9
      obtain ⟨rfl, rfl, _⟩ := At_9
      clear z_t_9
      simp only [Nat.zero_add] at ct_9_0 ct_9_1 ct_9_2 ct_9_3 ct_9_4
      have b0t_9 : (0 : Int) ≤ (k0 : Int) := by omega
      have b1t_9 : (k0 : Int) < ((a.length : Nat) : Int) := by omega
      have b2t_9 : ((k0 : Int)).toNat = k0 := by omega
      clear hqt_9
      replace H := let_hid H
      obtain ⟨l11_11, hl11_11, H⟩ := H
      try simp only [Int.toNat_natCast] at hl11_11
      obtain ⟨wl11_11, hwl11_11⟩ : ∃ x, (wr0).setCell ⟨qt_9, k0 * 5, none⟩ (.int .i64 k_1l0) = x := ⟨_, rfl⟩
      have z0l11_11 := Oa_0l0.out.frozenAt (k0 * 5)
      have Sl11_11 := Lib.hid (own_stores [(k0 * 5, .int .i64 k_1l0)] Oa_0l0.out)
      have nl11_11 : Hid (l11_11.length = a.length) := Lib.hid (by rw [← hl11_11, List.length_set]; exact hna_0l0.out)
      have Pl11_11 : Hid (wl11_11.ownsRow b0 25 5 (.slice (some ⟨qt_9, 0, none⟩) a.length c0) a.length (Go.Proofs.Ytkinlkmmelkdnaa.PRate.flat l11_11)) := Lib.hid (by have es_ := set_self gt_9.out; have e0_ := flat_set Go.Proofs.Ytkinlkmmelkdnaa.PRate.Rate.cells 5 (fun _ => rfl) a_0l0 (k0) 0 (Go.Proofs.Ytkinlkmmelkdnaa.PRate.Rate.mk t_9_zone t_9_grams t_9_from_ t_9_until_ t_9_cents) (Go.Proofs.Ytkinlkmmelkdnaa.PRate.Rate.mk k_1l0 t_9_grams t_9_from_ t_9_until_ t_9_cents) (.int .i64 k_1l0) lt_9 (by decide) rfl; rw [es_] at e0_; have e_ : ([(k0 * 5, .int .i64 k_1l0)] : List (Nat × Value)).foldl (fun xs p => xs.set p.1 p.2) (Go.Proofs.Ytkinlkmmelkdnaa.PRate.flat a_0l0) = (Go.Proofs.Ytkinlkmmelkdnaa.PRate.flat l11_11) := (by rw [← hl11_11]; show _ = List.flatMap Go.Proofs.Ytkinlkmmelkdnaa.PRate.Rate.cells _; first | (rw [← e0_]; first | done | rfl)); rw [← hwl11_11, ← e_]; exact Sl11_11.out.1)
      have Gl11_11 : Hid (wr0.grownBy wl11_11 (Value.slice (some ⟨qt_9, 0, none⟩) a.length c0).ownBlock) := Lib.hid (by rw [← hwl11_11]; exact Sl11_11.out.2)
      have HBwl11_11 := Lib.hid (Aid.grown_tr HBwr0.out Gl11_11.out)
      have hhl11_11 := Lib.hid hl11_11
      clear hl11_11 Sl11_11
      clear Oa_0l0 Gl11_11
      replace H := let_hid H
      obtain ⟨t_13, ht_13, H⟩ := H
      replace H := idx_hid H
      obtain ⟨nt_18, yt_18, et_18, lt_18, gt_18, H⟩ := H
      obtain rfl : k0 = nt_18 := by omega
      clear et_18
      obtain ⟨t_18_zone, t_18_grams, t_18_from_, t_18_until_, t_18_cents⟩ := yt_18
      replace H := unRate_hid H
      have hqt_18 := nl11_11.out
      obtain ⟨ab_t_18, ao_t_18, zt_18, At_18, z_t_18, ct_18_0, ct_18_1, ct_18_2, ct_18_3, ct_18_4⟩ := Go.Proofs.Ytkinlkmmelkdnaa.ORate.at_ (own_cells Pl11_11.out) (k := k0) (by omega)
      obtain rfl := Option.some.inj (gt_18.out.symm.trans z_t_18)
      simp only [Option.some.injEq, Addr.mk.injEq] at At_18
      obtain ⟨rfl, rfl, _⟩ := At_18
      clear z_t_18
      simp only [Nat.zero_add] at ct_18_0 ct_18_1 ct_18_2 ct_18_3 ct_18_4
      have b0t_18 : (0 : Int) ≤ (k0 : Int) := by omega
      have b1t_18 : (k0 : Int) < ((a.length : Nat) : Int) := by omega
      have b2t_18 : ((k0 : Int)).toNat = k0 := by omega
      clear hqt_18
      replace H := let_hid H
      obtain ⟨l20_20, hl20_20, H⟩ := H
      try simp only [Int.toNat_natCast] at hl20_20
      obtain ⟨wl20_20, hwl20_20⟩ : ∃ x, (wl11_11).setCell ⟨qt_9, k0 * 5 + 1, none⟩ (.int .i64 t_13) = x := ⟨_, rfl⟩
      have z0l20_20 := Pl11_11.out.frozenAt (k0 * 5 + 1)
      have Sl20_20 := Lib.hid (own_stores [(k0 * 5 + 1, .int .i64 t_13)] Pl11_11.out)
      have nl20_20 : Hid (l20_20.length = a.length) := Lib.hid (by rw [← hl20_20, List.length_set]; exact nl11_11.out)
      have Pl20_20 : Hid (wl20_20.ownsRow b0 25 5 (.slice (some ⟨qt_9, 0, none⟩) a.length c0) a.length (Go.Proofs.Ytkinlkmmelkdnaa.PRate.flat l20_20)) := Lib.hid (by have es_ := set_self gt_18.out; have e0_ := flat_set Go.Proofs.Ytkinlkmmelkdnaa.PRate.Rate.cells 5 (fun _ => rfl) l11_11 (k0) 1 (Go.Proofs.Ytkinlkmmelkdnaa.PRate.Rate.mk t_18_zone t_18_grams t_18_from_ t_18_until_ t_18_cents) (Go.Proofs.Ytkinlkmmelkdnaa.PRate.Rate.mk t_18_zone t_13 t_18_from_ t_18_until_ t_18_cents) (.int .i64 t_13) lt_18 (by decide) rfl; rw [es_] at e0_; have e_ : ([(k0 * 5 + 1, .int .i64 t_13)] : List (Nat × Value)).foldl (fun xs p => xs.set p.1 p.2) (Go.Proofs.Ytkinlkmmelkdnaa.PRate.flat l11_11) = (Go.Proofs.Ytkinlkmmelkdnaa.PRate.flat l20_20) := (by rw [← hl20_20]; show _ = List.flatMap Go.Proofs.Ytkinlkmmelkdnaa.PRate.Rate.cells _; first | (rw [← e0_]; first | done | rfl)); rw [← hwl20_20, ← e_]; exact Sl20_20.out.1)
      have Gl20_20 : Hid (wl11_11.grownBy wl20_20 (Value.slice (some ⟨qt_9, 0, none⟩) a.length c0).ownBlock) := Lib.hid (by rw [← hwl20_20]; exact Sl20_20.out.2)
      have HBwl20_20 := Lib.hid (Aid.grown_tr HBwl11_11.out Gl20_20.out)
      have hhl20_20 := Lib.hid hl20_20
      clear hl20_20 Sl20_20
      clear Pl11_11 Gl20_20
      replace H := let_hid H
      obtain ⟨t_22, ht_22, H⟩ := H
      replace H := idx_hid H
      obtain ⟨nt_27, yt_27, et_27, lt_27, gt_27, H⟩ := H
      obtain rfl : k0 = nt_27 := by omega
      clear et_27
      obtain ⟨t_27_zone, t_27_grams, t_27_from_, t_27_until_, t_27_cents⟩ := yt_27
      replace H := unRate_hid H
      have hqt_27 := nl20_20.out
      obtain ⟨ab_t_27, ao_t_27, zt_27, At_27, z_t_27, ct_27_0, ct_27_1, ct_27_2, ct_27_3, ct_27_4⟩ := Go.Proofs.Ytkinlkmmelkdnaa.ORate.at_ (own_cells Pl20_20.out) (k := k0) (by omega)
      obtain rfl := Option.some.inj (gt_27.out.symm.trans z_t_27)
      simp only [Option.some.injEq, Addr.mk.injEq] at At_27
      obtain ⟨rfl, rfl, _⟩ := At_27
      clear z_t_27
      simp only [Nat.zero_add] at ct_27_0 ct_27_1 ct_27_2 ct_27_3 ct_27_4
      have b0t_27 : (0 : Int) ≤ (k0 : Int) := by omega
      have b1t_27 : (k0 : Int) < ((a.length : Nat) : Int) := by omega
      have b2t_27 : ((k0 : Int)).toNat = k0 := by omega
      clear hqt_27
      replace H := let_hid H
      obtain ⟨l29_29, hl29_29, H⟩ := H
      try simp only [Int.toNat_natCast] at hl29_29
      obtain ⟨wl29_29, hwl29_29⟩ : ∃ x, (wl20_20).setCell ⟨qt_9, k0 * 5 + 2, none⟩ (.int .i64 t_22) = x := ⟨_, rfl⟩
      have z0l29_29 := Pl20_20.out.frozenAt (k0 * 5 + 2)
      have Sl29_29 := Lib.hid (own_stores [(k0 * 5 + 2, .int .i64 t_22)] Pl20_20.out)
      have nl29_29 : Hid (l29_29.length = a.length) := Lib.hid (by rw [← hl29_29, List.length_set]; exact nl20_20.out)
      have Pl29_29 : Hid (wl29_29.ownsRow b0 25 5 (.slice (some ⟨qt_9, 0, none⟩) a.length c0) a.length (Go.Proofs.Ytkinlkmmelkdnaa.PRate.flat l29_29)) := Lib.hid (by have es_ := set_self gt_27.out; have e0_ := flat_set Go.Proofs.Ytkinlkmmelkdnaa.PRate.Rate.cells 5 (fun _ => rfl) l20_20 (k0) 2 (Go.Proofs.Ytkinlkmmelkdnaa.PRate.Rate.mk t_27_zone t_27_grams t_27_from_ t_27_until_ t_27_cents) (Go.Proofs.Ytkinlkmmelkdnaa.PRate.Rate.mk t_27_zone t_27_grams t_22 t_27_until_ t_27_cents) (.int .i64 t_22) lt_27 (by decide) rfl; rw [es_] at e0_; have e_ : ([(k0 * 5 + 2, .int .i64 t_22)] : List (Nat × Value)).foldl (fun xs p => xs.set p.1 p.2) (Go.Proofs.Ytkinlkmmelkdnaa.PRate.flat l20_20) = (Go.Proofs.Ytkinlkmmelkdnaa.PRate.flat l29_29) := (by rw [← hl29_29]; show _ = List.flatMap Go.Proofs.Ytkinlkmmelkdnaa.PRate.Rate.cells _; first | (rw [← e0_]; first | done | rfl)); rw [← hwl29_29, ← e_]; exact Sl29_29.out.1)
      have Gl29_29 : Hid (wl20_20.grownBy wl29_29 (Value.slice (some ⟨qt_9, 0, none⟩) a.length c0).ownBlock) := Lib.hid (by rw [← hwl29_29]; exact Sl29_29.out.2)
      have HBwl29_29 := Lib.hid (Aid.grown_tr HBwl20_20.out Gl29_29.out)
      have hhl29_29 := Lib.hid hl29_29
      clear hl29_29 Sl29_29
      clear Pl20_20 Gl29_29
      replace H := let_hid H
      obtain ⟨t_31, ht_31, H⟩ := H
      replace H := idx_hid H
      obtain ⟨nt_36, yt_36, et_36, lt_36, gt_36, H⟩ := H
      obtain rfl : k0 = nt_36 := by omega
      clear et_36
      obtain ⟨t_36_zone, t_36_grams, t_36_from_, t_36_until_, t_36_cents⟩ := yt_36
      replace H := unRate_hid H
      have hqt_36 := nl29_29.out
      obtain ⟨ab_t_36, ao_t_36, zt_36, At_36, z_t_36, ct_36_0, ct_36_1, ct_36_2, ct_36_3, ct_36_4⟩ := Go.Proofs.Ytkinlkmmelkdnaa.ORate.at_ (own_cells Pl29_29.out) (k := k0) (by omega)
      obtain rfl := Option.some.inj (gt_36.out.symm.trans z_t_36)
      simp only [Option.some.injEq, Addr.mk.injEq] at At_36
      obtain ⟨rfl, rfl, _⟩ := At_36
      clear z_t_36
      simp only [Nat.zero_add] at ct_36_0 ct_36_1 ct_36_2 ct_36_3 ct_36_4
      have b0t_36 : (0 : Int) ≤ (k0 : Int) := by omega
      have b1t_36 : (k0 : Int) < ((a.length : Nat) : Int) := by omega
      have b2t_36 : ((k0 : Int)).toNat = k0 := by omega
      clear hqt_36
      replace H := let_hid H
      obtain ⟨l38_38, hl38_38, H⟩ := H
      try simp only [Int.toNat_natCast] at hl38_38
      obtain ⟨wl38_38, hwl38_38⟩ : ∃ x, (wl29_29).setCell ⟨qt_9, k0 * 5 + 3, none⟩ (.int .i64 t_31) = x := ⟨_, rfl⟩
      have z0l38_38 := Pl29_29.out.frozenAt (k0 * 5 + 3)
      have Sl38_38 := Lib.hid (own_stores [(k0 * 5 + 3, .int .i64 t_31)] Pl29_29.out)
      have nl38_38 : Hid (l38_38.length = a.length) := Lib.hid (by rw [← hl38_38, List.length_set]; exact nl29_29.out)
      have Pl38_38 : Hid (wl38_38.ownsRow b0 25 5 (.slice (some ⟨qt_9, 0, none⟩) a.length c0) a.length (Go.Proofs.Ytkinlkmmelkdnaa.PRate.flat l38_38)) := Lib.hid (by have es_ := set_self gt_36.out; have e0_ := flat_set Go.Proofs.Ytkinlkmmelkdnaa.PRate.Rate.cells 5 (fun _ => rfl) l29_29 (k0) 3 (Go.Proofs.Ytkinlkmmelkdnaa.PRate.Rate.mk t_36_zone t_36_grams t_36_from_ t_36_until_ t_36_cents) (Go.Proofs.Ytkinlkmmelkdnaa.PRate.Rate.mk t_36_zone t_36_grams t_36_from_ t_31 t_36_cents) (.int .i64 t_31) lt_36 (by decide) rfl; rw [es_] at e0_; have e_ : ([(k0 * 5 + 3, .int .i64 t_31)] : List (Nat × Value)).foldl (fun xs p => xs.set p.1 p.2) (Go.Proofs.Ytkinlkmmelkdnaa.PRate.flat l29_29) = (Go.Proofs.Ytkinlkmmelkdnaa.PRate.flat l38_38) := (by rw [← hl38_38]; show _ = List.flatMap Go.Proofs.Ytkinlkmmelkdnaa.PRate.Rate.cells _; first | (rw [← e0_]; first | done | rfl)); rw [← hwl38_38, ← e_]; exact Sl38_38.out.1)
      have Gl38_38 : Hid (wl29_29.grownBy wl38_38 (Value.slice (some ⟨qt_9, 0, none⟩) a.length c0).ownBlock) := Lib.hid (by rw [← hwl38_38]; exact Sl38_38.out.2)
      have HBwl38_38 := Lib.hid (Aid.grown_tr HBwl29_29.out Gl38_38.out)
      have hhl38_38 := Lib.hid hl38_38
      clear hl38_38 Sl38_38
      clear Pl29_29 Gl38_38
      replace H := let_hid H
      obtain ⟨t_40, ht_40, H⟩ := H
      replace H := idx_hid H
      obtain ⟨nt_45, yt_45, et_45, lt_45, gt_45, H⟩ := H
      obtain rfl : k0 = nt_45 := by omega
      clear et_45
      obtain ⟨t_45_zone, t_45_grams, t_45_from_, t_45_until_, t_45_cents⟩ := yt_45
      replace H := unRate_hid H
      have hqt_45 := nl38_38.out
      obtain ⟨ab_t_45, ao_t_45, zt_45, At_45, z_t_45, ct_45_0, ct_45_1, ct_45_2, ct_45_3, ct_45_4⟩ := Go.Proofs.Ytkinlkmmelkdnaa.ORate.at_ (own_cells Pl38_38.out) (k := k0) (by omega)
      obtain rfl := Option.some.inj (gt_45.out.symm.trans z_t_45)
      simp only [Option.some.injEq, Addr.mk.injEq] at At_45
      obtain ⟨rfl, rfl, _⟩ := At_45
      clear z_t_45
      simp only [Nat.zero_add] at ct_45_0 ct_45_1 ct_45_2 ct_45_3 ct_45_4
      have b0t_45 : (0 : Int) ≤ (k0 : Int) := by omega
      have b1t_45 : (k0 : Int) < ((a.length : Nat) : Int) := by omega
      have b2t_45 : ((k0 : Int)).toNat = k0 := by omega
      clear hqt_45
      replace H := let_hid H
      obtain ⟨l47_47, hl47_47, H⟩ := H
      try simp only [Int.toNat_natCast] at hl47_47
      obtain ⟨wl47_47, hwl47_47⟩ : ∃ x, (wl38_38).setCell ⟨qt_9, k0 * 5 + 4, none⟩ (.int .i64 t_40) = x := ⟨_, rfl⟩
      have z0l47_47 := Pl38_38.out.frozenAt (k0 * 5 + 4)
      have Sl47_47 := Lib.hid (own_stores [(k0 * 5 + 4, .int .i64 t_40)] Pl38_38.out)
      have nl47_47 : Hid (l47_47.length = a.length) := Lib.hid (by rw [← hl47_47, List.length_set]; exact nl38_38.out)
      have Pl47_47 : Hid (wl47_47.ownsRow b0 25 5 (.slice (some ⟨qt_9, 0, none⟩) a.length c0) a.length (Go.Proofs.Ytkinlkmmelkdnaa.PRate.flat l47_47)) := Lib.hid (by have es_ := set_self gt_45.out; have e0_ := flat_set Go.Proofs.Ytkinlkmmelkdnaa.PRate.Rate.cells 5 (fun _ => rfl) l38_38 (k0) 4 (Go.Proofs.Ytkinlkmmelkdnaa.PRate.Rate.mk t_45_zone t_45_grams t_45_from_ t_45_until_ t_45_cents) (Go.Proofs.Ytkinlkmmelkdnaa.PRate.Rate.mk t_45_zone t_45_grams t_45_from_ t_45_until_ t_40) (.int .i64 t_40) lt_45 (by decide) rfl; rw [es_] at e0_; have e_ : ([(k0 * 5 + 4, .int .i64 t_40)] : List (Nat × Value)).foldl (fun xs p => xs.set p.1 p.2) (Go.Proofs.Ytkinlkmmelkdnaa.PRate.flat l38_38) = (Go.Proofs.Ytkinlkmmelkdnaa.PRate.flat l47_47) := (by rw [← hl47_47]; show _ = List.flatMap Go.Proofs.Ytkinlkmmelkdnaa.PRate.Rate.cells _; first | (rw [← e0_]; first | done | rfl)); rw [← hwl47_47, ← e_]; exact Sl47_47.out.1)
      have Gl47_47 : Hid (wl38_38.grownBy wl47_47 (Value.slice (some ⟨qt_9, 0, none⟩) a.length c0).ownBlock) := Lib.hid (by rw [← hwl47_47]; exact Sl47_47.out.2)
      have HBwl47_47 := Lib.hid (Aid.grown_tr HBwl38_38.out Gl47_47.out)
      have hhl47_47 := Lib.hid hl47_47
      clear hl47_47 Sl47_47
      clear Pl38_38 Gl47_47
      replace H := let_hid H
      obtain ⟨t_49, ht_49, H⟩ := H
      replace H := app_hid H
      go_wp2_with fail
      clear z0l11_11 ct_9_0 ct_9_1 ct_9_2 ct_9_3 ct_9_4 z0l20_20 ct_18_0 ct_18_1 ct_18_2 ct_18_3 ct_18_4 z0l29_29 ct_27_0 ct_27_1 ct_27_2 ct_27_3 ct_27_4 z0l38_38 ct_36_0 ct_36_1 ct_36_2 ct_36_3 ct_36_4 z0l47_47 ct_45_0 ct_45_1 ct_45_2 ct_45_3 ct_45_4
      go_roundg m0
      case measure => omega
      case rel => exact ⟨k0 + 1, _, _, by omega, by go_num, rfl, H, HBwl47_47, Pl47_47, Lib.hid (nl47_47.out)⟩
end Go.Proofs.Ytkinlkmmelkdnaa.GlMarkRateS

/- loop.example/g01062/laws.markIntS as a plain function, and the contract of the program's: where the plain one has an answer, the program has it. Conditions: slices read as lists. -/
namespace Go.Proofs.Ytkinlkmmelkdnaa.GlMarkIntS
set_option linter.unusedVariables false
set_option linter.unusedSimpArgs false
open Go.RowKit
open Go.Proofs.Ytkinlkmmelkdnaa.Rowed Go.Proofs.Ytkinlkmmelkdnaa.Turn Go.Proofs.Ytkinlkmmelkdnaa.Aid Go.Proofs.Ytkinlkmmelkdnaa.GoP Go.Proofs.Ytkinlkmmelkdnaa.GoM

def l0  (k0 : Nat) (s : (List Int) × Int) (nx0 bk0 : (List Int) × Int → Option (Int × (List Int))) : Option (Int × (List Int)) :=
  unp2 s fun a_0l0 k_1l0 =>
  Option.bind (idx a_0l0 (k0 : Int)) fun (yt_9 : Int) =>
  letK (a_0l0.set k0 k_1l0) fun (l10_10 : (List Int)) =>
  letK (IntKind.i64.wrap (k_1l0 + 1)) fun (t_12 : Int) =>
  appK nx0 (l10_10, t_12)

def e0  (s : (List Int) × Int) : Option (Int × (List Int)) :=
  unp2 s fun a_0l0 k_1l0 =>
  some (k_1l0, a_0l0)

def P (a : (List Int)) (k_1 : Int) : Option (Int × (List Int)) :=
  cntK (l0 ) (a.length) 0 (a, k_1) (e0 )

set_option maxRecDepth 100000 in
set_option maxHeartbeats 2000000 in
theorem C (a : (List Int)) (k_1 : Int) (A0 : Option Addr) (c0 : Nat)  (b0 : Nat) (w : World) (M0 : Hid (w.ownsRow b0 3 1 (.slice A0 a.length c0) a.length (Go.Proofs.Ytkinlkmmelkdnaa.HelpInt.iv a))) (N0 : Hid (a.length ≤ 9223372036854775807))  {r : Int} {l_ : (List Int)} (H : Hid (P a k_1 = some (r, l_))) :
    Calls Try.prog 37 #[.slice A0 a.length c0, .int .i64 k_1] w (fun e w' => e = .returned (.int .i64 r) ∧ w'.ownsRow b0 3 1 (.slice A0 a.length c0) a.length (Go.Proofs.Ytkinlkmmelkdnaa.HelpInt.iv l_) ∧ l_.length = a.length ∧ w.grownBy w' (Value.slice A0 a.length c0).ownBlock) := by
  have HB := Lib.hid (Aid.grown_refl w (Value.slice A0 a.length c0).ownBlock)
  unfold P at H
  have N0o := N0.out
  go_enter Try.func37, Try.ntmps37
  go_wp2_with fail
  have hb_0 : a.length ≤ 9223372036854775807 := own_max M0.out
  go_wp2_with fail
  go_loopg [5, 1] (a.length) (fun m_ v5_ v1_ wr => ∃ (k0 : Nat) (a_0l0 : (List Int)) (k_1l0 : Int), k0 + m_ = a.length ∧ v5_ = .int .i64 (k0 : Int) ∧ v1_ = .int .i64 k_1l0 ∧ Hid (cntK (l0 ) m_ k0 (a_0l0, k_1l0) (e0 ) = some (r, l_)) ∧ Hid (w.grownBy wr (Value.slice A0 a.length c0).ownBlock) ∧ Hid (wr.ownsRow b0 3 1 (.slice A0 a.length c0) a.length (Go.Proofs.Ytkinlkmmelkdnaa.HelpInt.iv a_0l0)) ∧ Hid (a_0l0.length = a.length))
  case atStart => exact ⟨0, _, _, by omega, rfl, rfl, H, HB, M0, Lib.hid (rfl)⟩
  case round =>
    obtain ⟨k0, a_0l0, k_1l0, hkm0, rfl, rfl, H, HBwr0, Oa_0l0, hna_0l0⟩ := hrel
    rename World => wr0
    cases gk with
    | zero =>
      obtain rfl : k0 = a.length := by omega
      have hc0 : decide (((a.length : Nat) : Int) < ((a.length : Nat) : Int)) = false := by simp
      replace H := cnt_zero H
      unfold e0 at H
      replace H := unp2_hid H
      cases ret_hid H
      go_wp2_with fail
      go_ret
      exact ⟨rfl, Oa_0l0.out, hna_0l0.out, HBwr0.out⟩
    | succ m0 =>
      have hlt0 : k0 < a.length := by omega
      have hc0 : decide ((k0 : Int) < ((a.length : Nat) : Int)) = true := by simp; omega
      replace H := cnt_succ H
      unfold l0 at H
      replace H := unp2_hid H
      replace H := idx_hid H
      obtain ⟨nt_9, yt_9, et_9, lt_9, gt_9, H⟩ := H
      obtain rfl : k0 = nt_9 := by omega
      clear et_9
      have hqt_9 := hna_0l0.out
      obtain ⟨qt_9, Qt_9⟩ := own_some Oa_0l0.out (by omega)
      subst Qt_9
      obtain ⟨ab_t_9, ao_t_9, zt_9, At_9, z_t_9, ct_9_0⟩ := Go.Proofs.Ytkinlkmmelkdnaa.HelpInt.Ints.at_ (own_cells Oa_0l0.out) (k := k0) (by omega)
      obtain rfl := Option.some.inj (gt_9.out.symm.trans z_t_9)
      simp only [Option.some.injEq, Addr.mk.injEq] at At_9
      obtain ⟨rfl, rfl, _⟩ := At_9
      clear z_t_9
      simp only [Nat.zero_add] at ct_9_0
      have b0t_9 : (0 : Int) ≤ (k0 : Int) := by omega
      have b1t_9 : (k0 : Int) < ((a.length : Nat) : Int) := by omega
      have b2t_9 : ((k0 : Int)).toNat = k0 := by omega
      clear hqt_9
      replace H := let_hid H
      obtain ⟨l10_10, hl10_10, H⟩ := H
      try simp only [Int.toNat_natCast] at hl10_10
      obtain ⟨wl10_10, hwl10_10⟩ : ∃ x, (wr0).setCell ⟨qt_9, k0, none⟩ (.int .i64 k_1l0) = x := ⟨_, rfl⟩
      have z0l10_10 := Oa_0l0.out.frozenAt (k0)
      have Sl10_10 := Lib.hid (own_stores [(k0, .int .i64 k_1l0)] Oa_0l0.out)
      have nl10_10 : Hid (l10_10.length = a.length) := Lib.hid (by rw [← hl10_10, List.length_set]; exact hna_0l0.out)
      have Pl10_10 : Hid (wl10_10.ownsRow b0 3 1 (.slice (some ⟨qt_9, 0, none⟩) a.length c0) a.length (Go.Proofs.Ytkinlkmmelkdnaa.HelpInt.iv l10_10)) := Lib.hid (by have e_ : ([(k0, .int .i64 k_1l0)] : List (Nat × Value)).foldl (fun xs p => xs.set p.1 p.2) (Go.Proofs.Ytkinlkmmelkdnaa.HelpInt.iv a_0l0) = (Go.Proofs.Ytkinlkmmelkdnaa.HelpInt.iv l10_10) := (by rw [← hl10_10]; first | done | simp [Go.Proofs.Ytkinlkmmelkdnaa.HelpInt.iv, List.map_set]); rw [← hwl10_10, ← e_]; exact Sl10_10.out.1)
      have Gl10_10 : Hid (wr0.grownBy wl10_10 (Value.slice (some ⟨qt_9, 0, none⟩) a.length c0).ownBlock) := Lib.hid (by rw [← hwl10_10]; exact Sl10_10.out.2)
      have HBwl10_10 := Lib.hid (Aid.grown_tr HBwr0.out Gl10_10.out)
      have hhl10_10 := Lib.hid hl10_10
      clear hl10_10 Sl10_10
      clear Oa_0l0 Gl10_10
      replace H := let_hid H
      obtain ⟨t_12, ht_12, H⟩ := H
      replace H := app_hid H
      go_wp2_with fail
      clear z0l10_10 ct_9_0
      go_roundg m0
      case measure => omega
      case rel => exact ⟨k0 + 1, _, _, by omega, by go_num, rfl, H, HBwl10_10, Pl10_10, Lib.hid (nl10_10.out)⟩
end Go.Proofs.Ytkinlkmmelkdnaa.GlMarkIntS

/- loop.example/g01062/laws.heldIntS as a plain function, and the contract of the program's: where the plain one has an answer, the program has it. Conditions: slices read as lists. -/
namespace Go.Proofs.Ytkinlkmmelkdnaa.GlHeldIntS
set_option linter.unusedVariables false
set_option linter.unusedSimpArgs false
open Go.RowKit
open Go.Proofs.Ytkinlkmmelkdnaa.Rowed Go.Proofs.Ytkinlkmmelkdnaa.Turn Go.Proofs.Ytkinlkmmelkdnaa.Aid Go.Proofs.Ytkinlkmmelkdnaa.GoP Go.Proofs.Ytkinlkmmelkdnaa.GoM

def l0 (a : (List Int)) (k0 : Nat) (s : Int) (nx0 bk0 : Int → Option (Int)) : Option (Int) :=
  letK s fun k_1l0 =>
  Option.bind (idx a (k0 : Int)) fun (yt_8 : Int) =>
  letK (yt_8 != k_1l0) fun (t_11 : Bool) =>
  iteK t_11
  (some (-1))
  (letK (IntKind.i64.wrap (k_1l0 + 1)) fun (t_14 : Int) =>
  appK nx0 (t_14))

def e0  (s : Int) : Option (Int) :=
  letK s fun k_1l0 =>
  some k_1l0

def P (a : (List Int)) (k_1 : Int) : Option (Int) :=
  cntK (l0 a) (a.length) 0 (k_1) (e0 )

set_option maxRecDepth 100000 in
set_option maxHeartbeats 2000000 in
theorem C (a : (List Int)) (k_1 : Int) (A0 : Option Addr) (c0 : Nat)  (w : World) (M0 : Hid (Cells w 1 A0 a.length (Go.Proofs.Ytkinlkmmelkdnaa.HelpInt.iv a))) (N0 : Hid (a.length ≤ 9223372036854775807))  {r : Int} (H : Hid (P a k_1 = some r)) :
    Calls Try.prog 38 #[.slice A0 a.length c0, .int .i64 k_1] w (Gives (.int .i64 r) w) := by
  have HB := Lib.hid (Below.refl w.heap.size w)
  unfold P at H
  have N0o := N0.out
  go_enter Try.func38, Try.ntmps38
  go_wp2_with fail
  go_loopg [5, 1] (a.length) (fun m_ v5_ v1_ wr => ∃ (k0 : Nat) (k_1l0 : Int), k0 + m_ = a.length ∧ v5_ = .int .i64 (k0 : Int) ∧ v1_ = .int .i64 k_1l0 ∧ Hid (cntK (l0 a) m_ k0 (k_1l0) (e0 ) = some r) ∧ Hid (Below w.heap.size w wr))
  case atStart => exact ⟨0, _, by omega, rfl, rfl, H, HB⟩
  case round =>
    obtain ⟨k0, k_1l0, hkm0, rfl, rfl, H, HBwr0⟩ := hrel
    rename World => wr0
    cases gk with
    | zero =>
      obtain rfl : k0 = a.length := by omega
      have hc0 : decide (((a.length : Nat) : Int) < ((a.length : Nat) : Int)) = false := by simp
      replace H := cnt_zero H
      unfold e0 at H
      replace H := let_hid H
      obtain ⟨_, rfl, H⟩ := H
      obtain rfl := ret_hid H
      go_wp2_with fail
      go_ret
      exact ⟨rfl, HBwr0.out⟩
    | succ m0 =>
      have hlt0 : k0 < a.length := by omega
      have hc0 : decide ((k0 : Int) < ((a.length : Nat) : Int)) = true := by simp; omega
      replace H := cnt_succ H
      unfold l0 at H
      replace H := let_hid H
      obtain ⟨_, rfl, H⟩ := H
      replace H := idx_hid H
      obtain ⟨nt_8, yt_8, et_8, lt_8, gt_8, H⟩ := H
      obtain rfl : k0 = nt_8 := by omega
      clear et_8
      obtain ⟨ab_t_8, ao_t_8, zt_8, At_8, z_t_8, ct_8_0⟩ := Go.Proofs.Ytkinlkmmelkdnaa.HelpInt.Ints.at_ M0.out lt_8
      obtain rfl := Option.some.inj (gt_8.out.symm.trans z_t_8)
      subst At_8
      have ltt_8 := cell_lt ct_8_0
      replace ct_8_0 := cell_below HBwr0.out ct_8_0
      clear z_t_8
      have b0t_8 : (0 : Int) ≤ (k0 : Int) := by omega
      have b1t_8 : (k0 : Int) < ((a.length : Nat) : Int) := by omega
      have b2t_8 : ((k0 : Int)).toNat = k0 := by omega
      replace H := let_hid H
      obtain ⟨t_11, ht_11, H⟩ := H
      cases t_11 with
      | false =>
        replace H := ite_f H
        replace H := let_hid H
        obtain ⟨t_14, ht_14, H⟩ := H
        replace H := app_hid H
        go_wp2_with fail
        go_roundg m0
        case measure => omega
        case rel => exact ⟨k0 + 1, _, by omega, by go_num, rfl, H, HBwr0⟩
      | true =>
        replace H := ite_t H
        obtain rfl := ret_hid H
        go_wp2_with fail
        go_ret
        exact ⟨rfl, HBwr0.out⟩
end Go.Proofs.Ytkinlkmmelkdnaa.GlHeldIntS

/- loop.example/g01062/laws.FnExactCheapestZones as a plain function, and the contract of the program's: where the plain one has an answer, the program has it. Conditions: slices read as lists. -/
namespace Go.Proofs.Ytkinlkmmelkdnaa.GlFnExactCheapestZones
set_option linter.unusedVariables false
set_option linter.unusedSimpArgs false
open Go.RowKit
open Go.Proofs.Ytkinlkmmelkdnaa.Rowed Go.Proofs.Ytkinlkmmelkdnaa.Turn Go.Proofs.Ytkinlkmmelkdnaa.Aid Go.Proofs.Ytkinlkmmelkdnaa.GoP Go.Proofs.Ytkinlkmmelkdnaa.GoM

def P (fuel : Nat) (aList : (List Go.Proofs.Ytkinlkmmelkdnaa.PRate.Rate)) (aDay : Int) (aGrams : Int) : Option (Bool) :=
  Option.bind (Go.Proofs.Ytkinlkmmelkdnaa.GlSzRateS.P aList 1048576) fun (t_4 : Int) =>
  letK (decide (t_4 < 0)) fun (t_7 : Bool) =>
  iteK t_7
  (some true)
  (Option.bind (Go.Proofs.Ytkinlkmmelkdnaa.GlToRateS.P aList) fun (t_10 : (List Go.Proofs.Ytkinlkmmelkdnaa.PRate.Rate)) =>
  bind2 (Go.Proofs.Ytkinlkmmelkdnaa.GsCheapestZones.P fuel t_10 aDay aGrams) fun (t_13a : (List Int)) (t_13b : Bool) =>
  Option.bind (Go.Proofs.Ytkinlkmmelkdnaa.GlToRateS.P aList) fun (t_20 : (List Go.Proofs.Ytkinlkmmelkdnaa.PRate.Rate)) =>
  bind2 (Go.Proofs.Ytkinlkmmelkdnaa.GiCheapestZones.P t_20 aDay aGrams) fun (t_25a : (List Int)) (t_25b : Bool) =>
  Option.bind (Go.Proofs.Ytkinlkmmelkdnaa.GlEqIntS.P t_25a t_13a) fun (t_33 : Bool) =>
  letK (!t_33) fun (t_34 : Bool) =>
  joinK (fun (t_39 : Bool) =>
  iteK t_39
  (some false)
  (Option.bind (Go.Proofs.Ytkinlkmmelkdnaa.GlToRateS.P aList) fun (t_43 : (List Go.Proofs.Ytkinlkmmelkdnaa.PRate.Rate)) =>
  Option.bind (Go.Proofs.Ytkinlkmmelkdnaa.GlEqRateS.P t_20 t_43) fun (t_44 : Bool) =>
  letK (!t_44) fun (t_45 : Bool) =>
  iteK t_45
  (some false)
  (bind2 (Go.Proofs.Ytkinlkmmelkdnaa.GlMarkRateS.P t_20 1) fun (t_50 : Int) (lt_50 : (List Go.Proofs.Ytkinlkmmelkdnaa.PRate.Rate)) =>
  letK (decide (t_50 < 0)) fun (t_53 : Bool) =>
  joinK (fun (t_59 : Bool) =>
  joinK (fun (t_64 : Bool) =>
  iteK t_64
  (some false)
  (bind2 (Go.Proofs.Ytkinlkmmelkdnaa.GlMarkIntS.P t_25a 1) fun (t_69 : Int) (lt_69 : (List Int)) =>
  Option.bind (Go.Proofs.Ytkinlkmmelkdnaa.GlHeldIntS.P lt_69 1) fun (t_74 : Int) =>
  letK (decide (t_74 < 0)) fun (t_77 : Bool) =>
  iteK t_77
  (some false)
  (letK (t_74 != t_69) fun (t_81 : Bool) =>
  iteK t_81
  (some false)
  (Option.bind (Go.Proofs.Ytkinlkmmelkdnaa.GlToRateS.P aList) fun (t_84 : (List Go.Proofs.Ytkinlkmmelkdnaa.PRate.Rate)) =>
  bind2 (Go.Proofs.Ytkinlkmmelkdnaa.GiCheapestZones.P t_84 aDay aGrams) fun (t_87a : (List Int)) (t_87b : Bool) =>
  Option.bind (Go.Proofs.Ytkinlkmmelkdnaa.GlEqIntS.P t_87a t_13a) fun (t_95 : Bool) =>
  letK (!t_95) fun (t_96 : Bool) =>
  joinK (fun (t_101 : Bool) =>
  iteK t_101
  (some false)
  (Option.bind (Go.Proofs.Ytkinlkmmelkdnaa.GlHeldIntS.P lt_69 1) fun (t_106 : Int) =>
  letK (decide (t_106 < 0)) fun (t_109 : Bool) =>
  iteK t_109
  (some false)
  (letK (t_106 != t_69) fun (t_113 : Bool) =>
  iteK t_113
  (some false)
  (some true)))) fun jt_101 => iteK t_96 (appK jt_101 true) (letK (!(t_87b == t_13b)) fun (t_100 : Bool) =>
  appK jt_101 t_100))))) fun jt_64 => iteK t_59 (appK jt_64 true) (letK (!(t_25b == t_13b)) fun (t_63 : Bool) =>
  appK jt_64 t_63)) fun jt_59 => iteK t_53 (appK jt_59 true) (Option.bind (Go.Proofs.Ytkinlkmmelkdnaa.GlEqIntS.P t_25a t_13a) fun (t_57 : Bool) =>
  letK (!t_57) fun (t_58 : Bool) =>
  appK jt_59 t_58)))) fun jt_39 => iteK t_34 (appK jt_39 true) (letK (!(t_25b == t_13b)) fun (t_38 : Bool) =>
  appK jt_39 t_38))

set_option maxRecDepth 100000 in
set_option maxHeartbeats 2000000 in
theorem C (fuel : Nat) (aList : (List Go.Proofs.Ytkinlkmmelkdnaa.PRate.Rate)) (aDay : Int) (aGrams : Int) (A0 : Option Addr) (c0 : Nat)  (w : World) (M0 : Hid (Cells w 5 A0 aList.length (Go.Proofs.Ytkinlkmmelkdnaa.PRate.flat aList))) (N0 : Hid (aList.length ≤ 9223372036854775807))  {r : Bool} (H : Hid (P fuel aList aDay aGrams = some r)) :
    Calls Try.prog 9 #[.slice A0 aList.length c0, .int .i64 aDay, .int .i64 aGrams] w (Gives (.bool r) w) := by
  have HB := Lib.hid (Below.refl w.heap.size w)
  unfold P at H
  have N0o := N0.out
  go_enter Try.func9, Try.ntmps9
  replace H := bind_hid H
  obtain ⟨t_4, qt_4, H⟩ := H
  go_wp2_with fail
  go_at_call 17
  refine (Go.Proofs.Ytkinlkmmelkdnaa.GlSzRateS.C (aList) (1048576) A0 c0 _   (Lib.hid (Cells.below M0.out HB.out)) N0 qt_4).mono ?_
  rintro e_t_4 wt_4 ⟨rfl, bt_4⟩
  have HBwt_4 := Lib.hid (Below.step HB.out bt_4)
  clear bt_4
  replace H := let_hid H
  obtain ⟨t_7, ht_7, H⟩ := H
  cases t_7 with
  | false =>
    replace H := ite_f H
    replace H := bind_hid H
    obtain ⟨t_10, qt_10, H⟩ := H
    go_wp2_with fail
    go_at_call 19
    refine (Go.Proofs.Ytkinlkmmelkdnaa.GlToRateS.C (aList) A0 c0 _   (Lib.hid (Cells.below M0.out HBwt_4.out)) N0 qt_10).mono ?_
    rintro e_t_10 wt_10 ⟨At_10, ct_10, rfl, ot_10, bt_10⟩
    have Ot_10 := Lib.hid (own_lower ot_10 HBwt_4.out.size)
    clear ot_10
    have HBwt_10 := Lib.hid (Below.step HBwt_4.out bt_10)
    clear bt_10
    replace H := bind2_hid H
    obtain ⟨t_13a, t_13b, qt_13, H⟩ := H
    go_wp2_with fail
    go_at_call 34
    refine (Go.Proofs.Ytkinlkmmelkdnaa.GsCheapestZones.C fuel (t_10) (aDay) (aGrams) At_10 ct_10 _   (Lib.hid (own_cells Ot_10.out)) (Lib.hid (own_max Ot_10.out)) qt_13).mono ?_
    rintro e_t_13 wt_13 ⟨At_13a, ct_13a, rfl, ot_13a, bt_13⟩
    have Dt_13a_t_10 := Lib.hid (apart_call ot_13a Ot_10.out)
    have Ot_13a := Lib.hid (own_lower ot_13a HBwt_10.out.size)
    clear ot_13a
    have HBwt_13 := Lib.hid (Below.step HBwt_10.out bt_13)
    replace Ot_10 := Lib.hid (own_below Ot_10.out bt_13)
    clear bt_13
    replace H := bind_hid H
    obtain ⟨t_20, qt_20, H⟩ := H
    go_wp2_with fail
    go_at_call 19
    refine (Go.Proofs.Ytkinlkmmelkdnaa.GlToRateS.C (aList) A0 c0 _   (Lib.hid (Cells.below M0.out HBwt_13.out)) N0 qt_20).mono ?_
    rintro e_t_20 wt_20 ⟨At_20, ct_20, rfl, ot_20, bt_20⟩
    have Dt_20_t_10 := Lib.hid (apart_call ot_20 Ot_10.out)
    have Dt_20_t_13a := Lib.hid (apart_call ot_20 Ot_13a.out)
    have Ot_20 := Lib.hid (own_lower ot_20 HBwt_13.out.size)
    clear ot_20
    have HBwt_20 := Lib.hid (Below.step HBwt_13.out bt_20)
    replace Ot_10 := Lib.hid (own_below Ot_10.out bt_20)
    replace Ot_13a := Lib.hid (own_below Ot_13a.out bt_20)
    clear bt_20
    replace H := bind2_hid H
    obtain ⟨t_25a, t_25b, qt_25, H⟩ := H
    go_wp2_with fail
    go_at_call 35
    refine (Go.Proofs.Ytkinlkmmelkdnaa.GiCheapestZones.C (t_20) (aDay) (aGrams) At_20 ct_20 _   (Lib.hid (own_cells Ot_20.out)) (Lib.hid (own_max Ot_20.out)) qt_25).mono ?_
    rintro e_t_25 wt_25 ⟨At_25a, ct_25a, rfl, ot_25a, bt_25⟩
    have Dt_25a_t_10 := Lib.hid (apart_call ot_25a Ot_10.out)
    have Dt_25a_t_13a := Lib.hid (apart_call ot_25a Ot_13a.out)
    have Dt_25a_t_20 := Lib.hid (apart_call ot_25a Ot_20.out)
    have Ot_25a := Lib.hid (own_lower ot_25a HBwt_20.out.size)
    clear ot_25a
    have HBwt_25 := Lib.hid (Below.step HBwt_20.out bt_25)
    replace Ot_10 := Lib.hid (own_below Ot_10.out bt_25)
    replace Ot_13a := Lib.hid (own_below Ot_13a.out bt_25)
    replace Ot_20 := Lib.hid (own_below Ot_20.out bt_25)
    clear bt_25
    replace H := bind_hid H
    obtain ⟨t_33, qt_33, H⟩ := H
    go_wp2_with fail
    go_at_call 36
    refine (Go.Proofs.Ytkinlkmmelkdnaa.GlEqIntS.C (t_25a) (t_13a) At_25a ct_25a At_13a ct_13a _   (Lib.hid (own_cells Ot_25a.out)) (Lib.hid (own_max Ot_25a.out)) (Lib.hid (own_cells Ot_13a.out)) (Lib.hid (own_max Ot_13a.out)) qt_33).mono ?_
    rintro e_t_33 wt_33 ⟨rfl, bt_33⟩
    have HBwt_33 := Lib.hid (Below.step HBwt_25.out bt_33)
    replace Ot_10 := Lib.hid (own_below Ot_10.out bt_33)
    replace Ot_13a := Lib.hid (own_below Ot_13a.out bt_33)
    replace Ot_20 := Lib.hid (own_below Ot_20.out bt_33)
    replace Ot_25a := Lib.hid (own_below Ot_25a.out bt_33)
    clear bt_33
    cases t_33 with
    | false =>
      replace H := let_hid H
      obtain ⟨t_34, ht_34, H⟩ := H
      obtain rfl : t_34 = true := ht_34.symm
      replace H := join_hid H
      replace H := ite_t H
      replace H := app_hid H
      replace H := ite_t H
      obtain rfl := ret_hid H
      go_wp2_with fail
      go_ret
      exact ⟨rfl, HBwt_33.out⟩
    | true =>
      replace H := let_hid H
      obtain ⟨t_34, ht_34, H⟩ := H
      obtain rfl : t_34 = false := ht_34.symm
      replace H := join_hid H
      replace H := ite_f H
      replace H := let_hid H
      obtain ⟨t_38, ht_38, H⟩ := H
      replace H := app_hid H
      cases t_38 with
      | false =>
        replace H := ite_f H
        replace H := bind_hid H
        obtain ⟨t_43, qt_43, H⟩ := H
        go_wp2_with fail
        go_at_call 19
        refine (Go.Proofs.Ytkinlkmmelkdnaa.GlToRateS.C (aList) A0 c0 _   (Lib.hid (Cells.below M0.out HBwt_33.out)) N0 qt_43).mono ?_
        rintro e_t_43 wt_43 ⟨At_43, ct_43, rfl, ot_43, bt_43⟩
        have Dt_43_t_10 := Lib.hid (apart_call ot_43 Ot_10.out)
        have Dt_43_t_13a := Lib.hid (apart_call ot_43 Ot_13a.out)
        have Dt_43_t_20 := Lib.hid (apart_call ot_43 Ot_20.out)
        have Dt_43_t_25a := Lib.hid (apart_call ot_43 Ot_25a.out)
        have Ot_43 := Lib.hid (own_lower ot_43 HBwt_33.out.size)
        clear ot_43
        have HBwt_43 := Lib.hid (Below.step HBwt_33.out bt_43)
        replace Ot_10 := Lib.hid (own_below Ot_10.out bt_43)
        replace Ot_13a := Lib.hid (own_below Ot_13a.out bt_43)
        replace Ot_20 := Lib.hid (own_below Ot_20.out bt_43)
        replace Ot_25a := Lib.hid (own_below Ot_25a.out bt_43)
        clear bt_43
        replace H := bind_hid H
        obtain ⟨t_44, qt_44, H⟩ := H
        go_wp2_with fail
        go_at_call 21
        refine (Go.Proofs.Ytkinlkmmelkdnaa.GlEqRateS.C (t_20) (t_43) At_20 ct_20 At_43 ct_43 _   (Lib.hid (own_cells Ot_20.out)) (Lib.hid (own_max Ot_20.out)) (Lib.hid (own_cells Ot_43.out)) (Lib.hid (own_max Ot_43.out)) qt_44).mono ?_
        rintro e_t_44 wt_44 ⟨rfl, bt_44⟩
        have HBwt_44 := Lib.hid (Below.step HBwt_43.out bt_44)
        replace Ot_10 := Lib.hid (own_below Ot_10.out bt_44)
        replace Ot_13a := Lib.hid (own_below Ot_13a.out bt_44)
        replace Ot_20 := Lib.hid (own_below Ot_20.out bt_44)
        replace Ot_25a := Lib.hid (own_below Ot_25a.out bt_44)
        replace Ot_43 := Lib.hid (own_below Ot_43.out bt_44)
        clear bt_44
        cases t_44 with
        | false =>
          replace H := let_hid H
          obtain ⟨t_45, ht_45, H⟩ := H
          obtain rfl : t_45 = true := ht_45.symm
          replace H := ite_t H
          obtain rfl := ret_hid H
          go_wp2_with fail
          go_ret
          exact ⟨rfl, HBwt_44.out⟩
        | true =>
          replace H := let_hid H
          obtain ⟨t_45, ht_45, H⟩ := H
          obtain rfl : t_45 = false := ht_45.symm
          replace H := ite_f H
          replace H := bind2_hid H
          obtain ⟨t_50, lt_50, qt_50, H⟩ := H
          go_wp2_with fail
          go_at_call 27
          refine (Go.Proofs.Ytkinlkmmelkdnaa.GlMarkRateS.C (t_20) (1) At_20 ct_20 w.heap.size _   Ot_20 (Lib.hid (own_max Ot_20.out))   qt_50).mono ?_
          rintro e_t_50 wt_50 ⟨rfl, ot_50, nt_50, gt_50⟩
          have Pt_50 := Lib.hid ot_50
          have Gt_50 := Lib.hid gt_50
          replace nt_50 := Lib.hid nt_50
          clear ot_50 gt_50
          have HBwt_50 := Lib.hid (HBwt_44.out.grown Gt_50.out HBwt_44.out.size (fun q hq => (Ot_20.out.lt q hq).1))
          replace Ot_10 := Lib.hid (own_other Ot_10.out Gt_50.out Dt_20_t_10.out)
          replace Ot_13a := Lib.hid (own_other Ot_13a.out Gt_50.out Dt_20_t_13a.out)
          replace Ot_25a := Lib.hid (own_other Ot_25a.out Gt_50.out (Apart.symm Dt_25a_t_20.out))
          replace Ot_43 := Lib.hid (own_other Ot_43.out Gt_50.out (Apart.symm Dt_43_t_20.out))
          clear Ot_20 Gt_50
          replace H := let_hid H
          obtain ⟨t_53, ht_53, H⟩ := H
          replace H := join_hid H
          cases t_53 with
          | false =>
            replace H := ite_f H
            replace H := bind_hid H
            obtain ⟨t_57, qt_57, H⟩ := H
            go_wp2_with fail
            go_at_call 36
            refine (Go.Proofs.Ytkinlkmmelkdnaa.GlEqIntS.C (t_25a) (t_13a) At_25a ct_25a At_13a ct_13a _   (Lib.hid (own_cells Ot_25a.out)) (Lib.hid (own_max Ot_25a.out)) (Lib.hid (own_cells Ot_13a.out)) (Lib.hid (own_max Ot_13a.out)) qt_57).mono ?_
            rintro e_t_57 wt_57 ⟨rfl, bt_57⟩
            have HBwt_57 := Lib.hid (Below.step HBwt_50.out bt_57)
            replace Ot_10 := Lib.hid (own_below Ot_10.out bt_57)
            replace Ot_13a := Lib.hid (own_below Ot_13a.out bt_57)
            replace Pt_50 := Lib.hid (own_below Pt_50.out bt_57)
            replace Ot_25a := Lib.hid (own_below Ot_25a.out bt_57)
            replace Ot_43 := Lib.hid (own_below Ot_43.out bt_57)
            clear bt_57
            cases t_57 with
            | false =>
              replace H := let_hid H
              obtain ⟨t_58, ht_58, H⟩ := H
              obtain rfl : t_58 = true := ht_58.symm
              replace H := app_hid H
              replace H := join_hid H
              replace H := ite_t H
              replace H := app_hid H
              replace H := ite_t H
              obtain rfl := ret_hid H
              go_wp2_with fail
              go_ret
              exact ⟨rfl, HBwt_57.out⟩
            | true =>
              replace H := let_hid H
              obtain ⟨t_58, ht_58, H⟩ := H
              obtain rfl : t_58 = false := ht_58.symm
              replace H := app_hid H
              replace H := join_hid H
              replace H := ite_f H
              replace H := let_hid H
              obtain ⟨t_63, ht_63, H⟩ := H
              obtain rfl := ht_38.symm.trans ht_63
              replace H := app_hid H
              replace H := ite_f H
              replace H := bind2_hid H
              obtain ⟨t_69, lt_69, qt_69, H⟩ := H
              go_wp2_with fail
              go_at_call 37
              refine (Go.Proofs.Ytkinlkmmelkdnaa.GlMarkIntS.C (t_25a) (1) At_25a ct_25a w.heap.size _   Ot_25a (Lib.hid (own_max Ot_25a.out))   qt_69).mono ?_
              rintro e_t_69 wt_69 ⟨rfl, ot_69, nt_69, gt_69⟩
              have Pt_69 := Lib.hid ot_69
              have Gt_69 := Lib.hid gt_69
              replace nt_69 := Lib.hid nt_69
              clear ot_69 gt_69
              have HBwt_69 := Lib.hid (HBwt_57.out.grown Gt_69.out HBwt_57.out.size (fun q hq => (Ot_25a.out.lt q hq).1))
              replace Ot_10 := Lib.hid (own_other Ot_10.out Gt_69.out Dt_25a_t_10.out)
              replace Ot_13a := Lib.hid (own_other Ot_13a.out Gt_69.out Dt_25a_t_13a.out)
              replace Pt_50 := Lib.hid (own_other Pt_50.out Gt_69.out Dt_25a_t_20.out)
              replace Ot_43 := Lib.hid (own_other Ot_43.out Gt_69.out (Apart.symm Dt_43_t_25a.out))
              clear Ot_25a Gt_69
              replace H := bind_hid H
              obtain ⟨t_74, qt_74, H⟩ := H
              go_wp2_with fail
              have hc_ := nt_69.out
              have hv_ : (Value.slice At_25a t_25a.length ct_25a : Value) = Value.slice At_25a lt_69.length ct_25a := by rw [hc_]
              try rw [hv_]
              replace Pt_69 := Lib.hid (own_len hc_ Pt_69.out)
              clear hc_ hv_
              go_wp2_with fail
              go_at_call 38
              refine (Go.Proofs.Ytkinlkmmelkdnaa.GlHeldIntS.C (lt_69) (1) At_25a ct_25a _   (Lib.hid (own_cells Pt_69.out)) (Lib.hid (own_max Pt_69.out)) qt_74).mono ?_
              rintro e_t_74 wt_74 ⟨rfl, bt_74⟩
              have HBwt_74 := Lib.hid (Below.step HBwt_69.out bt_74)
              replace Ot_10 := Lib.hid (own_below Ot_10.out bt_74)
              replace Ot_13a := Lib.hid (own_below Ot_13a.out bt_74)
              replace Pt_50 := Lib.hid (own_below Pt_50.out bt_74)
              replace Pt_69 := Lib.hid (own_below Pt_69.out bt_74)
              replace Ot_43 := Lib.hid (own_below Ot_43.out bt_74)
              clear bt_74
              replace H := let_hid H
              obtain ⟨t_77, ht_77, H⟩ := H
              cases t_77 with
              | false =>
                replace H := ite_f H
                replace H := let_hid H
                obtain ⟨t_81, ht_81, H⟩ := H
                cases t_81 with
                | false =>
                  replace H := ite_f H
                  replace H := bind_hid H
                  obtain ⟨t_84, qt_84, H⟩ := H
                  go_wp2_with fail
                  go_at_call 19
                  refine (Go.Proofs.Ytkinlkmmelkdnaa.GlToRateS.C (aList) A0 c0 _   (Lib.hid (Cells.below M0.out HBwt_74.out)) N0 qt_84).mono ?_
                  rintro e_t_84 wt_84 ⟨At_84, ct_84, rfl, ot_84, bt_84⟩
                  have Dt_84_t_10 := Lib.hid (apart_call ot_84 Ot_10.out)
                  have Dt_84_t_13a := Lib.hid (apart_call ot_84 Ot_13a.out)
                  have Dt_84_t_20 := Lib.hid (apart_call ot_84 Pt_50.out)
                  have Dt_84_t_25a := Lib.hid (apart_call ot_84 Pt_69.out)
                  have Dt_84_t_43 := Lib.hid (apart_call ot_84 Ot_43.out)
                  have Ot_84 := Lib.hid (own_lower ot_84 HBwt_74.out.size)
                  clear ot_84
                  have HBwt_84 := Lib.hid (Below.step HBwt_74.out bt_84)
                  replace Ot_10 := Lib.hid (own_below Ot_10.out bt_84)
                  replace Ot_13a := Lib.hid (own_below Ot_13a.out bt_84)
                  replace Pt_50 := Lib.hid (own_below Pt_50.out bt_84)
                  replace Pt_69 := Lib.hid (own_below Pt_69.out bt_84)
                  replace Ot_43 := Lib.hid (own_below Ot_43.out bt_84)
                  clear bt_84
                  replace H := bind2_hid H
                  obtain ⟨t_87a, t_87b, qt_87, H⟩ := H
                  go_wp2_with fail
                  go_at_call 35
                  refine (Go.Proofs.Ytkinlkmmelkdnaa.GiCheapestZones.C (t_84) (aDay) (aGrams) At_84 ct_84 _   (Lib.hid (own_cells Ot_84.out)) (Lib.hid (own_max Ot_84.out)) qt_87).mono ?_
                  rintro e_t_87 wt_87 ⟨At_87a, ct_87a, rfl, ot_87a, bt_87⟩
                  have Dt_87a_t_10 := Lib.hid (apart_call ot_87a Ot_10.out)
                  have Dt_87a_t_13a := Lib.hid (apart_call ot_87a Ot_13a.out)
                  have Dt_87a_t_20 := Lib.hid (apart_call ot_87a Pt_50.out)
                  have Dt_87a_t_25a := Lib.hid (apart_call ot_87a Pt_69.out)
                  have Dt_87a_t_43 := Lib.hid (apart_call ot_87a Ot_43.out)
                  have Dt_87a_t_84 := Lib.hid (apart_call ot_87a Ot_84.out)
                  have Ot_87a := Lib.hid (own_lower ot_87a HBwt_84.out.size)
                  clear ot_87a
                  have HBwt_87 := Lib.hid (Below.step HBwt_84.out bt_87)
                  replace Ot_10 := Lib.hid (own_below Ot_10.out bt_87)
                  replace Ot_13a := Lib.hid (own_below Ot_13a.out bt_87)
                  replace Pt_50 := Lib.hid (own_below Pt_50.out bt_87)
                  replace Pt_69 := Lib.hid (own_below Pt_69.out bt_87)
                  replace Ot_43 := Lib.hid (own_below Ot_43.out bt_87)
                  replace Ot_84 := Lib.hid (own_below Ot_84.out bt_87)
                  clear bt_87
                  replace H := bind_hid H
                  obtain ⟨t_95, qt_95, H⟩ := H
                  go_wp2_with fail
                  go_at_call 36
                  refine (Go.Proofs.Ytkinlkmmelkdnaa.GlEqIntS.C (t_87a) (t_13a) At_87a ct_87a At_13a ct_13a _   (Lib.hid (own_cells Ot_87a.out)) (Lib.hid (own_max Ot_87a.out)) (Lib.hid (own_cells Ot_13a.out)) (Lib.hid (own_max Ot_13a.out)) qt_95).mono ?_
                  rintro e_t_95 wt_95 ⟨rfl, bt_95⟩
                  have HBwt_95 := Lib.hid (Below.step HBwt_87.out bt_95)
                  replace Ot_10 := Lib.hid (own_below Ot_10.out bt_95)
                  replace Ot_13a := Lib.hid (own_below Ot_13a.out bt_95)
                  replace Pt_50 := Lib.hid (own_below Pt_50.out bt_95)
                  replace Pt_69 := Lib.hid (own_below Pt_69.out bt_95)
                  replace Ot_43 := Lib.hid (own_below Ot_43.out bt_95)
                  replace Ot_84 := Lib.hid (own_below Ot_84.out bt_95)
                  replace Ot_87a := Lib.hid (own_below Ot_87a.out bt_95)
                  clear bt_95
                  cases t_95 with
                  | false =>
                    replace H := let_hid H
                    obtain ⟨t_96, ht_96, H⟩ := H
                    obtain rfl : t_96 = true := ht_96.symm
                    replace H := join_hid H
                    replace H := ite_t H
                    replace H := app_hid H
                    replace H := ite_t H
                    obtain rfl := ret_hid H
                    go_wp2_with fail
                    go_ret
                    exact ⟨rfl, HBwt_95.out⟩
                  | true =>
                    replace H := let_hid H
                    obtain ⟨t_96, ht_96, H⟩ := H
                    obtain rfl : t_96 = false := ht_96.symm
                    replace H := join_hid H
                    replace H := ite_f H
                    replace H := let_hid H
                    obtain ⟨t_100, ht_100, H⟩ := H
                    replace H := app_hid H
                    cases t_100 with
                    | false =>
                      replace H := ite_f H
                      replace H := bind_hid H
                      obtain ⟨t_106, qt_106, H⟩ := H
                      go_wp2_with fail
                      go_at_call 38
                      refine (Go.Proofs.Ytkinlkmmelkdnaa.GlHeldIntS.C (lt_69) (1) At_25a ct_25a _   (Lib.hid (own_cells Pt_69.out)) (Lib.hid (own_max Pt_69.out)) qt_106).mono ?_
                      rintro e_t_106 wt_106 ⟨rfl, bt_106⟩
                      have HBwt_106 := Lib.hid (Below.step HBwt_95.out bt_106)
                      replace Ot_10 := Lib.hid (own_below Ot_10.out bt_106)
                      replace Ot_13a := Lib.hid (own_below Ot_13a.out bt_106)
                      replace Pt_50 := Lib.hid (own_below Pt_50.out bt_106)
                      replace Pt_69 := Lib.hid (own_below Pt_69.out bt_106)
                      replace Ot_43 := Lib.hid (own_below Ot_43.out bt_106)
                      replace Ot_84 := Lib.hid (own_below Ot_84.out bt_106)
                      replace Ot_87a := Lib.hid (own_below Ot_87a.out bt_106)
                      clear bt_106
                      replace H := let_hid H
                      obtain ⟨t_109, ht_109, H⟩ := H
                      cases t_109 with
                      | false =>
                        replace H := ite_f H
                        replace H := let_hid H
                        obtain ⟨t_113, ht_113, H⟩ := H
                        cases t_113 with
                        | false =>
                          replace H := ite_f H
                          obtain rfl := ret_hid H
                          go_wp2_with fail
                          go_ret
                          exact ⟨rfl, HBwt_106.out⟩
                        | true =>
                          replace H := ite_t H
                          obtain rfl := ret_hid H
                          go_wp2_with fail
                          go_ret
                          exact ⟨rfl, HBwt_106.out⟩
                      | true =>
                        replace H := ite_t H
                        obtain rfl := ret_hid H
                        go_wp2_with fail
                        go_ret
                        exact ⟨rfl, HBwt_106.out⟩
                    | true =>
                      replace H := ite_t H
                      obtain rfl := ret_hid H
                      go_wp2_with fail
                      go_ret
                      exact ⟨rfl, HBwt_95.out⟩
                | true =>
                  replace H := ite_t H
                  obtain rfl := ret_hid H
                  go_wp2_with fail
                  go_ret
                  exact ⟨rfl, HBwt_74.out⟩
              | true =>
                replace H := ite_t H
                obtain rfl := ret_hid H
                go_wp2_with fail
                go_ret
                exact ⟨rfl, HBwt_74.out⟩
          | true =>
            replace H := ite_t H
            replace H := app_hid H
            replace H := join_hid H
            replace H := ite_t H
            replace H := app_hid H
            replace H := ite_t H
            obtain rfl := ret_hid H
            go_wp2_with fail
            go_ret
            exact ⟨rfl, HBwt_50.out⟩
      | true =>
        replace H := ite_t H
        obtain rfl := ret_hid H
        go_wp2_with fail
        go_ret
        exact ⟨rfl, HBwt_33.out⟩
  | true =>
    replace H := ite_t H
    obtain rfl := ret_hid H
    go_wp2_with fail
    go_ret
    exact ⟨rfl, HBwt_4.out⟩
end Go.Proofs.Ytkinlkmmelkdnaa.GlFnExactCheapestZones

/- Plain words on stamps: what a stamp is, when one is valid, when a list of them is; the cells of a list of records. No condition. -/
namespace Go.Proofs.Ytkinlkmmelkdnaa.PlainStamp
set_option linter.unusedVariables false

/-- a number lies in a..b -/
def inB (x a b : Int) : Bool := decide (a ≤ x ∧ x ≤ b)
theorem inB_yes {x a b : Int} (h1 : a ≤ x) (h2 : x ≤ b) : inB x a b = true := by unfold inB; exact decide_eq_true ⟨h1, h2⟩
theorem inB_of {x a b : Int} (h : inB x a b = true) : a ≤ x ∧ x ≤ b := by unfold inB at h; exact of_decide_eq_true h
theorem inB_no {x a b : Int} (h : x < a ∨ b < x) : inB x a b = false := by unfold inB; exact decide_eq_false (by omega)

structure St where
  id : Int
  face : Int
  color : Int
  year : Int
deriving DecidableEq

def St.cells (s : St) : List Value := [.int .i64 s.id, .int .i64 s.face, .int .i64 s.color, .int .i64 s.year]
def St.val (s : St) : Value := .agg #[.int .i64 s.id, .int .i64 s.face, .int .i64 s.color, .int .i64 s.year]
/-- each field fits an int -/
def St.fits (s : St) : Prop := (Lit.int .i64 s.id).wf = true ∧ (Lit.int .i64 s.face).wf = true ∧ (Lit.int .i64 s.color).wf = true ∧ (Lit.int .i64 s.year).wf = true

def okSt (s : St) : Bool := inB s.id 1 999 && inB s.face 0 9999 && inB s.color 0 99 && inB s.year 1840 2100
theorem okSt_yes {s : St} (h : okSt s = true) : (1 ≤ s.id ∧ s.id ≤ 999) ∧ (0 ≤ s.face ∧ s.face ≤ 9999) ∧ (0 ≤ s.color ∧ s.color ≤ 99) ∧ (1840 ≤ s.year ∧ s.year ≤ 2100) := by
  unfold okSt at h
  simp only [Bool.and_eq_true] at h
  exact ⟨inB_of h.1.1.1, inB_of h.1.1.2, inB_of h.1.2, inB_of h.2⟩

/-- the stamp at k is valid, and its id is above the one ahead of it -/
def okAt (l : List St) (k : Nat) : Bool :=
  match l[k]? with
  | none => true
  | some s => okSt s && (decide (k = 0) || (match l[k-1]? with | none => true | some r => decide (r.id < s.id)))
def okUp (l : List St) (k : Nat) : Bool := (List.range k).all (okAt l)
theorem okUp_zero (l : List St) : okUp l 0 = true := by simp [okUp]
theorem okUp_succ (l : List St) (k : Nat) : okUp l (k + 1) = (okUp l k && okAt l k) := by simp [okUp, List.range_succ, List.all_append]
theorem okUp_not {l : List St} {k n : Nat} (h : okAt l k = false) (hk : k < n) : okUp l n = false := by
  unfold okUp
  rw [Bool.eq_false_iff]
  intro hall
  have := List.all_eq_true.1 hall k (List.mem_range.2 hk)
  rw [h] at this; exact absurd this (by simp)
/-- a list of at most twelve valid stamps with rising ids -/
def okSts (l : List St) : Bool := decide (l.length ≤ 12) && okUp l l.length
theorem okAt_of {l : List St} {k : Nat} {s : St} (hs : l[k]? = some s) (h : okAt l k = true) : okSt s = true ∧ ∀ r, 0 < k → l[k-1]? = some r → r.id < s.id := by
  unfold okAt at h
  rw [hs] at h
  simp only [Bool.and_eq_true, Bool.or_eq_true, decide_eq_true_eq] at h
  refine ⟨h.1, fun r hk hr => ?_⟩
  rcases h.2 with h0 | h0
  · omega
  · rw [hr] at h0; simpa using h0
theorem okSts_len {l : List St} (h : okSts l = true) : l.length ≤ 12 := by unfold okSts at h; simp only [Bool.and_eq_true, decide_eq_true_eq] at h; exact h.1
theorem okSts_at {l : List St} (h : okSts l = true) {k : Nat} {s : St} (hs : l[k]? = some s) : okSt s = true ∧ ∀ r, 0 < k → l[k-1]? = some r → r.id < s.id := by
  unfold okSts at h
  simp only [Bool.and_eq_true, decide_eq_true_eq] at h
  exact okAt_of hs (List.all_eq_true.1 h.2 k (List.mem_range.2 (List.getElem?_eq_some_iff.1 hs).1))
theorem okSts_mem {l : List St} (h : okSts l = true) {s : St} (hs : s ∈ l) : okSt s = true := by
  obtain ⟨k, hk⟩ := List.getElem?_of_mem hs
  exact (okSts_at h hk).1

/-- the cells of a list of stamps, one after the other -/
def flat (l : List St) : List Value := l.flatMap St.cells
theorem flat_nil : flat [] = [] := rfl
theorem flat_cons (s : St) (l : List St) : flat (s :: l) = s.cells ++ flat l := by simp [flat]
theorem flat_len (l : List St) : (flat l).length = l.length * 4 := by
  induction l with
  | nil => rfl
  | cons s l ih => rw [flat_cons, List.length_append, ih]; simp [St.cells]; omega
theorem flat_at : ∀ (l : List St) (k : Nat) (s : St), l[k]? = some s → ∀ j, j < 4 → (flat l)[k * 4 + j]? = s.cells[j]?
  | [], k, s, h, _, _ => by simp at h
  | r :: l, 0, s, h, j, hj => by
    obtain rfl : r = s := by simpa using h
    rw [flat_cons, List.getElem?_append_left (by simp [St.cells]; omega)]; simp
  | r :: l, k + 1, s, h, j, hj => by
    rw [flat_cons, List.getElem?_append_right (by simp [St.cells]; omega), show (k + 1) * 4 + j - r.cells.length = k * 4 + j by simp [St.cells]; omega]
    exact flat_at l k s (by simpa using h) j hj
end Go.Proofs.Ytkinlkmmelkdnaa.PlainStamp

/- Words for reckoning with plain functions; within and l1In. No condition. -/
namespace Go.Proofs.Ytkinlkmmelkdnaa.QBase
set_option linter.unusedVariables false
set_option linter.unusedSimpArgs false
open Go.RowKit
open Go.Proofs.Ytkinlkmmelkdnaa.GoP Go.Proofs.Ytkinlkmmelkdnaa.PlainStamp

theorem iteK_if {ρ : Type} (c : Bool) (a b : Option ρ) : iteK c a b = if c = true then a else b := by cases c <;> rfl
theorem bind2_some {α β ρ : Type} (a : α) (b : β) (f : α → β → Option ρ) : bind2 (some (a, b)) f = f a b := rfl
theorem bind3_some {α β γ ρ : Type} (a : α) (b : β) (c : γ) (f : α → β → γ → Option ρ) : bind3 (some (a, b, c)) f = f a b c := rfl
theorem unp2_mk {α β ρ : Type} (a : α) (b : β) (f : α → β → Option ρ) : unp2 (a, b) f = f a b := rfl
theorem unp3_mk {α β γ ρ : Type} (a : α) (b : β) (c : γ) (f : α → β → γ → Option ρ) : unp3 (a, b, c) f = f a b c := rfl
theorem guardK_pos {ρ : Type} {p : Prop} [Decidable p] {a : Option ρ} (h : p) : guardK p a = a := if_pos h
theorem cut2 {α β : Type} {x : Option (α × β)} {p : α × β} (h : x = some p) : x = some (p.1, p.2) := h
theorem cut3 {α β γ : Type} {x : Option (α × β × γ)} {p : α × β × γ} (h : x = some p) : x = some (p.1, p.2.1, p.2.2) := h
theorem within_eq (n a b : Int) : GiWithin.P n a b = some (inB n a b) := by
  simp only [GiWithin.P, letK, joinK, appK, iteK_if, inB]
  by_cases h1 : a ≤ n <;> by_cases h2 : n ≤ b <;> simp [h1, h2]
theorem l1In_eq (n a b : Int) : GsL1In.P n a b = some (inB n a b) := by
  simp only [GsL1In.P, letK, joinK, appK, iteK_if, inB]
  by_cases h1 : a ≤ n <;> by_cases h2 : n ≤ b <;> simp [h1, h2]
end Go.Proofs.Ytkinlkmmelkdnaa.QBase

/- Reckoning with the loops of plain functions; lists of valid records with rising ids. No condition. -/
namespace Go.Proofs.Ytkinlkmmelkdnaa.QLoop
set_option linter.unusedVariables false
open Go.RowKit
open Go.Proofs.Ytkinlkmmelkdnaa.GoP Go.Proofs.Ytkinlkmmelkdnaa.QBase

theorem cnt_ex {σ ρ : Type} {f : Nat → σ → (σ → Option ρ) → (σ → Option ρ) → Option ρ} {fin : σ → Option ρ} {Q : ρ → Prop} {n : Nat} (I : Nat → σ → Prop)
    (step : ∀ k s nx, k < n → I k s → (∀ s', I (k + 1) s' → ∃ r, nx s' = some r ∧ Q r) → ∃ r, f k s nx fin = some r ∧ Q r) (done : ∀ s, I n s → ∃ r, fin s = some r ∧ Q r) :
    ∀ m k s, k + m = n → I k s → ∃ r, cntK f m k s fin = some r ∧ Q r := by
  intro m
  induction m with
  | zero => intro k s hk hI; obtain rfl : k = n := by omega
            exact done s hI
  | succ m ih => intro k s hk hI; exact step k s _ (by omega) hI (fun s' h' => ih (k + 1) s' (by omega) h')
theorem cnt_is {σ ρ : Type} {f : Nat → σ → (σ → Option ρ) → (σ → Option ρ) → Option ρ} {fin : σ → Option ρ} {n : Nat} (r : ρ) (I : Nat → σ → Prop)
    (step : ∀ k s nx, k < n → I k s → (∀ s', I (k + 1) s' → nx s' = some r) → f k s nx fin = some r) (done : ∀ s, I n s → fin s = some r) (s : σ) (h0 : I 0 s) : cntK f n 0 s fin = some r := by
  obtain ⟨r', h, rfl⟩ := cnt_ex (Q := fun x => x = r) I (fun k s nx hk hI hn => ⟨r, step k s nx hk hI (fun s' h' => by obtain ⟨_, h, rfl⟩ := hn s' h'; exact h), rfl⟩) (fun s h => ⟨r, done s h, rfl⟩) n 0 s (by omega) h0
  exact h
theorem at_lt {α : Type} {l : List α} {k : Nat} (h : k < l.length) : ∃ x, l[k]? = some x ∧ idx l (k : Int) = some x := ⟨l[k], List.getElem?_eq_getElem h, by rw [idx_nat, List.getElem?_eq_getElem h]⟩
theorem idx_pred {α : Type} {l : List α} {k : Nat} {x : α} (hk : 0 < k) (hb : k ≤ 9223372036854775807) (h : l[k - 1]? = some x) : idx l (IntKind.i64.wrap ((k : Int) - 1)) = some x := by
  rw [IntWalk.i64_in _ (by omega), show ((k : Int) - 1) = ((k - 1 : Nat) : Int) by omega, idx_nat, h]
theorem take_next {α : Type} {l : List α} {k : Nat} {x : α} (h : l[k]? = some x) : l.take (k + 1) = l.take k ++ [x] := by
  obtain ⟨hk, e⟩ := List.getElem?_eq_some_iff.1 h
  rw [List.take_succ_eq_append_getElem hk, e]
theorem all_next {α : Type} {p : α → Bool} {l : List α} {k : Nat} {x : α} (h : l[k]? = some x) : (l.take (k + 1)).all p = ((l.take k).all p && p x) := by
  rw [take_next h]; simp
theorem not_all {α : Type} {p : α → Bool} {l : List α} {k : Nat} {x : α} (h : l[k]? = some x) (hp : p x = false) : l.all p = false := by
  rw [Bool.eq_false_iff]
  intro ha
  have := List.all_eq_true.1 ha x (List.mem_of_getElem? h)
  rw [hp] at this; exact absurd this (by simp)
theorem wrap_in {x : Int} (h1 : -9223372036854775808 ≤ x) (h2 : x ≤ 9223372036854775807) : IntKind.i64.wrap x = x := IntWalk.i64_in _ (by omega)

/-- valid, and above the one ahead of it -/
def upAt {α : Type} (ok : α → Bool) (id : α → Int) (l : List α) (k : Nat) : Bool :=
  match l[k]? with
  | none => true
  | some s => ok s && (decide (k = 0) || (match l[k-1]? with | none => true | some r => decide (id r < id s)))
def upTo {α : Type} (ok : α → Bool) (id : α → Int) (l : List α) (k : Nat) : Bool := (List.range k).all (upAt ok id l)
theorem upTo_zero {α : Type} (ok : α → Bool) (id : α → Int) (l : List α) : upTo ok id l 0 = true := rfl
theorem upTo_succ {α : Type} (ok : α → Bool) (id : α → Int) (l : List α) (k : Nat) : upTo ok id l (k + 1) = (upTo ok id l k && upAt ok id l k) := by simp [upTo, List.range_succ, List.all_append]
theorem upTo_not {α : Type} {ok : α → Bool} {id : α → Int} {l : List α} {k n : Nat} (h : upAt ok id l k = false) (hk : k < n) : upTo ok id l n = false := by
  unfold upTo
  rw [Bool.eq_false_iff]
  intro ha
  have := List.all_eq_true.1 ha k (List.mem_range.2 hk)
  rw [h] at this; exact absurd this (by simp)
/-- a list of at most m valid records with rising ids -/
def upL {α : Type} (m : Nat) (ok : α → Bool) (id : α → Int) (l : List α) : Bool := decide (l.length ≤ m) && upTo ok id l l.length
theorem upAt_bad {α : Type} {ok : α → Bool} {id : α → Int} {l : List α} {k : Nat} {s : α} (hs : l[k]? = some s) (h : ok s = false) : upAt ok id l k = false := by unfold upAt; rw [hs]; simp [h]
theorem upAt_first {α : Type} {ok : α → Bool} {id : α → Int} {l : List α} {s : α} (hs : l[0]? = some s) (h : ok s = true) : upAt ok id l 0 = true := by unfold upAt; rw [hs]; simp [h]
theorem upAt_next {α : Type} {ok : α → Bool} {id : α → Int} {l : List α} {k : Nat} {s r : α} (hs : l[k]? = some s) (hr : l[k-1]? = some r) (hk : 0 < k) (h : ok s = true) : upAt ok id l k = decide (id r < id s) := by
  unfold upAt; rw [hs]; simp only [hr, h, Bool.true_and, decide_eq_false (show ¬ k = 0 by omega), Bool.false_or]
theorem upL_len {α : Type} {m : Nat} {ok : α → Bool} {id : α → Int} {l : List α} (h : upL m ok id l = true) : l.length ≤ m := by unfold upL at h; simp only [Bool.and_eq_true, decide_eq_true_eq] at h; exact h.1
theorem upL_ok {α : Type} {m : Nat} {ok : α → Bool} {id : α → Int} {l : List α} (h : upL m ok id l = true) {k : Nat} {s : α} (hs : l[k]? = some s) : ok s = true := by
  unfold upL at h
  simp only [Bool.and_eq_true, decide_eq_true_eq] at h
  have := List.all_eq_true.1 h.2 k (List.mem_range.2 (List.getElem?_eq_some_iff.1 hs).1)
  unfold upAt at this
  rw [hs] at this
  simp only [Bool.and_eq_true] at this
  exact this.1
theorem upL_mem {α : Type} {m : Nat} {ok : α → Bool} {id : α → Int} {l : List α} (h : upL m ok id l = true) {s : α} (hs : s ∈ l) : ok s = true := by
  obtain ⟨k, hk⟩ := List.getElem?_of_mem hs
  exact upL_ok h hk
/-- a loop that goes through a list of records and stops with 'false' at the first that is bad -/
theorem up_loop {α : Type} {ok : α → Bool} {id : α → Int} {l : List α} {R : Type} {no : R} {f : Nat → Unit → (Unit → Option R) → (Unit → Option R) → Option R} {fin : Unit → Option R}
    (step : ∀ k nx s, l[k]? = some s → (ok s = false → f k () nx fin = some no) ∧ (ok s = true → (k = 0 → f k () nx fin = nx ()) ∧ (0 < k → ∀ r, l[k-1]? = some r → (id r < id s → f k () nx fin = nx ()) ∧ (id s ≤ id r → f k () nx fin = some no)))) :
    cntK f l.length 0 () fin = if upTo ok id l l.length then fin () else some no := by
  have key : ∀ m k, k + m = l.length → upTo ok id l k = true → cntK f m k () fin = if upTo ok id l l.length then fin () else some no := by
    intro m
    induction m with
    | zero => intro k hk hu; obtain rfl : k = l.length := by omega
              rw [hu]; rfl
    | succ m ih =>
      intro k hk hu
      have hlt : k < l.length := by omega
      obtain ⟨s, hs, _⟩ := at_lt hlt
      obtain ⟨h1, h2⟩ := step k (fun s' => cntK f m (k + 1) s' fin) s hs
      show f k () _ fin = _
      cases hok : ok s with
      | false => rw [h1 hok, upTo_not (upAt_bad hs hok) hlt]; rfl
      | true =>
        obtain ⟨h3, h4⟩ := h2 hok
        by_cases hk0 : k = 0
        · rw [h3 hk0]
          subst hk0
          exact ih 1 (by omega) (by rw [upTo_succ, hu, upAt_first hs hok]; rfl)
        · obtain ⟨r, hr, _⟩ := at_lt (l := l) (k := k - 1) (by omega)
          obtain ⟨h5, h6⟩ := h4 (by omega) r hr
          by_cases hlt2 : id r < id s
          · rw [h5 hlt2]
            exact ih (k + 1) (by omega) (by rw [upTo_succ, hu, upAt_next hs hr (by omega) hok]; simpa using hlt2)
          · rw [h6 (by omega), upTo_not (by rw [upAt_next hs hr (by omega) hok]; simpa using hlt2) hlt]; rfl
  exact key l.length 0 (by omega) (upTo_zero ok id l)
end Go.Proofs.Ytkinlkmmelkdnaa.QLoop

/- Chapter 8: rates: the plain functions of the program and of the reference agree, and the laws answer true. (QFold) No condition but those of each theorem. -/
namespace Go.Proofs.Ytkinlkmmelkdnaa.QFold
set_option linter.unusedVariables false
set_option linter.unusedSimpArgs false
open Go.RowKit
open Go.Proofs.Ytkinlkmmelkdnaa.GoP Go.Proofs.Ytkinlkmmelkdnaa.PlainStamp Go.Proofs.Ytkinlkmmelkdnaa.QBase Go.Proofs.Ytkinlkmmelkdnaa.QLoop

theorem fold_loop {α σ R : Type} {l : List α} {g : σ → α → σ} {f : Nat → σ → (σ → Option R) → (σ → Option R) → Option R} {fin : σ → Option R} (s0 : σ)
    (step : ∀ k nx x s, l[k]? = some x → f k s nx fin = nx (g s x)) : cntK f l.length 0 s0 fin = fin (l.foldl g s0) := by
  have key : ∀ m k s, k + m = l.length → cntK f m k s fin = fin ((l.drop k).foldl g s) := by
    intro m
    induction m with
    | zero => intro k s hk; rw [List.drop_of_length_le (by omega)]; rfl
    | succ m ih =>
      intro k s hk
      obtain ⟨x, hx, _⟩ := at_lt (l := l) (k := k) (by omega)
      obtain ⟨hlt, e⟩ := List.getElem?_eq_some_iff.1 hx
      show f k s _ fin = _
      rw [step k _ x s hx, ih (k + 1) _ (by omega), List.drop_eq_getElem_cons hlt, e]; rfl
  exact key l.length 0 s0 (by omega)
theorem find_val {α R : Type} {l : List α} {p : α → Bool} {f : Nat → Unit → (Unit → Option R) → (Unit → Option R) → Option R} {fin : Unit → Option R} {yes : α → Option R}
    (step : ∀ k nx x, l[k]? = some x → f k () nx fin = if p x = true then yes x else nx ()) : cntK f l.length 0 () fin = match l.find? p with | some x => yes x | none => fin () := by
  have key : ∀ m k, k + m = l.length → cntK f m k () fin = match (l.drop k).find? p with | some x => yes x | none => fin () := by
    intro m
    induction m with
    | zero => intro k hk; rw [List.drop_of_length_le (by omega)]; rfl
    | succ m ih =>
      intro k hk
      obtain ⟨x, hx, _⟩ := at_lt (l := l) (k := k) (by omega)
      obtain ⟨hlt, e⟩ := List.getElem?_eq_some_iff.1 hx
      show f k () _ fin = _
      rw [step k _ x hx, List.drop_eq_getElem_cons hlt, e, List.find?_cons]
      cases hp : p x with
      | true => simp
      | false => simp only [Bool.false_eq_true, if_false]; exact ih (k + 1) (by omega)
  exact key l.length 0 (by omega)
theorem find_congr {α : Type} {l : List α} {p q : α → Bool} (h : ∀ x ∈ l, p x = q x) : l.find? p = l.find? q := by
  induction l with
  | nil => rfl
  | cons x l ih => rw [List.find?_cons, List.find?_cons, h x (by simp), ih (fun y hy => h y (by simp [hy]))]
end Go.Proofs.Ytkinlkmmelkdnaa.QFold

/- Lists of valid records in strictly rising order of any kind; texts in the order of their bytes. (QOrd) No condition but those of each theorem. -/
namespace Go.Proofs.Ytkinlkmmelkdnaa.QOrd
set_option linter.unusedVariables false
set_option linter.unusedSimpArgs false
open Go.RowKit
open Go.Proofs.Ytkinlkmmelkdnaa.GoP Go.Proofs.Ytkinlkmmelkdnaa.PlainStamp Go.Proofs.Ytkinlkmmelkdnaa.QBase Go.Proofs.Ytkinlkmmelkdnaa.QLoop

/-- texts in the order of their bytes -/
def bl (a b : ByteArray) : Bool := Op.bytesLess a.toList b.toList
theorem bl_self' : ∀ x, Op.bytesLess x x = false
  | [] => rfl
  | a :: x => by
    have h1 : ¬ a < a := fun k => by rw [UInt8.lt_iff_toNat_lt] at k; omega
    simp [Op.bytesLess, h1, bl_self' x]
theorem bl_total' : ∀ x y, x ≠ y → Op.bytesLess x y = !(Op.bytesLess y x)
  | [], [], h => absurd rfl h
  | [], b :: y, _ => by simp [Op.bytesLess]
  | a :: x, [], _ => by simp [Op.bytesLess]
  | a :: x, b :: y, h => by
    by_cases hab : a = b
    · subst hab
      have h1 : ¬ a < a := fun k => by rw [UInt8.lt_iff_toNat_lt] at k; omega
      have := bl_total' x y (fun e => h (by rw [e]))
      simp [Op.bytesLess, h1, this]
    · have hne : a.toNat ≠ b.toNat := fun e => hab (UInt8.toNat_inj.1 e)
      by_cases hlt : a < b
      · have h2 : ¬ b < a := fun k => by rw [UInt8.lt_iff_toNat_lt] at k hlt; omega
        simp [Op.bytesLess, hlt, h2, Ne.symm hab]
      · have h2 : b < a := by rw [UInt8.lt_iff_toNat_lt] at hlt ⊢; omega
        simp [Op.bytesLess, hlt, h2, hab]
theorem bl_trans' : ∀ x y z, Op.bytesLess x y = true → Op.bytesLess y z = true → Op.bytesLess x z = true
  | [], _, [], h1, h2 => by rename_i y; cases y <;> simp [Op.bytesLess] at h1 h2
  | [], _, c :: z, _, _ => by simp [Op.bytesLess]
  | a :: x, [], _, h1, _ => by simp [Op.bytesLess] at h1
  | a :: x, b :: y, [], _, h2 => by simp [Op.bytesLess] at h2
  | a :: x, b :: y, c :: z, h1, h2 => by
    simp only [Op.bytesLess, Bool.or_eq_true, decide_eq_true_eq, Bool.and_eq_true, beq_iff_eq] at h1 h2 ⊢
    rcases h1 with h1 | ⟨rfl, h1⟩
    · rcases h2 with h2 | ⟨rfl, h2⟩
      · left; rw [UInt8.lt_iff_toNat_lt] at h1 h2 ⊢; omega
      · left; exact h1
    · rcases h2 with h2 | ⟨rfl, h2⟩
      · left; exact h2
      · right; exact ⟨rfl, bl_trans' x y z h1 h2⟩
theorem list_inj {a b : ByteArray} (h : a.toList = b.toList) : a = b := by
  rw [Lib.toList_data, Lib.toList_data] at h
  cases a; cases b; congr 1; exact Array.toList_inj.1 h
theorem bl_self (a : ByteArray) : bl a a = false := bl_self' _
theorem bl_total {a b : ByteArray} (h : a ≠ b) : bl a b = !(bl b a) := bl_total' _ _ (fun e => h (list_inj e))
theorem bl_trans {a b c : ByteArray} (h1 : bl a b = true) (h2 : bl b c = true) : bl a c = true := bl_trans' _ _ _ h1 h2
theorem bl_asymm {a b : ByteArray} (h : bl a b = true) : bl b a = false := by
  by_cases e : a = b
  · rw [e]; exact bl_self b
  · rw [bl_total e] at h; simpa using h
theorem bl_ne {a b : ByteArray} (h : bl a b = true) : a ≠ b := fun e => by rw [e, bl_self] at h; exact absurd h (by simp)
/-- 'not above', as the program asks it -/
theorem bl_le (a b : ByteArray) : (Op.bytesLess a.toList b.toList || a.toList == b.toList) = !(bl b a) := by
  by_cases e : a = b
  · subst e; rw [bl_self]; simp
  · have h1 : (a.toList == b.toList) = false := by rw [beq_eq_false_iff_ne]; exact fun h => e (list_inj h)
    rw [h1, Bool.or_false]; exact bl_total e
theorem bl_lt (a b : ByteArray) : Op.bytesLess a.toList b.toList = bl a b := rfl
theorem eq_list (a b : ByteArray) : (a.toList == b.toList) = decide (a = b) := by
  by_cases e : a = b
  · subst e; simp
  · rw [decide_eq_false e, beq_eq_false_iff_ne]; exact fun h => e (list_inj h)

/-- valid, and behind the one ahead of it -/
def riseAt {α : Type} (ok : α → Bool) (lt : α → α → Bool) (l : List α) (k : Nat) : Bool :=
  match l[k]? with
  | none => true
  | some s => ok s && (decide (k = 0) || (match l[k-1]? with | none => true | some r => lt r s))
def riseTo {α : Type} (ok : α → Bool) (lt : α → α → Bool) (l : List α) (k : Nat) : Bool := (List.range k).all (riseAt ok lt l)
theorem riseTo_zero {α : Type} (ok : α → Bool) (lt : α → α → Bool) (l : List α) : riseTo ok lt l 0 = true := rfl
theorem riseTo_succ {α : Type} (ok : α → Bool) (lt : α → α → Bool) (l : List α) (k : Nat) : riseTo ok lt l (k + 1) = (riseTo ok lt l k && riseAt ok lt l k) := by simp [riseTo, List.range_succ, List.all_append]
theorem riseTo_not {α : Type} {ok : α → Bool} {lt : α → α → Bool} {l : List α} {k n : Nat} (h : riseAt ok lt l k = false) (hk : k < n) : riseTo ok lt l n = false := by
  unfold riseTo
  rw [Bool.eq_false_iff]
  intro ha
  have := List.all_eq_true.1 ha k (List.mem_range.2 hk)
  rw [h] at this; exact absurd this (by simp)
def riseL {α : Type} (m : Nat) (ok : α → Bool) (lt : α → α → Bool) (l : List α) : Bool := decide (l.length ≤ m) && riseTo ok lt l l.length
theorem riseAt_bad {α : Type} {ok : α → Bool} {lt : α → α → Bool} {l : List α} {k : Nat} {s : α} (hs : l[k]? = some s) (h : ok s = false) : riseAt ok lt l k = false := by unfold riseAt; rw [hs]; simp [h]
theorem riseAt_first {α : Type} {ok : α → Bool} {lt : α → α → Bool} {l : List α} {s : α} (hs : l[0]? = some s) (h : ok s = true) : riseAt ok lt l 0 = true := by unfold riseAt; rw [hs]; simp [h]
theorem riseAt_next {α : Type} {ok : α → Bool} {lt : α → α → Bool} {l : List α} {k : Nat} {s r : α} (hs : l[k]? = some s) (hr : l[k-1]? = some r) (hk : 0 < k) (h : ok s = true) : riseAt ok lt l k = lt r s := by
  unfold riseAt; rw [hs]; simp only [hr, h, Bool.true_and, decide_eq_false (show ¬ k = 0 by omega), Bool.false_or]
theorem riseL_len {α : Type} {m : Nat} {ok : α → Bool} {lt : α → α → Bool} {l : List α} (h : riseL m ok lt l = true) : l.length ≤ m := by unfold riseL at h; simp only [Bool.and_eq_true, decide_eq_true_eq] at h; exact h.1
theorem riseTo_at {α : Type} {ok : α → Bool} {lt : α → α → Bool} {l : List α} {n : Nat} (h : riseTo ok lt l n = true) {k : Nat} (hk : k < n) : riseAt ok lt l k = true := List.all_eq_true.1 h k (List.mem_range.2 hk)
theorem riseL_ok {α : Type} {m : Nat} {ok : α → Bool} {lt : α → α → Bool} {l : List α} (h : riseL m ok lt l = true) {k : Nat} {s : α} (hs : l[k]? = some s) : ok s = true := by
  unfold riseL at h
  simp only [Bool.and_eq_true, decide_eq_true_eq] at h
  have := riseTo_at h.2 (List.getElem?_eq_some_iff.1 hs).1
  unfold riseAt at this
  rw [hs] at this
  simp only [Bool.and_eq_true] at this
  exact this.1
theorem riseL_mem {α : Type} {m : Nat} {ok : α → Bool} {lt : α → α → Bool} {l : List α} (h : riseL m ok lt l = true) {s : α} (hs : s ∈ l) : ok s = true := by
  obtain ⟨k, hk⟩ := List.getElem?_of_mem hs
  exact riseL_ok h hk
theorem riseL_step {α : Type} {m : Nat} {ok : α → Bool} {lt : α → α → Bool} {l : List α} (h : riseL m ok lt l = true) {k : Nat} {x y : α} (hx : l[k]? = some x) (hy : l[k + 1]? = some y) : lt x y = true := by
  unfold riseL at h
  simp only [Bool.and_eq_true, decide_eq_true_eq] at h
  have := riseTo_at h.2 (List.getElem?_eq_some_iff.1 hy).1
  unfold riseAt at this
  rw [hy] at this
  simp only [Nat.add_sub_cancel, hx, Bool.and_eq_true, Bool.or_eq_true, decide_eq_true_eq] at this
  rcases this.2 with h0 | h0
  · omega
  · exact h0
theorem riseL_lt {α : Type} {m : Nat} {ok : α → Bool} {lt : α → α → Bool} (tr : ∀ a b c, lt a b = true → lt b c = true → lt a c = true) {l : List α} (h : riseL m ok lt l = true) {i j : Nat} {x y : α} (hij : i < j) (hx : l[i]? = some x) (hy : l[j]? = some y) : lt x y = true := by
  obtain ⟨d, rfl⟩ : ∃ d, j = i + d + 1 := ⟨j - i - 1, by omega⟩
  clear hij
  induction d generalizing y with
  | zero => exact riseL_step h hx hy
  | succ d ih =>
    obtain ⟨z, hz, _⟩ := at_lt (l := l) (k := i + d + 1) (by have := (List.getElem?_eq_some_iff.1 hy).1; omega)
    exact tr _ _ _ (ih hz) (riseL_step (k := i + d + 1) h hz (by rw [← hy]; rfl))
/-- a loop that goes through a list of records and stops with 'no' at the first that is bad -/
theorem rise_loop {α : Type} {ok : α → Bool} {lt : α → α → Bool} {l : List α} {R : Type} {no : R} {f : Nat → Unit → (Unit → Option R) → (Unit → Option R) → Option R} {fin : Unit → Option R}
    (step : ∀ k nx s, l[k]? = some s → (ok s = false → f k () nx fin = some no) ∧ (ok s = true → (k = 0 → f k () nx fin = nx ()) ∧ (0 < k → ∀ r, l[k-1]? = some r → (lt r s = true → f k () nx fin = nx ()) ∧ (lt r s = false → f k () nx fin = some no)))) :
    cntK f l.length 0 () fin = if riseTo ok lt l l.length then fin () else some no := by
  have key : ∀ m k, k + m = l.length → riseTo ok lt l k = true → cntK f m k () fin = if riseTo ok lt l l.length then fin () else some no := by
    intro m
    induction m with
    | zero => intro k hk hu; obtain rfl : k = l.length := by omega
              rw [hu]; rfl
    | succ m ih =>
      intro k hk hu
      have hlt : k < l.length := by omega
      obtain ⟨s, hs, _⟩ := at_lt hlt
      obtain ⟨h1, h2⟩ := step k (fun s' => cntK f m (k + 1) s' fin) s hs
      show f k () _ fin = _
      cases hok : ok s with
      | false => rw [h1 hok, riseTo_not (riseAt_bad hs hok) hlt]; rfl
      | true =>
        obtain ⟨h3, h4⟩ := h2 hok
        by_cases hk0 : k = 0
        · rw [h3 hk0]
          subst hk0
          exact ih 1 (by omega) (by rw [riseTo_succ, hu, riseAt_first hs hok]; rfl)
        · obtain ⟨r, hr, _⟩ := at_lt (l := l) (k := k - 1) (by omega)
          obtain ⟨h5, h6⟩ := h4 (by omega) r hr
          cases hl : lt r s with
          | true =>
            rw [h5 hl]
            exact ih (k + 1) (by omega) (by rw [riseTo_succ, hu, riseAt_next hs hr (by omega) hok, hl]; rfl)
          | false => rw [h6 hl, riseTo_not (by rw [riseAt_next hs hr (by omega) hok, hl]) hlt]; rfl
  exact key l.length 0 (by omega) (riseTo_zero ok lt l)
end Go.Proofs.Ytkinlkmmelkdnaa.QOrd

/- Chapter 8: rates: the plain functions of the program and of the reference agree, and the laws answer true. (QRiseL) No condition but those of each theorem. -/
namespace Go.Proofs.Ytkinlkmmelkdnaa.QRiseL
set_option linter.unusedVariables false
set_option linter.unusedSimpArgs false
open Go.RowKit
open Go.Proofs.Ytkinlkmmelkdnaa.GoP Go.Proofs.Ytkinlkmmelkdnaa.PlainStamp Go.Proofs.Ytkinlkmmelkdnaa.QBase Go.Proofs.Ytkinlkmmelkdnaa.QOrd Go.Proofs.Ytkinlkmmelkdnaa.QLoop

/-- the same, for a loop that counts by itself and stops behind m: the list may be longer than m -/
theorem rise_lp {α R : Type} {ok : α → Bool} {lt : α → α → Bool} {l : List α} {m : Nat} {no : R} {yes : Option R} {f : Int → (Int → Option R) → (Int → Option R) → Option R} {fin : Int → Option R}
    (stop : ∀ (k : Nat) nx, (l.length ≤ k ∨ m < k) → k ≤ l.length → k ≤ m + 1 → f (k : Int) nx fin = fin (k : Int))
    (end_ : ∀ k : Int, fin k = if l.length ≤ m then yes else some no)
    (step : ∀ (k : Nat) nx s, k ≤ m → l[k]? = some s → (ok s = false → f (k : Int) nx fin = some no) ∧ (ok s = true → (k = 0 → f (k : Int) nx fin = nx ((k + 1 : Nat) : Int)) ∧ (0 < k → ∀ r, l[k-1]? = some r → ok r = true → (lt r s = true → f (k : Int) nx fin = nx ((k + 1 : Nat) : Int)) ∧ (lt r s = false → f (k : Int) nx fin = some no)))) :
    ∀ fuel k, m + 1 - k < fuel → k ≤ l.length → k ≤ m + 1 → riseTo ok lt l k = true → loopK f fuel (k : Int) fin = if riseL m ok lt l = true then yes else some no := by
  intro fuel
  induction fuel with
  | zero => intro k h; omega
  | succ n ih =>
    intro k hf hk hm hu
    show f (k : Int) (fun s' => loopK f n s' fin) fin = _
    by_cases hs : l.length ≤ k ∨ m < k
    · rw [stop k _ hs hk hm, end_]
      by_cases hl : l.length ≤ m
      · obtain rfl : k = l.length := by omega
        rw [if_pos hl, if_pos (by unfold riseL; simp [hl, hu])]
      · rw [if_neg hl, if_neg (by unfold riseL; simp [hl])]
    · have hlt : k < l.length := by omega
      obtain ⟨s, hs', _⟩ := at_lt hlt
      obtain ⟨h1, h2⟩ := step k (fun s' => loopK f n s' fin) s (by omega) hs'
      have bad : riseAt ok lt l k = false → riseL m ok lt l = false := by
        intro h; unfold riseL; rw [riseTo_not h hlt, Bool.and_false]
      cases hok : ok s with
      | false => rw [h1 hok, bad (riseAt_bad hs' hok)]; rfl
      | true =>
        obtain ⟨h3, h4⟩ := h2 hok
        by_cases hk0 : k = 0
        · rw [h3 hk0]
          subst hk0
          exact ih 1 (by omega) (by omega) (by omega) (by rw [riseTo_succ, hu, riseAt_first hs' hok]; rfl)
        · obtain ⟨r, hr, _⟩ := at_lt (l := l) (k := k - 1) (by omega)
          have hokr : ok r = true := by
            have := riseTo_at hu (k := k - 1) (by omega)
            unfold riseAt at this; rw [hr] at this
            simp only [Bool.and_eq_true] at this; exact this.1
          obtain ⟨h5, h6⟩ := h4 (by omega) r hr hokr
          cases hl : lt r s with
          | true =>
            rw [h5 hl]
            exact ih (k + 1) (by omega) (by omega) (by omega) (by rw [riseTo_succ, hu, riseAt_next hs' hr (by omega) hok, hl]; rfl)
          | false => rw [h6 hl, bad (by rw [riseAt_next hs' hr (by omega) hok, hl])]; rfl
/-- what each step gives holds between any two -/
theorem riseL_rel {α : Type} {m : Nat} {ok : α → Bool} {lt : α → α → Bool} (rel : α → α → Prop) (st : ∀ a b, ok a = true → ok b = true → lt a b = true → rel a b) (tr : ∀ a b c, rel a b → rel b c → rel a c) {l : List α} (h : riseL m ok lt l = true) {i j : Nat} {x y : α} (hij : i < j) (hx : l[i]? = some x) (hy : l[j]? = some y) : rel x y := by
  obtain ⟨d, rfl⟩ : ∃ d, j = i + d + 1 := ⟨j - i - 1, by omega⟩
  clear hij
  induction d generalizing y with
  | zero => exact st _ _ (riseL_ok h hx) (riseL_ok h hy) (riseL_step h hx hy)
  | succ d ih =>
    obtain ⟨z, hz, _⟩ := at_lt (l := l) (k := i + d + 1) (by have := (List.getElem?_eq_some_iff.1 hy).1; omega)
    exact tr _ _ _ (ih hz) (st _ _ (riseL_ok h hz) (riseL_ok h hy) (riseL_step (k := i + d + 1) h hz (by rw [← hy]; rfl)))
end Go.Proofs.Ytkinlkmmelkdnaa.QRiseL

/- Chapter 8: rates: the plain functions of the program and of the reference agree, and the laws answer true. (Q8Rate) No condition but those of each theorem. -/
namespace Go.Proofs.Ytkinlkmmelkdnaa.Q8Rate
set_option linter.unusedVariables false
set_option linter.unusedSimpArgs false
open Go.RowKit
open Go.Proofs.Ytkinlkmmelkdnaa.GoP Go.Proofs.Ytkinlkmmelkdnaa.PlainStamp Go.Proofs.Ytkinlkmmelkdnaa.QBase Go.Proofs.Ytkinlkmmelkdnaa.QLoop Go.Proofs.Ytkinlkmmelkdnaa.PRate Go.Proofs.Ytkinlkmmelkdnaa.PrateClass

theorem isZone_eq (n : Int) : GiIsZone.P n = some (inB n 0 9) := by simp only [GiIsZone.P, within_eq, Option.bind_some]
theorem isWeight_eq (n : Int) : GiIsWeight.P n = some (inB n 1 2000) := by simp only [GiIsWeight.P, within_eq, Option.bind_some]
theorem isRateCents_eq (n : Int) : GiIsRateCents.P n = some (inB n 1 9999) := by simp only [GiIsRateCents.P, within_eq, Option.bind_some]
theorem isDay_eq (n : Int) : GiIsDay.P n = some (inB n 0 4000) := by simp only [GiIsDay.P, within_eq, Option.bind_some]
theorem l8Zone_eq (n : Int) : GsL8Zone.P n = some (inB n 0 9) := by simp only [GsL8Zone.P, l1In_eq, Option.bind_some]
theorem l8Grams_eq (n : Int) : GsL8Grams.P n = some (inB n 1 2000) := by simp only [GsL8Grams.P, l1In_eq, Option.bind_some]
theorem l8Cents_eq (n : Int) : GsL8Cents.P n = some (inB n 1 9999) := by simp only [GsL8Cents.P, l1In_eq, Option.bind_some]
theorem l2Day_eq (n : Int) : GsL2Day.P n = some (inB n 0 4000) := by simp only [GsL2Day.P, l1In_eq, Option.bind_some]
def okR (x : Rate) : Bool := inB x.zone 0 9 && inB x.grams 1 2000 && inB x.cents 1 9999 && inB x.from_ 0 4000 && inB x.until_ 0 4000 && decide (x.from_ ≤ x.until_)
theorem isRate_eq (x : Rate) : GiIsRate.P x = some (okR x) := by
  obtain ⟨a, b, c, d, e⟩ := x
  simp only [GiIsRate.P, unRate, isZone_eq, isWeight_eq, isRateCents_eq, isDay_eq, Option.bind_some, letK, joinK, appK, iteK_if, okR]
  cases inB a 0 9 <;> cases inB b 1 2000 <;> cases inB e 1 9999 <;> cases inB c 0 4000 <;> cases inB d 0 4000 <;> simp
theorem l8One_eq (x : Rate) : GsL8One.P x = some (okR x) := by
  obtain ⟨a, b, c, d, e⟩ := x
  have hx : (inB d 0 4000 && inB c 0 d) = (inB c 0 4000 && inB d 0 4000 && decide (c ≤ d)) := by unfold inB; rw [Bool.eq_iff_iff]; simp; omega
  have hy : okR ⟨a, b, c, d, e⟩ = (inB a 0 9 && inB b 1 2000 && (inB d 0 4000 && inB c 0 d) && inB e 1 9999) := by
    rw [hx]; unfold okR
    cases inB a 0 9 <;> cases inB b 1 2000 <;> cases inB e 1 9999 <;> simp
  rw [hy]
  simp only [GsL8One.P, unRate, l8Zone_eq, l8Grams_eq, l8Cents_eq, l2Day_eq, l1In_eq, Option.bind_some, letK, joinK, appK, iteK_if]
  cases inB a 0 9 <;> cases inB b 1 2000 <;> cases inB d 0 4000 <;> cases inB c 0 d <;> simp
theorem okR_of {x : Rate} (h : okR x = true) : (0 ≤ x.zone ∧ x.zone ≤ 9) ∧ (1 ≤ x.grams ∧ x.grams ≤ 2000) ∧ (1 ≤ x.cents ∧ x.cents ≤ 9999) ∧ (0 ≤ x.from_ ∧ x.from_ ≤ x.until_ ∧ x.until_ ≤ 4000) := by
  unfold okR at h
  simp only [Bool.and_eq_true, decide_eq_true_eq] at h
  have h1 := inB_of h.1.1.1.1.1
  have h2 := inB_of h.1.1.1.1.2
  have h3 := inB_of h.1.1.1.2
  have h4 := inB_of h.1.1.2
  have h5 := inB_of h.1.2
  omega
def linkR (a b : Rate) : Bool := if a.zone = b.zone ∧ a.grams = b.grams then decide (a.until_ < b.from_) else decide (a.zone < b.zone ∨ a.zone = b.zone ∧ a.grams < b.grams)
theorem compare_eq (x y : Int) : GxCmpCompareInt.P x y = some (if x < y then -1 else if y < x then 1 else 0) := by
  simp only [GxCmpCompareInt.P, GxCmpIsNaNInt.P, Option.bind_some, letK, iteK_if]
  by_cases h : x < y <;> by_cases h2 : y < x <;> simp [h, h2]
theorem or_eq (a b : Int) : GxCmpOrInt.P [a, b] = some (if a = 0 then b else a) := by
  have h0 : idx [a, b] ((0 : Nat) : Int) = some a := rfl
  have h1 : idx [a, b] ((1 : Nat) : Int) = some b := rfl
  show cntK (GxCmpOrInt.l0 [a, b]) 2 0 () GxCmpOrInt.e0 = _
  simp only [cntK, GxCmpOrInt.l0, h0, h1, Option.bind_some, letK, iteK_if, appK, GxCmpOrInt.e0, Nat.zero_add]
  by_cases ha : a = 0 <;> by_cases hb : b = 0 <;> simp [ha, hb]
theorem canFollow_eq (b a : Rate) : GiCanFollow.P b a = some (linkR a b) := by
  obtain ⟨z, g, f, u, c⟩ := b
  obtain ⟨z2, g2, f2, u2, c2⟩ := a
  simp only [GiCanFollow.P, unRate, unrateClass, GiClassOf.P, Option.bind_some, letK, iteK_if, compare_eq, or_eq, linkR]
  by_cases h1 : z = z2
  · subst h1
    by_cases h2 : g = g2
    · subst h2; simp
    · have h3 : ¬ g2 = g := fun h => h2 h.symm
      by_cases h4 : g2 < g
      · simp [h2, h3, h4]
      · by_cases h5 : g < g2
        · simp [h2, h3, h4, h5]
        · omega
  · have h3 : ¬ z2 = z := fun h => h1 h.symm
    by_cases h4 : z2 < z
    · simp [h1, h3, h4]
    · by_cases h5 : z < z2
      · simp [h1, h3, h4, h5]
      · omega
def codeR (x : Rate) : Int := (10000 * x.zone + x.grams) * 10000 + x.from_
theorem l8Code_eq {x : Rate} (h : okR x = true) : GsL8Code.P x = some (codeR x) := by
  have h1 := okR_of h
  obtain ⟨a, b, c, d, e⟩ := x
  dsimp only at h1
  simp only [GsL8Code.P, unRate, letK, codeR]
  rw [wrap_in (x := 10000 * a) (by omega) (by omega), wrap_in (x := 10000 * a + b) (by omega) (by omega), wrap_in (x := (10000 * a + b) * 10000) (by omega) (by omega), wrap_in (by omega) (by omega)]
theorem link_code {a b : Rate} (ha : okR a = true) (hb : okR b = true) : linkR a b = (decide (codeR a < codeR b) && !(decide (a.zone = b.zone) && decide (a.grams = b.grams) && decide (b.from_ ≤ a.until_))) := by
  have h1 := okR_of ha
  have h2 := okR_of hb
  unfold linkR codeR
  rw [Bool.eq_iff_iff]
  split
  · simp; omega
  · simp; omega
end Go.Proofs.Ytkinlkmmelkdnaa.Q8Rate

/- Chapter 8: rates: the plain functions of the program and of the reference agree, and the laws answer true. (Q8List) No condition but those of each theorem. -/
namespace Go.Proofs.Ytkinlkmmelkdnaa.Q8List
set_option linter.unusedVariables false
set_option linter.unusedSimpArgs false
open Go.RowKit
open Go.Proofs.Ytkinlkmmelkdnaa.GoP Go.Proofs.Ytkinlkmmelkdnaa.PlainStamp Go.Proofs.Ytkinlkmmelkdnaa.QBase Go.Proofs.Ytkinlkmmelkdnaa.QRiseL Go.Proofs.Ytkinlkmmelkdnaa.QOrd Go.Proofs.Ytkinlkmmelkdnaa.Q8Rate Go.Proofs.Ytkinlkmmelkdnaa.QLoop Go.Proofs.Ytkinlkmmelkdnaa.PRate

def okRs (l : List Rate) : Bool := riseL 16 okR linkR l
theorem areRates_eq (l : List Rate) (hl : l.length ≤ 9223372036854775807) : GiAreRates.P l = some (okRs l) := by
  simp only [GiAreRates.P, letK, iteK_if]
  by_cases h12 : l.length ≤ 16
  · rw [if_neg (by simp; omega), rise_loop (ok := okR) (lt := linkR) (no := false)]
    · unfold okRs riseL; cases riseTo okR linkR l l.length <;> simp [h12, GiAreRates.e0]
    · intro k nx s hs
      have hi : idx l (k : Int) = some s := by rw [idx_nat, hs]
      have hk : k < l.length := (List.getElem?_eq_some_iff.1 hs).1
      simp only [GiAreRates.l0, hi, Option.bind_some, unRate, isRate_eq, letK, joinK, appK, iteK_if]
      refine ⟨fun h => by simp [h], fun h => ⟨fun h0 => by subst h0; simp [h], fun h0 r hr => ?_⟩⟩
      rw [idx_pred h0 (by omega) hr]
      have hk0 : (0 : Int) < (k : Int) := by omega
      have hk1 : ¬ k = 0 := by omega
      exact ⟨fun hlt => by simp [h, hk0, hk1, canFollow_eq, hlt], fun hge => by simp [h, hk0, hk1, canFollow_eq, hge]⟩
  · rw [if_pos (by simp; omega)]; unfold okRs riseL; simp [h12]
theorem l8Good_eq {fuel : Nat} (l : List Rate) (hl : l.length ≤ 9223372036854775807) (hf : 17 < fuel) : GsL8Good.P fuel l = some (okRs l) := by
  simp only [GsL8Good.P]
  have key := rise_lp (ok := okR) (lt := linkR) (l := l) (m := 16) (no := false) (yes := some true) (f := GsL8Good.l0 l) (fin := GsL8Good.e0 l) ?_ ?_ ?_ fuel 0 (by omega) (by omega) (by omega) rfl
  · rw [show ((0 : Nat) : Int) = 0 from rfl] at key
    rw [key]; unfold okRs; cases riseL 16 okR linkR l <;> rfl
  · intro k nx hs h1 h2
    simp only [GsL8Good.l0, letK, joinK, appK, iteK_if]
    by_cases hk : l.length ≤ k
    · have : ¬ ((k : Int) < (l.length : Int)) := by omega
      simp [this]
    · have h3 : ((k : Int) < (l.length : Int)) := by omega
      have h4 : ¬ ((k : Int) ≤ 16) := by omega
      simp [h3, h4]
  · intro k
    simp only [GsL8Good.e0, letK]
    by_cases h : l.length ≤ 16
    · rw [if_pos h]; simp; omega
    · rw [if_neg h]; simp; omega
  · intro k nx s hk16 hs
    have hi : idx l (k : Int) = some s := by rw [idx_nat, hs]
    have hk : k < l.length := (List.getElem?_eq_some_iff.1 hs).1
    have h1 : ((k : Int) < (l.length : Int)) := by omega
    have h2 : (k : Int) ≤ 16 := by omega
    have hw : IntKind.i64.wrap ((k : Int) + 1) = ((k + 1 : Nat) : Int) := by rw [wrap_in (by omega) (by omega)]; omega
    simp only [GsL8Good.l0, letK, joinK, appK, iteK_if, decide_eq_true h1, decide_eq_true h2, if_true, hi, Option.bind_some, unRate, l8One_eq, hw]
    refine ⟨fun h => by simp [h], fun h => ⟨fun h0 => by subst h0; simp [h], fun h0 r hr hokr => ?_⟩⟩
    rw [idx_pred h0 (by omega) hr]
    have hk0 : (0 : Int) < (k : Int) := by omega
    have hk1 : ¬ k = 0 := by omega
    simp only [Option.bind_some, l8Code_eq h, l8Code_eq hokr, link_code hokr h]
    have he : ∀ x : Rate, Rate.mk x.zone x.grams x.from_ x.until_ x.cents = x := fun x => rfl
    simp only [h, decide_eq_true hk0, Bool.not_true, Bool.false_eq_true, if_false, if_true]
    constructor
    · intro hlt
      simp only [Bool.and_eq_true, decide_eq_true_eq, Bool.not_eq_true'] at hlt
      obtain ⟨c1, c2⟩ := hlt
      have : ¬ (codeR s ≤ codeR r) := by omega
      by_cases e1 : r.zone = s.zone
      · by_cases e2 : r.grams = s.grams
        · have e3 : ¬ (s.from_ ≤ r.until_) := by simpa [e1, e2] using c2
          simp [this, e1, e2, e3]
        · simp [this, e1, e2]
      · simp [this, e1]
    · intro hge
      by_cases c1 : codeR r < codeR s
      · have : ¬ (codeR s ≤ codeR r) := by omega
        simp only [decide_eq_true c1, Bool.true_and, Bool.not_eq_false', Bool.and_eq_true, decide_eq_true_eq] at hge
        simp [this, hge.1.1, hge.1.2, hge.2]
      · have : codeR s ≤ codeR r := by omega
        simp [this]
theorem rs_mem {l : List Rate} (h : okRs l = true) {x : Rate} (hx : x ∈ l) : okR x = true := riseL_mem h hx
end Go.Proofs.Ytkinlkmmelkdnaa.Q8List

/- loop.example/g01062/impl.canSend as a plain function, and the contract of the program's: where the plain one has an answer, the program has it. Conditions: slices read as lists. -/
namespace Go.Proofs.Ytkinlkmmelkdnaa.GiCanSend
set_option linter.unusedVariables false
set_option linter.unusedSimpArgs false
open Go.RowKit
open Go.Proofs.Ytkinlkmmelkdnaa.Rowed Go.Proofs.Ytkinlkmmelkdnaa.Turn Go.Proofs.Ytkinlkmmelkdnaa.Aid Go.Proofs.Ytkinlkmmelkdnaa.GoP Go.Proofs.Ytkinlkmmelkdnaa.GoM

def P (list : (List Go.Proofs.Ytkinlkmmelkdnaa.PRate.Rate)) (zone : Int) (grams : Int) : Option (Bool) :=
  Option.bind (Go.Proofs.Ytkinlkmmelkdnaa.GiAreRates.P list) fun (t_2 : Bool) =>
  joinK (fun (t_6 : Bool) =>
  joinK (fun (t_10 : Bool) =>
  some t_10) fun jt_10 => iteK t_6 (Option.bind (Go.Proofs.Ytkinlkmmelkdnaa.GiIsWeight.P grams) fun (t_9 : Bool) =>
  appK jt_10 t_9) (appK jt_10 false)) fun jt_6 => iteK t_2 (Option.bind (Go.Proofs.Ytkinlkmmelkdnaa.GiIsZone.P zone) fun (t_5 : Bool) =>
  appK jt_6 t_5) (appK jt_6 false)

set_option maxRecDepth 100000 in
set_option maxHeartbeats 2000000 in
theorem C (list : (List Go.Proofs.Ytkinlkmmelkdnaa.PRate.Rate)) (zone : Int) (grams : Int) (A0 : Option Addr) (c0 : Nat)  (w : World) (M0 : Hid (Cells w 5 A0 list.length (Go.Proofs.Ytkinlkmmelkdnaa.PRate.flat list))) (N0 : Hid (list.length ≤ 9223372036854775807))  {r : Bool} (H : Hid (P list zone grams = some r)) :
    Calls Try.prog 82 #[.slice A0 list.length c0, .int .i64 zone, .int .i64 grams] w (Gives (.bool r) w) := by
  have HB := Lib.hid (Below.refl w.heap.size w)
  unfold P at H
  have N0o := N0.out
  go_enter Try.func82, Try.ntmps82
  replace H := bind_hid H
  obtain ⟨t_2, qt_2, H⟩ := H
  go_wp2_with fail
  go_at_call 20
  refine (Go.Proofs.Ytkinlkmmelkdnaa.GiAreRates.C (list) A0 c0 _   (Lib.hid (Cells.below M0.out HB.out)) N0 qt_2).mono ?_
  rintro e_t_2 wt_2 ⟨rfl, bt_2⟩
  have HBwt_2 := Lib.hid (Below.step HB.out bt_2)
  clear bt_2
  replace H := join_hid H
  cases t_2 with
  | false =>
    replace H := ite_f H
    replace H := app_hid H
    replace H := join_hid H
    replace H := ite_f H
    replace H := app_hid H
    obtain rfl := ret_hid H
    go_wp2_with fail
    go_ret
    exact ⟨rfl, HBwt_2.out⟩
  | true =>
    replace H := ite_t H
    replace H := bind_hid H
    obtain ⟨t_5, qt_5, H⟩ := H
    go_wp2_with fail
    go_at_call 71
    refine (Go.Proofs.Ytkinlkmmelkdnaa.GiIsZone.C (zone)  _    qt_5).mono ?_
    rintro e_t_5 wt_5 ⟨rfl, bt_5⟩
    have HBwt_5 := Lib.hid (Below.step HBwt_2.out bt_5)
    clear bt_5
    replace H := app_hid H
    replace H := join_hid H
    cases t_5 with
    | false =>
      replace H := ite_f H
      replace H := app_hid H
      obtain rfl := ret_hid H
      go_wp2_with fail
      go_ret
      exact ⟨rfl, HBwt_5.out⟩
    | true =>
      replace H := ite_t H
      replace H := bind_hid H
      obtain ⟨t_9, qt_9, H⟩ := H
      go_wp2_with fail
      go_at_call 72
      refine (Go.Proofs.Ytkinlkmmelkdnaa.GiIsWeight.C (grams)  _    qt_9).mono ?_
      rintro e_t_9 wt_9 ⟨rfl, bt_9⟩
      have HBwt_9 := Lib.hid (Below.step HBwt_5.out bt_9)
      clear bt_9
      replace H := app_hid H
      obtain rfl := ret_hid H
      go_wp2_with fail
      go_ret
      exact ⟨rfl, HBwt_9.out⟩
end Go.Proofs.Ytkinlkmmelkdnaa.GiCanSend

/- Chapter 8: rates: the plain functions of the program and of the reference agree, and the laws answer true. (Q8For) No condition but those of each theorem. -/
namespace Go.Proofs.Ytkinlkmmelkdnaa.Q8For
set_option linter.unusedVariables false
set_option linter.unusedSimpArgs false
open Go.RowKit
open Go.Proofs.Ytkinlkmmelkdnaa.GoP Go.Proofs.Ytkinlkmmelkdnaa.PlainStamp Go.Proofs.Ytkinlkmmelkdnaa.QBase Go.Proofs.Ytkinlkmmelkdnaa.QFold Go.Proofs.Ytkinlkmmelkdnaa.QRiseL Go.Proofs.Ytkinlkmmelkdnaa.QOrd Go.Proofs.Ytkinlkmmelkdnaa.Q8List Go.Proofs.Ytkinlkmmelkdnaa.Q8Rate Go.Proofs.Ytkinlkmmelkdnaa.QLoop Go.Proofs.Ytkinlkmmelkdnaa.PRate

def onB (day zone grams : Int) (r : Rate) : Bool := decide (r.zone = zone) && decide (grams ≤ r.grams) && inB day r.from_ r.until_
def rateV (l : List Rate) (day zone grams : Int) : Int := match l.find? (onB day zone grams) with | some r => r.cents | none => 0
theorem rateOn_eq (l : List Rate) (day zone grams : Int) : GiRateOn.P l day zone grams = some (rateV l day zone grams) := by
  simp only [GiRateOn.P]
  rw [find_val (p := onB day zone grams) (yes := fun x => some x.cents)]
  · unfold rateV; cases l.find? (onB day zone grams) <;> rfl
  · intro k nx x hx
    have hi : idx l (k : Int) = some x := by rw [idx_nat, hx]
    simp only [GiRateOn.l0, hi, Option.bind_some, unRate, within_eq, letK, joinK, appK, iteK_if, onB]
    by_cases h1 : x.zone = zone <;> by_cases h2 : grams ≤ x.grams <;> simp [h1, h2]
theorem l8For_eq (l : List Rate) (day zone grams : Int) : GsL8For.P l day zone grams = some (rateV l day zone grams) := by
  simp only [GsL8For.P]
  rw [find_val (p := onB day zone grams) (yes := fun x => some x.cents)]
  · unfold rateV; cases l.find? (onB day zone grams) <;> rfl
  · intro k nx x hx
    have hi : idx l (k : Int) = some x := by rw [idx_nat, hx]
    simp only [GsL8For.l0, hi, Option.bind_some, unRate, l1In_eq, letK, joinK, appK, iteK_if, onB]
    by_cases h1 : x.zone = zone <;> by_cases h2 : grams ≤ x.grams <;> simp [h1, h2]
theorem rateV_nonneg {l : List Rate} (h : okRs l = true) (day zone grams : Int) : 0 ≤ rateV l day zone grams := by
  unfold rateV
  cases hf : l.find? (onB day zone grams) with
  | none => exact Int.le_refl _
  | some r => have := okR_of (rs_mem h (List.mem_of_find?_eq_some hf)); dsimp only; omega
theorem canSend_eq (l : List Rate) (zone grams : Int) (hl : l.length ≤ 9223372036854775807) : GiCanSend.P l zone grams = some (okRs l && inB zone 0 9 && inB grams 1 2000) := by
  simp only [GiCanSend.P, areRates_eq l hl, isZone_eq, isWeight_eq, Option.bind_some, joinK, appK, iteK_if]
  cases okRs l <;> cases inB zone 0 9 <;> simp
end Go.Proofs.Ytkinlkmmelkdnaa.Q8For

/- Chapter 8: rates: the plain functions of the program and of the reference agree, and the laws answer true. (Q8Cheap) No condition but those of each theorem. -/
namespace Go.Proofs.Ytkinlkmmelkdnaa.Q8Cheap
set_option linter.unusedVariables false
set_option linter.unusedSimpArgs false
open Go.RowKit
open Go.Proofs.Ytkinlkmmelkdnaa.GoP Go.Proofs.Ytkinlkmmelkdnaa.PlainStamp Go.Proofs.Ytkinlkmmelkdnaa.QBase Go.Proofs.Ytkinlkmmelkdnaa.QFold Go.Proofs.Ytkinlkmmelkdnaa.QRiseL Go.Proofs.Ytkinlkmmelkdnaa.QOrd Go.Proofs.Ytkinlkmmelkdnaa.Q8For Go.Proofs.Ytkinlkmmelkdnaa.Q8List Go.Proofs.Ytkinlkmmelkdnaa.Q8Rate Go.Proofs.Ytkinlkmmelkdnaa.QLoop Go.Proofs.Ytkinlkmmelkdnaa.PRate

theorem rateV_le {l : List Rate} (h : okRs l = true) (day zone grams : Int) : rateV l day zone grams ≤ 9999 := by
  unfold rateV
  cases hf : l.find? (onB day zone grams) with
  | none => dsimp only; omega
  | some r => have := okR_of (rs_mem h (List.mem_of_find?_eq_some hf)); dsimp only; omega
def stepC (l : List Rate) (day grams : Int) (s : List Int × Int) (k : Nat) : List Int × Int :=
  if rateV l day (k : Int) grams = 0 ∨ (0 < s.2 ∧ s.2 < rateV l day (k : Int) grams) then s
  else if rateV l day (k : Int) grams = s.2 then (s.1 ++ [(k : Int)], s.2) else ([(k : Int)], rateV l day (k : Int) grams)
def cheap (l : List Rate) (day grams : Int) : Nat → List Int × Int
  | 0 => ([], 0)
  | n + 1 => stepC l day grams (cheap l day grams n) n
theorem cheap_inv {l : List Rate} (h : okRs l = true) (day grams : Int) (n : Nat) : 0 ≤ (cheap l day grams n).2 ∧ (cheap l day grams n).2 ≤ 9999 ∧ (cheap l day grams n).1.length ≤ n := by
  induction n with
  | zero => simp [cheap]
  | succ n ih =>
    have h1 := rateV_nonneg h day (n : Int) grams
    have h2 := rateV_le h day (n : Int) grams
    show 0 ≤ (stepC l day grams (cheap l day grams n) n).2 ∧ (stepC l day grams (cheap l day grams n) n).2 ≤ 9999 ∧ (stepC l day grams (cheap l day grams n) n).1.length ≤ n + 1
    unfold stepC
    split
    · exact ⟨ih.1, ih.2.1, by omega⟩
    · split
      · refine ⟨ih.1, ih.2.1, ?_⟩
        rw [List.length_append]; simp; omega
      · exact ⟨h1, h2, by simp⟩
def cheapRes (l : List Rate) (day grams : Int) : List Int × Bool := if (okRs l && inB day 0 4000 && inB grams 1 2000) = true then ((cheap l day grams 10).1, true) else ([], false)
theorem cheap_len (l : List Rate) (day grams : Int) : (cheapRes l day grams).1.length ≤ 10 := by
  unfold cheapRes
  split
  · rename_i h
    simp only [Bool.and_eq_true] at h
    exact (cheap_inv h.1.1 day grams 10).2.2
  · simp
theorem cheap_impl (l : List Rate) (day grams : Int) (hl : l.length ≤ 9223372036854775807) : GiCheapestZones.P l day grams = some (cheapRes l day grams) := by
  have loop : okRs l = true → cntK (GiCheapestZones.l0 l day grams) 10 0 ([], 10000) GiCheapestZones.e0 = some ((cheap l day grams 10).1, true) := by
    intro h
    refine cnt_is _ (fun k (s : List Int × Int) => s = ((cheap l day grams k).1, if (cheap l day grams k).2 = 0 then 10000 else (cheap l day grams k).2)) ?_ ?_ _ rfl
    · rintro k s nx hk rfl hn
      obtain ⟨i1, i2, i3⟩ := cheap_inv h day grams k
      have h1 := rateV_nonneg h day (k : Int) grams
      have h2 := rateV_le h day (k : Int) grams
      have hst : cheap l day grams (k + 1) = stepC l day grams (cheap l day grams k) k := rfl
      obtain ⟨c, hc⟩ : ∃ c, rateV l day (k : Int) grams = c := ⟨_, rfl⟩
      obtain ⟨⟨z, m⟩, hs⟩ : ∃ s, cheap l day grams k = s := ⟨_, rfl⟩
      rw [hc] at h1 h2
      rw [hs] at i1 i2 i3
      unfold stepC at hst
      rw [hc, hs] at hst
      dsimp only at hst i1 i2 i3
      simp only [GiCheapestZones.l0, unp2, rateOn_eq, hc, hs, Option.bind_some, letK, joinK, appK, iteK_if, GiCheapestZones.j0]
      have ht : List.take (Int.toNat 0) z = [] := rfl
      by_cases c0 : c = 0
      · rw [if_pos (Or.inl c0)] at hst
        simp only [c0, beq_self_eq_true, if_true]
        exact hn _ (by rw [hst])
      · have c0b : (c == 0) = false := by simpa using c0
        by_cases m0 : m = 0
        · subst m0
          rw [if_neg (by omega), if_neg c0] at hst
          have a1 : ¬ (10000 < c) := by omega
          have a2 : c < 10000 := by omega
          simp only [c0b, Bool.false_eq_true, if_false, if_true, decide_eq_false a1, decide_eq_true a2, ht]
          rw [guardK_pos (by omega), guardK_pos (by simp)]
          refine hn _ ?_
          rw [hst]; simp [c0]
        · simp only [if_neg m0]
          by_cases a1 : m < c
          · rw [if_pos (Or.inr ⟨by omega, a1⟩)] at hst
            simp only [c0b, Bool.false_eq_true, if_false, if_true, decide_eq_true a1]
            refine hn _ ?_
            rw [hst]; simp [m0]
          · by_cases a2 : c < m
            · rw [if_neg (by omega), if_neg (by omega)] at hst
              simp only [c0b, Bool.false_eq_true, if_false, if_true, decide_eq_false a1, decide_eq_true a2, ht]
              rw [guardK_pos (by omega), guardK_pos (by simp)]
              refine hn _ ?_
              rw [hst]; simp [c0]
            · obtain rfl : c = m := by omega
              rw [if_neg (by omega), if_pos rfl] at hst
              simp only [c0b, Bool.false_eq_true, if_false, if_true, decide_eq_false a1]
              rw [guardK_pos (by omega)]
              refine hn _ ?_
              rw [hst]; simp [c0]
    · rintro s rfl; rfl
  simp only [GiCheapestZones.P, areRates_eq l hl, isDay_eq, isWeight_eq, Option.bind_some, letK, joinK, appK, iteK_if, cheapRes]
  cases hc : okRs l with
  | false => simp
  | true =>
    rw [loop hc]
    cases inB day 0 4000 <;> cases inB grams 1 2000 <;> simp
theorem cheap_spec {fuel : Nat} (l : List Rate) (day grams : Int) (hl : l.length ≤ 9223372036854775807) (hf : 17 < fuel) : GsCheapestZones.P fuel l day grams = some (cheapRes l day grams) := by
  have loop : okRs l = true → cntK (GsCheapestZones.l0 l day grams) 10 0 ([], 0) GsCheapestZones.e0 = some ((cheap l day grams 10).1, true) := by
    intro h
    refine cnt_is _ (fun k (s : List Int × Int) => s = cheap l day grams k) ?_ ?_ _ rfl
    · rintro k s nx hk rfl hn
      obtain ⟨i1, i2, i3⟩ := cheap_inv h day grams k
      have hst : cheap l day grams (k + 1) = stepC l day grams (cheap l day grams k) k := rfl
      obtain ⟨c, hc⟩ : ∃ c, rateV l day (k : Int) grams = c := ⟨_, rfl⟩
      obtain ⟨⟨z, m⟩, hs⟩ : ∃ s, cheap l day grams k = s := ⟨_, rfl⟩
      rw [hs] at i1 i2 i3
      unfold stepC at hst
      rw [hc, hs] at hst
      dsimp only at hst i1 i2 i3
      simp only [GsCheapestZones.l0, unp2, l8For_eq, hc, hs, Option.bind_some, letK, joinK, appK, iteK_if]
      by_cases c0 : c = 0
      · rw [if_pos (Or.inl c0)] at hst
        simp only [c0, beq_self_eq_true, if_true]
        exact hn _ (by rw [hst])
      · have c0b : (c == 0) = false := by simpa using c0
        by_cases m0 : 0 < m
        · by_cases a1 : m < c
          · rw [if_pos (Or.inr ⟨m0, a1⟩)] at hst
            simp only [c0b, Bool.false_eq_true, if_false, if_true, decide_eq_true m0, decide_eq_true a1]
            exact hn _ (by rw [hst])
          · rw [if_neg (by omega)] at hst
            by_cases e : c = m
            · rw [if_pos e] at hst
              subst e
              simp only [c0b, Bool.false_eq_true, if_false, if_true, decide_eq_true m0, decide_eq_false a1, beq_self_eq_true]
              rw [guardK_pos (by omega)]
              exact hn _ (by rw [hst])
            · rw [if_neg e] at hst
              have eb : (c == m) = false := by simpa using e
              simp only [c0b, Bool.false_eq_true, if_false, if_true, decide_eq_true m0, decide_eq_false a1, eb]
              exact hn _ (by rw [hst])
        · rw [if_neg (by omega), if_neg (by omega)] at hst
          have eb : (c == m) = false := by simp; omega
          simp only [c0b, Bool.false_eq_true, if_false, decide_eq_false m0, eb]
          exact hn _ (by rw [hst])
    · rintro s rfl; rfl
  simp only [GsCheapestZones.P, l8Good_eq l hl hf, l2Day_eq, l8Grams_eq, Option.bind_some, letK, joinK, appK, iteK_if, cheapRes]
  cases hc : okRs l with
  | false => simp
  | true =>
    rw [loop hc]
    cases inB day 0 4000 <;> cases inB grams 1 2000 <;> simp
end Go.Proofs.Ytkinlkmmelkdnaa.Q8Cheap

/- The laws' helpers on Rate and on slices of it as plain functions: copied, equal, their bulk. No condition. -/
namespace Go.Proofs.Ytkinlkmmelkdnaa.QHRateE
set_option linter.unusedVariables false
set_option linter.unusedSimpArgs false
open Go.RowKit
open Go.Proofs.Ytkinlkmmelkdnaa.GoP Go.Proofs.Ytkinlkmmelkdnaa.QBase Go.Proofs.Ytkinlkmmelkdnaa.QLoop Go.Proofs.Ytkinlkmmelkdnaa.PRate

theorem toOne (s : Rate) : GlToRate.P s = some s := by cases s; rfl
theorem eqOne (s : Rate) : GlEqRate.P s s = some true := by
  obtain ⟨x0, x1, x2, x3, x4⟩ := s
  simp [GlEqRate.P, unRate, letK, joinK, appK, iteK_if]
theorem toS (l : List Rate) (hl : l.length ≤ 1048576) : GlToRateS.P l = some l := by
  simp only [GlToRateS.P, letK]
  rw [guardK_pos (by omega)]
  refine cnt_is l (fun k s => s = l.take k ++ List.replicate (l.length - k) (Rate.mk 0 0 0 0 0)) ?_ ?_ _ (by simp)
  · intro k s nx hk hI hn
    obtain ⟨x, hx, hi⟩ := at_lt (l := l) (k := k) hk
    have hlen : s.length = l.length := by rw [hI]; simp; omega
    obtain ⟨z, hz, hj⟩ := at_lt (l := s) (k := k) (by omega)
    simp only [GlToRateS.l0, hi, hj, toOne, Option.bind_some, unRate, letK, appK]
    refine hn _ ?_
    rw [hI, take_next hx, List.set_append_right _ _ (by simp; omega)]
    have hr : l.length - k = (l.length - (k + 1)) + 1 := by omega
    rw [hr, List.replicate_succ, List.append_assoc]
    simp [show k - min k l.length = 0 by omega]
  · intro s hI
    rw [hI]; simp [GlToRateS.e0, letK]
theorem eqS (l : List Rate) : GlEqRateS.P l l = some true := by
  simp only [GlEqRateS.P, letK, iteK_if]
  rw [if_neg (by simp)]
  refine cnt_is true (fun _ _ => True) ?_ (fun s _ => rfl) () trivial
  intro k s nx hk _ hn
  obtain ⟨x, hx, hi⟩ := at_lt (l := l) (k := k) hk
  simp only [GlEqRateS.l0, hi, Option.bind_some, unRate, eqOne, letK, appK, iteK_if]
  exact hn () trivial
theorem szS (l : List Rate) (hl : l.length ≤ 9223372036854775807) : GlSzRateS.P l 1048576 = some (if l.length ≤ 1048576 then 1048576 - (l.length : Int) else -1) := by
  simp only [GlSzRateS.P, letK, iteK_if]
  rw [wrap_in (by omega) (by omega)]
  by_cases h : l.length ≤ 1048576
  · rw [if_neg (by simp; omega), if_pos h]
  · rw [if_pos (by simp; omega), if_neg h]
end Go.Proofs.Ytkinlkmmelkdnaa.QHRateE

/- The laws' helper that marks a slice of Rate as a plain function. No condition. -/
namespace Go.Proofs.Ytkinlkmmelkdnaa.QHRate
set_option linter.unusedVariables false
set_option linter.unusedSimpArgs false
open Go.RowKit
open Go.Proofs.Ytkinlkmmelkdnaa.GoP Go.Proofs.Ytkinlkmmelkdnaa.QBase Go.Proofs.Ytkinlkmmelkdnaa.QLoop Go.Proofs.Ytkinlkmmelkdnaa.PRate 
theorem set_at {α : Type} {l : List α} {k : Nat} (x : α) (h : k < l.length) : idx (l.set k x) (k : Int) = some x := by rw [idx_nat, List.getElem?_set_self h]
theorem markS (l : List Rate) (hl : l.length ≤ 1048576) : ∃ v l', GlMarkRateS.P l 1 = some (v, l') ∧ 0 ≤ v := by
  obtain ⟨⟨v, l'⟩, h, hv⟩ : ∃ r : Int × List Rate, GlMarkRateS.P l 1 = some r ∧ 0 ≤ r.1 := by
    simp only [GlMarkRateS.P]
    refine cnt_ex (n := l.length) (Q := fun r : Int × List Rate => 0 ≤ r.1) (fun k (s : List Rate × Int) => s.1.length = l.length ∧ s.2 = 5 * (k : Int) + 1) ?_ ?_ l.length 0 (l, 1) (by omega) ⟨rfl, rfl⟩
    · rintro k ⟨a, b⟩ nx hk ⟨h1, h2⟩ hn
      dsimp only at h1 h2
      obtain ⟨x, hx, hi⟩ := at_lt (l := a) (k := k) (by omega)
      have ha : k < a.length := by omega
      have w1 : IntKind.i64.wrap (b + 1) = b + 1 := wrap_in (by omega) (by omega)
      have w2 : IntKind.i64.wrap (b + 1 + 1) = b + 1 + 1 := wrap_in (by omega) (by omega)
      have w3 : IntKind.i64.wrap (b + 1 + 1 + 1) = b + 1 + 1 + 1 := wrap_in (by omega) (by omega)
      have w4 : IntKind.i64.wrap (b + 1 + 1 + 1 + 1) = b + 1 + 1 + 1 + 1 := wrap_in (by omega) (by omega)
      have w5 : IntKind.i64.wrap (b + 1 + 1 + 1 + 1 + 1) = b + 1 + 1 + 1 + 1 + 1 := wrap_in (by omega) (by omega)
      simp (disch := simp [ha]) only [GlMarkRateS.l0, unp2, hi, set_at, Option.bind_some, unRate, letK, appK, w1, w2, w3, w4, w5]
      exact hn _ ⟨by simpa using h1, by dsimp only; omega⟩
    · rintro ⟨a, b⟩ ⟨h1, h2⟩
      exact ⟨_, rfl, by dsimp only at h2 ⊢; omega⟩
  exact ⟨v, l', h, hv⟩
end Go.Proofs.Ytkinlkmmelkdnaa.QHRate

/- The laws' helpers on slices of ints as plain functions: equal, marked, held. Condition: at most 2^40 numbers. -/
namespace Go.Proofs.Ytkinlkmmelkdnaa.QInt
set_option linter.unusedVariables false
set_option linter.unusedSimpArgs false
open Go.RowKit
open Go.Proofs.Ytkinlkmmelkdnaa.GoP Go.Proofs.Ytkinlkmmelkdnaa.QBase Go.Proofs.Ytkinlkmmelkdnaa.QLoop

theorem eqI (l : List Int) : GlEqIntS.P l l = some true := by
  simp only [GlEqIntS.P, letK, iteK_if]
  rw [if_neg (by simp)]
  refine cnt_is true (fun _ _ => True) ?_ (fun s _ => rfl) () trivial
  intro k s nx hk _ hn
  obtain ⟨x, hx, hi⟩ := at_lt (l := l) (k := k) hk
  simp only [GlEqIntS.l0, hi, Option.bind_some, letK, appK, iteK_if]
  rw [if_neg (by simp)]
  exact hn () trivial
/-- 1, 2, 3 .. -/
def ups (n : Nat) : List Int := (List.range n).map (fun i : Nat => (i : Int) + 1)
theorem ups_at {n k : Nat} (h : k < n) : (ups n)[k]? = some ((k : Int) + 1) := by unfold ups; simp [h]
theorem ups_len (n : Nat) : (ups n).length = n := by simp [ups]
theorem markI (l : List Int) (hl : l.length ≤ 1099511627776) : GlMarkIntS.P l 1 = some ((l.length : Int) + 1, ups l.length) := by
  simp only [GlMarkIntS.P]
  refine cnt_is _ (fun k s => s.1.length = l.length ∧ s.2 = (k : Int) + 1 ∧ ∀ i, i < k → s.1[i]? = some ((i : Int) + 1)) ?_ ?_ (l, 1) ⟨rfl, rfl, fun i hi => by omega⟩
  · rintro k ⟨a, b⟩ nx hk ⟨h1, h2, h3⟩ hn
    dsimp only at h1 h2 h3
    obtain ⟨x, hx, hi⟩ := at_lt (l := a) (k := k) (by omega)
    simp only [GlMarkIntS.l0, unp2, hi, Option.bind_some, letK, appK]
    rw [wrap_in (by omega) (by omega)]
    refine hn _ ⟨by simpa using h1, by dsimp only; omega, fun i hi2 => ?_⟩
    dsimp only
    by_cases he : i = k
    · subst he; rw [List.getElem?_set_self (by omega), h2]
    · rw [List.getElem?_set_ne (by omega)]; exact h3 i (by omega)
  · rintro ⟨a, b⟩ ⟨h1, h2, h3⟩
    dsimp only at h1 h2 h3
    have : a = ups l.length := by
      apply List.ext_getElem?
      intro i
      by_cases hi : i < l.length
      · rw [h3 i hi, ups_at hi]
      · rw [List.getElem?_eq_none (by omega), List.getElem?_eq_none (by rw [ups_len]; omega)]
    simp only [GlMarkIntS.e0, unp2]
    rw [this, h2]
theorem heldI (n : Nat) (hl : n ≤ 1099511627776) : GlHeldIntS.P (ups n) 1 = some ((n : Int) + 1) := by
  simp only [GlHeldIntS.P]
  refine cnt_is _ (fun k s => s = (k : Int) + 1) ?_ ?_ 1 rfl
  · intro k s nx hk hI hn
    rw [ups_len] at hk
    have hi : idx (ups n) (k : Int) = some ((k : Int) + 1) := by rw [idx_nat, ups_at hk]
    simp only [GlHeldIntS.l0, hi, Option.bind_some, letK, appK, iteK_if]
    rw [if_neg (by simp [hI]), wrap_in (by omega) (by omega)]
    exact hn _ (by omega)
  · intro s hI
    simp only [GlHeldIntS.e0, letK]
    rw [hI, ups_len]
/-- a loop that gathers -/
theorem gather {α β R : Type} {l : List α} {p : α → Bool} {g : α → β} {f : Nat → List β → (List β → Option R) → (List β → Option R) → Option R} {fin : List β → Option R} (hl : l.length ≤ 1099511627776)
    (step : ∀ k nx x s, l[k]? = some x → s.length ≤ 1099511627776 → f k s nx fin = nx (if p x then s ++ [g x] else s)) : cntK f l.length 0 [] fin = fin ((l.filter p).map g) := by
  have key : ∀ m k, k + m = l.length → cntK f m k (((l.take k).filter p).map g) fin = fin ((l.filter p).map g) := by
    intro m
    induction m with
    | zero => intro k hk; obtain rfl : k = l.length := by omega
              rw [List.take_of_length_le (Nat.le_refl _)]; rfl
    | succ m ih =>
      intro k hk
      obtain ⟨x, hx, _⟩ := at_lt (l := l) (k := k) (by omega)
      show f k _ _ fin = _
      have hle : (((l.take k).filter p).map g).length ≤ 1099511627776 := by
        rw [List.length_map]
        have := List.length_filter_le p (l.take k)
        rw [List.length_take] at this
        omega
      rw [step k _ x _ hx hle, ← ih (k + 1) (by omega), take_next hx, List.filter_append, List.map_append]
      cases hp : p x <;> simp [List.filter, hp]
  exact key l.length 0 (by omega)
end Go.Proofs.Ytkinlkmmelkdnaa.QInt

/- Chapter 8: rates: the plain functions of the program and of the reference agree, and the laws answer true. (QL8Cheap) No condition but those of each theorem. -/
namespace Go.Proofs.Ytkinlkmmelkdnaa.QL8Cheap
set_option linter.unusedVariables false
set_option linter.unusedSimpArgs false
open Go.RowKit
open Go.Proofs.Ytkinlkmmelkdnaa.GoP Go.Proofs.Ytkinlkmmelkdnaa.PlainStamp Go.Proofs.Ytkinlkmmelkdnaa.QBase Go.Proofs.Ytkinlkmmelkdnaa.Q8Cheap Go.Proofs.Ytkinlkmmelkdnaa.QLoop Go.Proofs.Ytkinlkmmelkdnaa.PRate Go.Proofs.Ytkinlkmmelkdnaa.QHRateE Go.Proofs.Ytkinlkmmelkdnaa.QHRate Go.Proofs.Ytkinlkmmelkdnaa.QInt

theorem law_cheap {fuel : Nat} (l : List Rate) (day grams : Int) (hl : l.length ≤ 9223372036854775807) (hf : 17 < fuel) : GlFnExactCheapestZones.P fuel l day grams = some true := by
  simp only [GlFnExactCheapestZones.P, szS l hl, Option.bind_some, letK, iteK_if]
  by_cases hb : l.length ≤ 1048576
  · rw [if_neg (by rw [if_pos hb]; simp; omega)]
    obtain ⟨⟨a, b⟩, hr⟩ : ∃ x, x = cheapRes l day grams := ⟨_, rfl⟩
    have hlen := cheap_len l day grams
    rw [← hr] at hlen
    dsimp only at hlen
    obtain ⟨v2, l2, hm, hv2⟩ := markS l hb
    have hv3 : ¬ v2 < 0 := by omega
    have hv4 : ¬ (a.length : Int) + 1 < 0 := by omega
    simp [toS l hb, cheap_spec l day grams hl hf, cheap_impl l day grams hl, ← hr, bind2, joinK, appK, iteK_if, eqS, eqI, hm, hv3, markI a (by omega), heldI a.length (by omega), hv4]
  · rw [if_pos (by rw [if_neg hb]; simp)]
end Go.Proofs.Ytkinlkmmelkdnaa.QL8Cheap

