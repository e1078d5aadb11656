/- Texts on which the proofs of several laws stand, one behind the other (6 of 17). No condition of their own. -/
import Derived.Test.YtihibckijdfidaaGreatChecked
import Derived.Test.YtihibckijdfidaaGreatX12P1
import Derived.Test.YtihibckijdfidaaGreatX12P5
import Derived.WalkKit
import Derived.Laws.StructEq
import Derived.ChangeKeysEq
import Derived.WalkSpells
import Derived.WalkLawsBesides
import Derived.BigQuiet
import Derived.OwnWalk
import Derived.Deep.LoopGhost
import Derived.Deep.QuietTactic
import Derived.IntWalk
import Derived.Lib.QuietBelow
import Derived.Deep.RegionHeld3
import Derived.Lib.SliceRun
import Derived.Lib.RowBridge
import Derived.Sort.EncStr
import Derived.Shelf.Strings.Builder1
import Derived.Shelf.Strings.Builder2
import Derived.Shelf.Strings.OnBuilder
import Derived.Shelf.Small.Bits
import Derived.Shelf.Small.Wraps
import Derived.Shelf.Strings.BuilderF
import Derived.Shelf.Strings.BuilderK
import Derived.Shelf.Strings.Builder2Cap
import Derived.Shelf.Strconv.Itoa0
import Derived.Shelf.Sort.Plain
import Derived.Shelf.Strings.BuilderCap
import Derived.Ground.Names2Prog
import Derived.Shelf.Slices.CompactI
import Derived.Shelf.Slices.SearchI
import Derived.Shelf.Slices.Cells
import Derived.Shelf.Slices.In.SortNone
import Derived.Test.YtihibckijdfidaaGreatProg
set_option linter.unusedVariables false
set_option linter.unusedSimpArgs false
namespace Go.Proofs.YtihibckijdfidaaGreat.GiCanFollow
open Go.RowKit
open Go.Proofs.YtihibckijdfidaaGreat.Rowed Go.Proofs.YtihibckijdfidaaGreat.Turn Go.Proofs.YtihibckijdfidaaGreat.Aid Go.Proofs.YtihibckijdfidaaGreat.GoP Go.Proofs.YtihibckijdfidaaGreat.GoM

def P (r_0 : Go.Proofs.YtihibckijdfidaaGreat.PRate.Rate) (before : Go.Proofs.YtihibckijdfidaaGreat.PRate.Rate) : Option (Bool) :=
  unRate r_0 fun (r_0_zone : Int) (r_0_grams : Int) (r_0_from_ : Int) (r_0_until_ : Int) (r_0_cents : Int) =>
  unRate before fun (before_zone : Int) (before_grams : Int) (before_from_ : Int) (before_until_ : Int) (before_cents : Int) =>
  Option.bind (Go.Proofs.YtihibckijdfidaaGreat.GiClassOf.P (Go.Proofs.YtihibckijdfidaaGreat.PRate.Rate.mk r_0_zone r_0_grams r_0_from_ r_0_until_ r_0_cents)) fun (t_4 : Go.Proofs.YtihibckijdfidaaGreat.PrateClass.rateClass) =>
  unrateClass t_4 fun (t_4_zone : Int) (t_4_grams : Int) =>
  Option.bind (Go.Proofs.YtihibckijdfidaaGreat.GiClassOf.P (Go.Proofs.YtihibckijdfidaaGreat.PRate.Rate.mk before_zone before_grams before_from_ before_until_ before_cents)) fun (t_6 : Go.Proofs.YtihibckijdfidaaGreat.PrateClass.rateClass) =>
  unrateClass t_6 fun (t_6_zone : Int) (t_6_grams : Int) =>
  letK (t_4_zone == t_6_zone && t_4_grams == t_6_grams) fun (t_7 : Bool) =>
  iteK t_7
  (letK (decide (before_until_ < r_0_from_)) fun (t_12 : Bool) =>
  some t_12)
  (Option.bind (Go.Proofs.YtihibckijdfidaaGreat.GxCmpCompareInt.P before_zone r_0_zone) fun (t_18 : Int) =>
  Option.bind (Go.Proofs.YtihibckijdfidaaGreat.GxCmpCompareInt.P before_grams r_0_grams) fun (t_23 : Int) =>
  letK ([t_18, t_23]) fun (t_24 : (List Int)) =>
  Option.bind (Go.Proofs.YtihibckijdfidaaGreat.GxCmpOrInt.P t_24) fun (t_25 : Int) =>
  letK (decide (t_25 < 0)) fun (t_26 : Bool) =>
  some t_26)

set_option maxRecDepth 100000
theorem eqr_114 (x0 x1 y0 y1 : Int) : ∀ W, (Op.equalIn 10000 114 (.agg #[Value.int IntKind.i64 x0, Value.int IntKind.i64 x1]) (.agg #[Value.int IntKind.i64 y0, Value.int IntKind.i64 y1])).run Tryz.prog W = .ok (x0 == y0 && x1 == y1) W := by
  intro W
  rw [run_equalIn_agg W _ _ _ _ (by kernel_rfl) (by kernel_rfl)]
  obtain ⟨f, hf⟩ : ∃ f, (Tryz.prog.fieldsOf 114).toList = f := ⟨_, rfl⟩
  have : (Tryz.prog.fieldsOf 114).toList.map (fun f => (f.name, f.type, f.offset)) = [("zone", 3, 0), ("grams", 3, 1)] := by kernel_rfl
  rw [hf] at this ⊢
  match f, this with
  | [f0, f1], h =>
    simp only [List.map_cons, List.map_nil, List.cons.injEq, Prod.mk.injEq, and_true] at h
    obtain ⟨⟨a0, b0, d0⟩, a1, b1, d1⟩ := h
    simp only [Op.eqFields, a0, b0, d0, a1, b1, d1]
    have p0 : ∀ (w : World) (x0 x1 : Int), (part 3 #[Value.int IntKind.i64 x0, Value.int IntKind.i64 x1] 0).run Tryz.prog w = .ok (.int .i64 x0) w := fun w x0 x1 => run_part_plain w (by kernel_rfl) rfl
    have p1 : ∀ (w : World) (x0 x1 : Int), (part 3 #[Value.int IntKind.i64 x0, Value.int IntKind.i64 x1] 1).run Tryz.prog w = .ok (.int .i64 x1) w := fun w x0 x1 => run_part_plain w (by kernel_rfl) rfl
    have e0 : ∀ (w : World) (d : Nat) (x y : Int), (Op.equalIn (d + 1) 3 (.int .i64 x) (.int .i64 y)).run Tryz.prog w = .ok (x == y) w := fun w d x y => run_equalIn_int w d 3 .i64 .i64 x y Tryz.underlying3
    have e1 : ∀ (w : World) (x y : Int), (Op.equalIn 9999 3 (.int .i64 x) (.int .i64 y)).run Tryz.prog w = .ok (x == y) w := fun w x y => e0 w 9998 x y
    rw [if_pos (by decide)]; rw [if_pos (by decide)]
    simp only [Sem.run_bind, p0, p1, e1, Result.andThen_ok, Sem.run_ite, Sem.run_pure]
    cases x0 == y0 <;> cases x1 == y1 <;> rfl
theorem eqla_114 (x0 x1 y0 y1 : Int) : ∀ W, (binOp .eql 114 (.agg #[Value.int IntKind.i64 x0, Value.int IntKind.i64 x1]) (.agg #[Value.int IntKind.i64 y0, Value.int IntKind.i64 y1])).run Tryz.prog W = .ok (.bool (x0 == y0 && x1 == y1)) W := by
  intro W
  rw [run_eql_struct, eqr_114]; rfl
theorem neqa_114 (x0 x1 y0 y1 : Int) : ∀ W, (binOp .neq 114 (.agg #[Value.int IntKind.i64 x0, Value.int IntKind.i64 x1]) (.agg #[Value.int IntKind.i64 y0, Value.int IntKind.i64 y1])).run Tryz.prog W = .ok (.bool (!(x0 == y0 && x1 == y1))) W := by
  intro W
  rw [run_neq_struct, eqr_114]; rfl

set_option maxRecDepth 100000 in
set_option maxHeartbeats 2000000 in
theorem C (r_0 : Go.Proofs.YtihibckijdfidaaGreat.PRate.Rate) (before : Go.Proofs.YtihibckijdfidaaGreat.PRate.Rate)   (w : World)   {r : Bool} (H : Hid (P r_0 before = some r)) :
    Calls Tryz.prog 97 #[r_0.val, before.val] w (Gives (.bool r) w) := by
  have HB := Lib.hid (Below.refl w.heap.size w); unfold P at H; obtain ⟨r_0_zone, r_0_grams, r_0_from_, r_0_until_, r_0_cents⟩ := r_0; replace H := unRate_hid H; obtain ⟨before_zone, before_grams, before_from_, before_until_, before_cents⟩ := before; replace H := unRate_hid H; unfold Go.Proofs.YtihibckijdfidaaGreat.PRate.Rate.val
  go_enter Tryz.func97, Tryz.ntmps97
  obtain ⟨w_r_0, hw_r_0⟩ : ∃ x, w.alloc (.cells #[.int .i64 r_0_zone, .int .i64 r_0_grams, .int .i64 r_0_from_, .int .i64 r_0_until_, .int .i64 r_0_cents] 88) = x := ⟨_, rfl⟩; have bw_r_0 : Below w.heap.size w w_r_0 := (by rw [← hw_r_0]; exact (Below.refl _ _).alloc (Nat.le_refl _) _); have HBw_r_0 := Lib.hid (Below.step HB.out bw_r_0); clear bw_r_0; have kr_0_0 : w_r_0.cell? ⟨w.heap.size, 0, none⟩ = some (.int .i64 r_0_zone) := (by rw [← hw_r_0]; exact box_new _ _ _ 0 _ rfl); have kr_0_1 : w_r_0.cell? ⟨w.heap.size, 1, none⟩ = some (.int .i64 r_0_grams) := (by rw [← hw_r_0]; exact box_new _ _ _ 1 _ rfl); have kr_0_2 : w_r_0.cell? ⟨w.heap.size, 2, none⟩ = some (.int .i64 r_0_from_) := (by rw [← hw_r_0]; exact box_new _ _ _ 2 _ rfl); have kr_0_3 : w_r_0.cell? ⟨w.heap.size, 3, none⟩ = some (.int .i64 r_0_until_) := (by rw [← hw_r_0]; exact box_new _ _ _ 3 _ rfl); have kr_0_4 : w_r_0.cell? ⟨w.heap.size, 4, none⟩ = some (.int .i64 r_0_cents) := (by rw [← hw_r_0]; exact box_new _ _ _ 4 _ rfl); obtain ⟨w_before_1, hw_before_1⟩ : ∃ x, w_r_0.alloc (.cells #[.int .i64 before_zone, .int .i64 before_grams, .int .i64 before_from_, .int .i64 before_until_, .int .i64 before_cents] 88) = x := ⟨_, rfl⟩; have bw_before_1 : Below w_r_0.heap.size w_r_0 w_before_1 := (by rw [← hw_before_1]; exact (Below.refl _ _).alloc (Nat.le_refl _) _); have HBw_before_1 := Lib.hid (Below.step HBw_r_0.out bw_before_1); have kr_0_0__698 := cell_below bw_before_1 kr_0_0; have kr_0_1__699 := cell_below bw_before_1 kr_0_1; have kr_0_2__700 := cell_below bw_before_1 kr_0_2; have kr_0_3__701 := cell_below bw_before_1 kr_0_3; have kr_0_4__702 := cell_below bw_before_1 kr_0_4; clear bw_before_1; have kbefore_1_0 : w_before_1.cell? ⟨w_r_0.heap.size, 0, none⟩ = some (.int .i64 before_zone) := (by rw [← hw_before_1]; exact box_new _ _ _ 0 _ rfl); have kbefore_1_1 : w_before_1.cell? ⟨w_r_0.heap.size, 1, none⟩ = some (.int .i64 before_grams) := (by rw [← hw_before_1]; exact box_new _ _ _ 1 _ rfl); have kbefore_1_2 : w_before_1.cell? ⟨w_r_0.heap.size, 2, none⟩ = some (.int .i64 before_from_) := (by rw [← hw_before_1]; exact box_new _ _ _ 2 _ rfl); have kbefore_1_3 : w_before_1.cell? ⟨w_r_0.heap.size, 3, none⟩ = some (.int .i64 before_until_) := (by rw [← hw_before_1]; exact box_new _ _ _ 3 _ rfl); have kbefore_1_4 : w_before_1.cell? ⟨w_r_0.heap.size, 4, none⟩ = some (.int .i64 before_cents) := (by rw [← hw_before_1]; exact box_new _ _ _ 4 _ rfl); go_wp2_with fail; clear kr_0_0 kr_0_1 kr_0_2 kr_0_3 kr_0_4; have Hkr_0_0__698 := Lib.hid kr_0_0__698; replace kr_0_0__698 := cell_regrown kr_0_0__698; have Hkr_0_1__699 := Lib.hid kr_0_1__699; replace kr_0_1__699 := cell_regrown kr_0_1__699; have Hkr_0_2__700 := Lib.hid kr_0_2__700; replace kr_0_2__700 := cell_regrown kr_0_2__700; have Hkr_0_3__701 := Lib.hid kr_0_3__701; replace kr_0_3__701 := cell_regrown kr_0_3__701; have Hkr_0_4__702 := Lib.hid kr_0_4__702; replace kr_0_4__702 := cell_regrown kr_0_4__702; have Hkbefore_1_0 := Lib.hid kbefore_1_0; replace kbefore_1_0 := cell_regrown kbefore_1_0; have Hkbefore_1_1 := Lib.hid kbefore_1_1; replace kbefore_1_1 := cell_regrown kbefore_1_1; have Hkbefore_1_2 := Lib.hid kbefore_1_2; replace kbefore_1_2 := cell_regrown kbefore_1_2; have Hkbefore_1_3 := Lib.hid kbefore_1_3; replace kbefore_1_3 := cell_regrown kbefore_1_3; have Hkbefore_1_4 := Lib.hid kbefore_1_4; replace kbefore_1_4 := cell_regrown kbefore_1_4; replace H := bind_hid H; obtain ⟨t_4, qt_4, H⟩ := H; obtain ⟨t_4_zone, t_4_grams⟩ := t_4; replace H := unrateClass_hid H; have nt_4 : ∀ d os, Calls Tryz.prog 103 #[.agg #[.int .i64 r_0_zone, .int .i64 r_0_grams, .int .i64 r_0_from_, .int .i64 r_0_until_, .int .i64 r_0_cents]] (Go.Sort.grow (redrawn w_before_1 d) os) fun e w'' => e = .returned (.agg #[.int .i64 t_4_zone, .int .i64 t_4_grams]) ∧ ∃ p : Regrown, w'' = Go.Sort.grow (redrawn w_before_1 p.d) p.os := fun d os => Calls.regrown_of (Go.Proofs.YtihibckijdfidaaGreat.GiClassOf.C ((Go.Proofs.YtihibckijdfidaaGreat.PRate.Rate.mk r_0_zone r_0_grams r_0_from_ r_0_until_ r_0_cents))  _    qt_4)
  replace H := bind_hid H; obtain ⟨t_6, qt_6, H⟩ := H; obtain ⟨t_6_zone, t_6_grams⟩ := t_6; replace H := unrateClass_hid H; have nt_6 : ∀ d os, Calls Tryz.prog 103 #[.agg #[.int .i64 before_zone, .int .i64 before_grams, .int .i64 before_from_, .int .i64 before_until_, .int .i64 before_cents]] (Go.Sort.grow (redrawn w_before_1 d) os) fun e w'' => e = .returned (.agg #[.int .i64 t_6_zone, .int .i64 t_6_grams]) ∧ ∃ p : Regrown, w'' = Go.Sort.grow (redrawn w_before_1 p.d) p.os := fun d os => Calls.regrown_of (Go.Proofs.YtihibckijdfidaaGreat.GiClassOf.C ((Go.Proofs.YtihibckijdfidaaGreat.PRate.Rate.mk before_zone before_grams before_from_ before_until_ before_cents))  _    qt_6); replace H := let_hid H; obtain ⟨t_7, ht_7, H⟩ := H; have ct_7 : ∀ W, (binOp .eql 114 (.agg #[.int .i64 t_4_zone, .int .i64 t_4_grams]) (.agg #[.int .i64 t_6_zone, .int .i64 t_6_grams])).run Tryz.prog W = .ok (.bool t_7) W := fun W => (by rw [eqla_114, ht_7]); refine wp_region_quiet_below (by kernel_rfl) (by kernel_rfl) ?_
  repeat (go_big_quiet_step (first | (go_at_call 103; with_reducible exact nt_4 _ _) | (go_at_call 103; with_reducible exact nt_6 _ _) | (go_at_call 103; exact nt_4 _ _) | (go_at_call 103; exact nt_6 _ _)))
  refine wpQuiet_nil ?_; intro Y1 hY1; replace hY1 := below_class hY1; clear nt_4 nt_6; replace kr_0_0__698 := Hkr_0_0__698.out; clear Hkr_0_0__698; replace kr_0_1__699 := Hkr_0_1__699.out; clear Hkr_0_1__699; replace kr_0_2__700 := Hkr_0_2__700.out; clear Hkr_0_2__700; replace kr_0_3__701 := Hkr_0_3__701.out; clear Hkr_0_3__701; replace kr_0_4__702 := Hkr_0_4__702.out; clear Hkr_0_4__702; replace kbefore_1_0 := Hkbefore_1_0.out; clear Hkbefore_1_0; replace kbefore_1_1 := Hkbefore_1_1.out; clear Hkbefore_1_1; replace kbefore_1_2 := Hkbefore_1_2.out; clear Hkbefore_1_2; replace kbefore_1_3 := Hkbefore_1_3.out; clear Hkbefore_1_3; replace kbefore_1_4 := Hkbefore_1_4.out; clear Hkbefore_1_4; have HBY1 := Lib.hid (Below.step HBw_before_1.out hY1); replace kr_0_0__698 := cell_below hY1 kr_0_0__698; replace kr_0_1__699 := cell_below hY1 kr_0_1__699; replace kr_0_2__700 := cell_below hY1 kr_0_2__700; replace kr_0_3__701 := cell_below hY1 kr_0_3__701; replace kr_0_4__702 := cell_below hY1 kr_0_4__702; replace kbefore_1_0 := cell_below hY1 kbefore_1_0; replace kbefore_1_1 := cell_below hY1 kbefore_1_1; replace kbefore_1_2 := cell_below hY1 kbefore_1_2; replace kbefore_1_3 := cell_below hY1 kbefore_1_3; replace kbefore_1_4 := cell_below hY1 kbefore_1_4; clear hY1
  cases t_7 with
  | false =>
    replace H := ite_f H; go_wp2_with fail; have bd3 : Below Y1.heap.size Y1 Y1.drew := (Below.refl _ _).drew; have HBY1.drew := Lib.hid (Below.step HBY1.out bd3); replace kr_0_0__698 := cell_below bd3 kr_0_0__698; replace kr_0_1__699 := cell_below bd3 kr_0_1__699; replace kr_0_2__700 := cell_below bd3 kr_0_2__700; replace kr_0_3__701 := cell_below bd3 kr_0_3__701; replace kr_0_4__702 := cell_below bd3 kr_0_4__702; replace kbefore_1_0 := cell_below bd3 kbefore_1_0; replace kbefore_1_1 := cell_below bd3 kbefore_1_1; replace kbefore_1_2 := cell_below bd3 kbefore_1_2; replace kbefore_1_3 := cell_below bd3 kbefore_1_3; replace kbefore_1_4 := cell_below bd3 kbefore_1_4; clear bd3; replace H := bind_hid H; obtain ⟨t_18, qt_18, H⟩ := H; replace H := bind_hid H; obtain ⟨t_23, qt_23, H⟩ := H; replace H := let_hid H; obtain ⟨t_24, ht_24, H⟩ := H; replace H := bind_hid H; obtain ⟨t_25, qt_25, H⟩ := H; replace H := let_hid H; obtain ⟨t_26, ht_26, H⟩ := H
    go_region_held3 (fun w' => w'.cell? ⟨w.heap.size, 0, none⟩ = some (.int .i64 r_0_zone) ∧ w'.cell? ⟨w.heap.size, 1, none⟩ = some (.int .i64 r_0_grams) ∧ w'.cell? ⟨w.heap.size, 2, none⟩ = some (.int .i64 r_0_from_) ∧ w'.cell? ⟨w.heap.size, 3, none⟩ = some (.int .i64 r_0_until_) ∧ w'.cell? ⟨w.heap.size, 4, none⟩ = some (.int .i64 r_0_cents) ∧ w'.cell? ⟨w_r_0.heap.size, 0, none⟩ = some (.int .i64 before_zone) ∧ w'.cell? ⟨w_r_0.heap.size, 1, none⟩ = some (.int .i64 before_grams) ∧ w'.cell? ⟨w_r_0.heap.size, 2, none⟩ = some (.int .i64 before_from_) ∧ w'.cell? ⟨w_r_0.heap.size, 3, none⟩ = some (.int .i64 before_until_) ∧ w'.cell? ⟨w_r_0.heap.size, 4, none⟩ = some (.int .i64 before_cents)) (first | exact ⟨kr_0_0__698, kr_0_1__699, kr_0_2__700, kr_0_3__701, kr_0_4__702, kbefore_1_0, kbefore_1_1, kbefore_1_2, kbefore_1_3, kbefore_1_4⟩ | exact ⟨kr_0_0__703, kr_0_1__704, kr_0_2__705, kr_0_3__706, kr_0_4__707, kbefore_1_0__708, kbefore_1_1__709, kbefore_1_2__710, kbefore_1_3__711, kbefore_1_4__712⟩)
        (first
          | (go_at_call 47
             refine (Go.Proofs.YtihibckijdfidaaGreat.GxCmpCompareInt.C (before_zone) (r_0_zone)  _    qt_18).mono ?_; rintro e_t_18 wt_18 ⟨rfl, bt_18⟩; have HBwt_18 := Lib.hid (Below.step HBY1.drew.out bt_18); replace kr_0_0__698 := cell_below bt_18 kr_0_0__698; replace kr_0_1__699 := cell_below bt_18 kr_0_1__699; replace kr_0_2__700 := cell_below bt_18 kr_0_2__700; replace kr_0_3__701 := cell_below bt_18 kr_0_3__701; replace kr_0_4__702 := cell_below bt_18 kr_0_4__702; replace kbefore_1_0 := cell_below bt_18 kbefore_1_0; replace kbefore_1_1 := cell_below bt_18 kbefore_1_1; replace kbefore_1_2 := cell_below bt_18 kbefore_1_2; replace kbefore_1_3 := cell_below bt_18 kbefore_1_3; replace kbefore_1_4 := cell_below bt_18 kbefore_1_4; clear bt_18
             clear qt_18)
          | (go_at_call 47
             refine (Go.Proofs.YtihibckijdfidaaGreat.GxCmpCompareInt.C (before_grams) (r_0_grams)  _    qt_23).mono ?_; rintro e_t_23 wt_23 ⟨rfl, bt_23⟩; have HBwt_23 := Lib.hid (Below.step HBwt_18.out bt_23); replace kr_0_0__698 := cell_below bt_23 kr_0_0__698; replace kr_0_1__699 := cell_below bt_23 kr_0_1__699; replace kr_0_2__700 := cell_below bt_23 kr_0_2__700; replace kr_0_3__701 := cell_below bt_23 kr_0_3__701; replace kr_0_4__702 := cell_below bt_23 kr_0_4__702; replace kbefore_1_0 := cell_below bt_23 kbefore_1_0; replace kbefore_1_1 := cell_below bt_23 kbefore_1_1; replace kbefore_1_2 := cell_below bt_23 kbefore_1_2; replace kbefore_1_3 := cell_below bt_23 kbefore_1_3; replace kbefore_1_4 := cell_below bt_23 kbefore_1_4; clear bt_23; clear qt_23; obtain ⟨w_t_24, hw_t_24⟩ : ∃ x, wt_23.alloc (.cells #[.int .i64 t_18, .int .i64 t_23] 3) = x := ⟨_, rfl⟩; have bw_t_24 : Below wt_23.heap.size wt_23 w_t_24 := (by rw [← hw_t_24]; exact (Below.refl _ _).alloc (Nat.le_refl _) _); have hs_t_24 := HBwt_23.out.size; have nt_24 : t_24.length = 2 := (by rw [← ht_24]; rfl)
             have Ot_24 : Hid (w_t_24.ownsRow w.heap.size 3 1 (.slice (some ⟨wt_23.heap.size, 0, none⟩) 2 2) 2 (Go.Proofs.YtihibckijdfidaaGreat.HelpInt.iv t_24)) := by
               rw [← hw_t_24, ← ht_24]; have e_ : ([.int .i64 t_18, .int .i64 t_23] : List Value) = (Go.Proofs.YtihibckijdfidaaGreat.HelpInt.iv ([t_18, t_23] : List Int)) := rfl; exact Lib.hid (own_laid (n := 2) hs_t_24 e_ rfl (by unfold maxLen; omega))
             clear hs_t_24; have hht_24 := Lib.hid ht_24; clear ht_24; replace nt_24 := Lib.hid nt_24; have Dt_24_r_0 := Lib.hid (apart_box kr_0_0__698); have Dt_24_before_1 := Lib.hid (apart_box kbefore_1_0); have HBw_t_24 := Lib.hid (Below.step HBwt_23.out bw_t_24); have kr_0_0__703 := cell_below bw_t_24 kr_0_0__698; have kr_0_1__704 := cell_below bw_t_24 kr_0_1__699; have kr_0_2__705 := cell_below bw_t_24 kr_0_2__700; have kr_0_3__706 := cell_below bw_t_24 kr_0_3__701; have kr_0_4__707 := cell_below bw_t_24 kr_0_4__702; have kbefore_1_0__708 := cell_below bw_t_24 kbefore_1_0; have kbefore_1_1__709 := cell_below bw_t_24 kbefore_1_1; have kbefore_1_2__710 := cell_below bw_t_24 kbefore_1_2; have kbefore_1_3__711 := cell_below bw_t_24 kbefore_1_3; have kbefore_1_4__712 := cell_below bw_t_24 kbefore_1_4
             clear bw_t_24)
          | (have hc0_ := nt_24.out
             have Oct_25_1 := Lib.hid (own_len hc0_ Ot_24.out); have con_ := Go.Proofs.YtihibckijdfidaaGreat.GxCmpOrInt.C (t_24) (some ⟨wt_23.heap.size, 0, none⟩) 2 _   (Lib.hid (own_cells Oct_25_1.out)) (Lib.hid (own_max Oct_25_1.out)) qt_25; rw [hc0_] at con_; clear hc0_ Oct_25_1; go_at_call 46; refine con_.mono ?_; rintro e_t_25 wt_25 ⟨rfl, bt_25⟩; have HBwt_25 := Lib.hid (Below.step HBw_t_24.out bt_25); replace kr_0_0__703 := cell_below bt_25 kr_0_0__703; replace kr_0_1__704 := cell_below bt_25 kr_0_1__704; replace kr_0_2__705 := cell_below bt_25 kr_0_2__705; replace kr_0_3__706 := cell_below bt_25 kr_0_3__706; replace kr_0_4__707 := cell_below bt_25 kr_0_4__707; replace kbefore_1_0__708 := cell_below bt_25 kbefore_1_0__708; replace kbefore_1_1__709 := cell_below bt_25 kbefore_1_1__709; replace kbefore_1_2__710 := cell_below bt_25 kbefore_1_2__710; replace kbefore_1_3__711 := cell_below bt_25 kbefore_1_3__711; replace kbefore_1_4__712 := cell_below bt_25 kbefore_1_4__712; replace Ot_24 := Lib.hid (own_below Ot_24.out bt_25); clear bt_25
             clear qt_25))
    try clear kr_0_0__698
    try clear kr_0_1__699
    try clear kr_0_2__700
    try clear kr_0_3__701
    try clear kr_0_4__702
    try clear kbefore_1_0
    try clear kbefore_1_1
    try clear kbefore_1_2
    try clear kbefore_1_3
    try clear kbefore_1_4
    obtain rfl := ret_hid H; go_wp2_with fail; go_ret; exact ⟨rfl, HBwt_25.out⟩
  | true =>
    replace H := ite_t H; replace H := let_hid H; obtain ⟨t_12, ht_12, H⟩ := H; obtain rfl := ret_hid H; go_wp2_with fail; go_ret; exact ⟨rfl, HBY1.out⟩
end Go.Proofs.YtihibckijdfidaaGreat.GiCanFollow

namespace Go.Proofs.YtihibckijdfidaaGreat.GiAreRates
open Go.RowKit
open Go.Proofs.YtihibckijdfidaaGreat.Rowed Go.Proofs.YtihibckijdfidaaGreat.Turn Go.Proofs.YtihibckijdfidaaGreat.Aid Go.Proofs.YtihibckijdfidaaGreat.GoP Go.Proofs.YtihibckijdfidaaGreat.GoM

def l0 (list : (List PRate.Rate)) (k0 : Nat) (s : Unit) (nx0 bk0 : Unit → Option (Bool)) : Option (Bool) :=
 
 Option.bind (idx list (k0 : Int)) fun (yt_10 : PRate.Rate) =>
 unRate yt_10 fun (t_10_zone : Int) (t_10_grams : Int) (t_10_from_ : Int) (t_10_until_ : Int) (t_10_cents : Int) =>
 Option.bind (GiIsRate.P (PRate.Rate.mk t_10_zone t_10_grams t_10_from_ t_10_until_ t_10_cents)) fun (t_16 : Bool) =>
 letK (!t_16) fun (t_17 : Bool) =>
 joinK (fun (t_31 : Bool) =>
 iteK t_31
 (some false)
 (appK nx0 ())) fun jt_31 => iteK t_17 (appK jt_31 true) (letK (decide (0 < (k0 : Int))) fun (t_20 : Bool) =>
 joinK (fun (t_30 : Bool) =>
 appK jt_31 t_30) fun jt_30 => iteK t_20 (letK (IntKind.i64.wrap ((k0 : Int) - 1)) fun (t_25 : Int) =>
 Option.bind (idx list t_25) fun (yt_26 : PRate.Rate) =>
 unRate yt_26 fun (t_26_zone : Int) (t_26_grams : Int) (t_26_from_ : Int) (t_26_until_ : Int) (t_26_cents : Int) =>
 Option.bind (GiCanFollow.P (PRate.Rate.mk t_10_zone t_10_grams t_10_from_ t_10_until_ t_10_cents) (PRate.Rate.mk t_26_zone t_26_grams t_26_from_ t_26_until_ t_26_cents)) fun (t_28 : Bool) =>
 letK (!t_28) fun (t_29 : Bool) =>
 appK jt_30 t_29) (appK jt_30 false))

def e0  (s : Unit) : Option (Bool) :=
 
 some true

def P (list : (List PRate.Rate)) : Option (Bool) :=
 letK (decide (16 < (list.length : Int))) fun (t_3 : Bool) =>
 iteK t_3
 (some false)
 (cntK (l0 list) (list.length) 0 () (e0 ))

set_option maxRecDepth 100000 in
set_option maxHeartbeats 2000000 in
theorem C (list : (List PRate.Rate)) (A0 : Option Addr) (c0 : Nat)  (w : World) (M0 : Hid (Cells w 5 A0 list.length (PRate.flat list))) (N0 : Hid (list.length ≤ 9223372036854775807))  {r : Bool} (H : Hid (P list = some r)) :
  Calls Tryz.prog 83 #[.slice A0 list.length c0] w (Gives (.bool r) w) := by
 have HB := Lib.hid (Below.refl w.heap.size w); unfold P at H; have N0o := N0.out
 go_enter Tryz.func83, Tryz.ntmps83
 replace H := let_hid H; obtain ⟨t_3, ht_3, H⟩ := H
 cases t_3 with
 | false =>
  have v12 : ¬ (16 < list.length) := (by have := of_decide_eq_false ht_3; omega); replace H := ite_f H; go_wp2_with fail; go_loopg [10] (list.length) (fun m_ v10_ wr => ∃ (k0 : Nat) , k0 + m_ = list.length ∧ v10_ = .int .i64 (k0 : Int) ∧ Hid (cntK (l0 list) m_ k0 () (e0 ) = some r) ∧ Hid (Below w.heap.size w wr))
  case atStart => exact ⟨0, by omega, rfl, H, HB⟩
  case round =>
   obtain ⟨k0, hkm0, rfl, H, d11⟩ := hrel; rename World => wr0
   cases gk with
   | zero =>
    obtain rfl : k0 = list.length := (by omega); have hc0 : decide (((list.length : Nat) : Int) < ((list.length : Nat) : Int)) = false := (by simp); replace H := cnt_zero H; unfold e0 at H; obtain rfl := ret_hid H; go_wp2_with fail; go_ret; exact ⟨rfl, d11.out⟩
   | succ m0 =>
    have hlt0 : k0 < list.length := (by omega); have hc0 : decide ((k0 : Int) < ((list.length : Nat) : Int)) = true := (by simp; omega); replace H := cnt_succ H; unfold l0 at H; replace H := idx_hid H; obtain ⟨r12, m12, t12, x12, n12, H⟩ := H; obtain rfl : k0 = r12 := (by omega); clear t12; obtain ⟨h11, g11, k11, j11, i11⟩ := m12; replace H := unRate_hid H; obtain ⟨f13, y12, a13, j12, c12, l11, m11, q11, o11, x11⟩ := ORate.at_ M0.out x12; obtain rfl := Option.some.inj (n12.out.symm.trans c12); subst j12; have b13 := cell_lt l11; replace l11 := cell_below d11.out l11; replace m11 := cell_below d11.out m11; replace q11 := cell_below d11.out q11; replace o11 := cell_below d11.out o11; replace x11 := cell_below d11.out x11; clear c12; have m13 : (0 : Int) ≤ (k0 : Int) := (by omega); have j13 : (k0 : Int) < ((list.length : Nat) : Int) := (by omega); have e13 : ((k0 : Int)).toNat = k0 := (by omega); obtain ⟨p10, f11⟩ : ∃ x, wr0.alloc (.cells #[.int .i64 h11, .int .i64 g11, .int .i64 k11, .int .i64 j11, .int .i64 i11] 88) = x := ⟨_, rfl⟩; have e11 : Below wr0.heap.size wr0 p10 := (by rw [← f11]; exact (Below.refl _ _).alloc (Nat.le_refl _) _); have q10 := Lib.hid (Below.step d11.out e11); have f10 := cell_below e11 l11; have g10 := cell_below e11 m11; have e10 := cell_below e11 q11; have h10 := cell_below e11 o11; have i10 := cell_below e11 x11; clear e11; have j10 : p10.cell? ⟨wr0.heap.size, 0, none⟩ = some (.int .i64 h11) := (by rw [← f11]; exact box_new _ _ _ 0 _ rfl); have d10 : p10.cell? ⟨wr0.heap.size, 1, none⟩ = some (.int .i64 g11) := (by rw [← f11]; exact box_new _ _ _ 1 _ rfl); have a10 : p10.cell? ⟨wr0.heap.size, 2, none⟩ = some (.int .i64 k11) := (by rw [← f11]; exact box_new _ _ _ 2 _ rfl); have c10 : p10.cell? ⟨wr0.heap.size, 3, none⟩ = some (.int .i64 j11) := (by rw [← f11]; exact box_new _ _ _ 3 _ rfl); have b10 : p10.cell? ⟨wr0.heap.size, 4, none⟩ = some (.int .i64 i11) := (by rw [← f11]; exact box_new _ _ _ 4 _ rfl); go_wp2_with fail; clear l11 m11 q11 o11 x11; have c11 := Lib.hid f10; replace f10 := cell_regrown f10; have z10 := Lib.hid g10; replace g10 := cell_regrown g10; have s10 := Lib.hid e10; replace e10 := cell_regrown e10; have b11 := Lib.hid h10; replace h10 := cell_regrown h10; have x10 := Lib.hid i10; replace i10 := cell_regrown i10; have v10 := Lib.hid j10; replace j10 := cell_regrown j10; have y10 := Lib.hid d10; replace d10 := cell_regrown d10; have r10 := Lib.hid a10; replace a10 := cell_regrown a10; have a11 := Lib.hid c10; replace c10 := cell_regrown c10; have t10 := Lib.hid b10; replace b10 := cell_regrown b10; replace H := bind_hid H; obtain ⟨t_16, k12, H⟩ := H; have w10 : ∀ d os, Calls Tryz.prog 96 #[.agg #[.int .i64 h11, .int .i64 g11, .int .i64 k11, .int .i64 j11, .int .i64 i11]] (Go.Sort.grow (redrawn p10 d) os) fun e w'' => e = .returned (.bool t_16) ∧ ∃ p : Regrown, w'' = Go.Sort.grow (redrawn p10 p.d) p.os := fun d os => Calls.regrown_of (GiIsRate.C ((PRate.Rate.mk h11 g11 k11 j11 i11))  _    k12)
    cases t_16 with
    | false =>
     replace H := let_hid H; obtain ⟨t_17, z11, H⟩ := H; obtain rfl : t_17 = true := z11.symm; replace H := join_hid H; replace H := ite_t H; replace H := app_hid H; refine wp_region_quiet_below (by kernel_rfl) (by kernel_rfl) ?_
     repeat (go_big_quiet_step (first | (go_at_call 96; exact w10 _ _)))
     refine wpQuiet_nil ?_; intro Y6 hY6; replace hY6 := below_class hY6; clear w10; replace f10 := c11.out; clear c11; replace g10 := z10.out; clear z10; replace e10 := s10.out; clear s10; replace h10 := b11.out; clear b11; replace i10 := x10.out; clear x10; replace j10 := v10.out; clear v10; replace d10 := y10.out; clear y10; replace a10 := r10.out; clear r10; replace c10 := a11.out; clear a11; replace b10 := t10.out; clear t10; have HBY6 := Lib.hid (Below.step q10.out hY6); replace f10 := cell_below hY6 f10; replace g10 := cell_below hY6 g10; replace e10 := cell_below hY6 e10; replace h10 := cell_below hY6 h10; replace i10 := cell_below hY6 i10; replace j10 := cell_below hY6 j10; replace d10 := cell_below hY6 d10; replace a10 := cell_below hY6 a10; replace c10 := cell_below hY6 c10; replace b10 := cell_below hY6 b10; clear hY6; replace H := ite_t H; obtain rfl := ret_hid H; go_wp2_with fail; go_ret; exact ⟨rfl, HBY6.out⟩
    | true =>
     replace H := let_hid H; obtain ⟨t_17, z11, H⟩ := H; obtain rfl : t_17 = false := z11.symm; replace H := join_hid H; replace H := ite_f H; replace H := let_hid H; obtain ⟨t_20, e12, H⟩ := H; replace H := join_hid H
     cases t_20 with
     | false =>
      have l12 : ¬ (0 < k0) := (by have := of_decide_eq_false e12; omega); replace H := ite_f H; replace H := app_hid H; replace H := app_hid H; refine wp_region_quiet_below (by kernel_rfl) (by kernel_rfl) ?_
      repeat (go_big_quiet_step (first | (go_at_call 96; exact w10 _ _)))
      refine wpQuiet_nil ?_; intro Y6 hY6; replace hY6 := below_class hY6; clear w10; replace f10 := c11.out; clear c11; replace g10 := z10.out; clear z10; replace e10 := s10.out; clear s10; replace h10 := b11.out; clear b11; replace i10 := x10.out; clear x10; replace j10 := v10.out; clear v10; replace d10 := y10.out; clear y10; replace a10 := r10.out; clear r10; replace c10 := a11.out; clear a11; replace b10 := t10.out; clear t10; have HBY6 := Lib.hid (Below.step q10.out hY6); replace f10 := cell_below hY6 f10; replace g10 := cell_below hY6 g10; replace e10 := cell_below hY6 e10; replace h10 := cell_below hY6 h10; replace i10 := cell_below hY6 i10; replace j10 := cell_below hY6 j10; replace d10 := cell_below hY6 d10; replace a10 := cell_below hY6 a10; replace c10 := cell_below hY6 c10; replace b10 := cell_below hY6 b10; clear hY6; replace H := ite_f H; replace H := app_hid H; go_wp2_with fail
      go_roundg m0
      case measure => omega
      case rel => exact ⟨k0 + 1, by omega, by go_num, H, HBY6⟩
     | true =>
      have l12 : 0 < k0 := (by have := of_decide_eq_true e12; omega); replace H := ite_t H; replace H := let_hid H; obtain ⟨t_25, h13, H⟩ := H; replace H := idx_hid H; obtain ⟨r11, o12, p12, w12, q12, H⟩ := H; subst p12; obtain ⟨d12, i12, h12, g12, f12⟩ := o12; replace H := unRate_hid H; obtain ⟨c13, g13, k13, b12, a12, k10, n10, o10, m10, l10⟩ := ORate.at_ M0.out w12; obtain rfl := Option.some.inj (q12.out.symm.trans a12); simp only [Option.some.injEq, Addr.mk.injEq] at b12; obtain ⟨rfl, rfl, _⟩ := b12; have l13 := cell_lt k10; replace k10 := cell_below q10.out k10; replace n10 := cell_below q10.out n10; replace o10 := cell_below q10.out o10; replace m10 := cell_below q10.out m10; replace l10 := cell_below q10.out l10; clear a12; have z12 : (0 : Int) ≤ (r11 : Int) := (by omega); have d13 : (r11 : Int) < ((list.length : Nat) : Int) := (by omega); have i13 : ((r11 : Int)).toNat = r11 := (by omega); have w11 := Lib.hid k10; replace k10 := cell_regrown k10; have n11 := Lib.hid n10; replace n10 := cell_regrown n10; have t11 := Lib.hid o10; replace o10 := cell_regrown o10; have s11 := Lib.hid m10; replace m10 := cell_regrown m10; have v11 := Lib.hid l10; replace l10 := cell_regrown l10; replace H := bind_hid H; obtain ⟨t_28, s12, H⟩ := H; have p11 : ∀ d os, Calls Tryz.prog 97 #[.agg #[.int .i64 h11, .int .i64 g11, .int .i64 k11, .int .i64 j11, .int .i64 i11], .agg #[.int .i64 d12, .int .i64 i12, .int .i64 h12, .int .i64 g12, .int .i64 f12]] (Go.Sort.grow (redrawn p10 d) os) fun e w'' => e = .returned (.bool t_28) ∧ ∃ p : Regrown, w'' = Go.Sort.grow (redrawn p10 p.d) p.os := fun d os => Calls.regrown_of (GiCanFollow.C ((PRate.Rate.mk h11 g11 k11 j11 i11)) ((PRate.Rate.mk d12 i12 h12 g12 f12))  _    s12)
      cases t_28 with
      | false =>
       replace H := let_hid H; obtain ⟨t_29, y11, H⟩ := H; obtain rfl : t_29 = true := y11.symm; replace H := app_hid H; replace H := app_hid H; refine wp_region_quiet_below (by kernel_rfl) (by kernel_rfl) ?_
       repeat (go_big_quiet_step (first | (go_at_call 96; exact w10 _ _) | (go_at_call 97; exact p11 _ _)))
       refine wpQuiet_nil ?_; intro Y6 hY6; replace hY6 := below_class hY6; clear w10 p11; replace f10 := c11.out; clear c11; replace g10 := z10.out; clear z10; replace e10 := s10.out; clear s10; replace h10 := b11.out; clear b11; replace i10 := x10.out; clear x10; replace j10 := v10.out; clear v10; replace d10 := y10.out; clear y10; replace a10 := r10.out; clear r10; replace c10 := a11.out; clear a11; replace b10 := t10.out; clear t10; replace k10 := w11.out; clear w11; replace n10 := n11.out; clear n11; replace o10 := t11.out; clear t11; replace m10 := s11.out; clear s11; replace l10 := v11.out; clear v11; have HBY6 := Lib.hid (Below.step q10.out hY6); replace f10 := cell_below hY6 f10; replace g10 := cell_below hY6 g10; replace e10 := cell_below hY6 e10; replace h10 := cell_below hY6 h10; replace i10 := cell_below hY6 i10; replace j10 := cell_below hY6 j10; replace d10 := cell_below hY6 d10; replace a10 := cell_below hY6 a10; replace c10 := cell_below hY6 c10; replace b10 := cell_below hY6 b10; replace k10 := cell_below hY6 k10; replace n10 := cell_below hY6 n10; replace o10 := cell_below hY6 o10; replace m10 := cell_below hY6 m10; replace l10 := cell_below hY6 l10; clear hY6; replace H := ite_t H; obtain rfl := ret_hid H; go_wp2_with fail; go_ret; exact ⟨rfl, HBY6.out⟩
      | true =>
       replace H := let_hid H; obtain ⟨t_29, y11, H⟩ := H; obtain rfl : t_29 = false := y11.symm; replace H := app_hid H; replace H := app_hid H; refine wp_region_quiet_below (by kernel_rfl) (by kernel_rfl) ?_
       repeat (go_big_quiet_step (first | (go_at_call 96; exact w10 _ _) | (go_at_call 97; exact p11 _ _)))
       refine wpQuiet_nil ?_; intro Y6 hY6; replace hY6 := below_class hY6; clear w10 p11; replace f10 := c11.out; clear c11; replace g10 := z10.out; clear z10; replace e10 := s10.out; clear s10; replace h10 := b11.out; clear b11; replace i10 := x10.out; clear x10; replace j10 := v10.out; clear v10; replace d10 := y10.out; clear y10; replace a10 := r10.out; clear r10; replace c10 := a11.out; clear a11; replace b10 := t10.out; clear t10; replace k10 := w11.out; clear w11; replace n10 := n11.out; clear n11; replace o10 := t11.out; clear t11; replace m10 := s11.out; clear s11; replace l10 := v11.out; clear v11; have HBY6 := Lib.hid (Below.step q10.out hY6); replace f10 := cell_below hY6 f10; replace g10 := cell_below hY6 g10; replace e10 := cell_below hY6 e10; replace h10 := cell_below hY6 h10; replace i10 := cell_below hY6 i10; replace j10 := cell_below hY6 j10; replace d10 := cell_below hY6 d10; replace a10 := cell_below hY6 a10; replace c10 := cell_below hY6 c10; replace b10 := cell_below hY6 b10; replace k10 := cell_below hY6 k10; replace n10 := cell_below hY6 n10; replace o10 := cell_below hY6 o10; replace m10 := cell_below hY6 m10; replace l10 := cell_below hY6 l10; clear hY6; replace H := ite_f H; replace H := app_hid H; go_wp2_with fail
       go_roundg m0
       case measure => omega
       case rel => exact ⟨k0 + 1, by omega, by go_num, H, HBY6⟩
 | true =>
  have v12 : 16 < list.length := (by have := of_decide_eq_true ht_3; omega); replace H := ite_t H; obtain rfl := ret_hid H; go_wp2_with fail; go_ret; exact ⟨rfl, HB.out⟩
end Go.Proofs.YtihibckijdfidaaGreat.GiAreRates

namespace Go.Proofs.YtihibckijdfidaaGreat.GiIsPostOffice
open Go.RowKit
open Go.Proofs.YtihibckijdfidaaGreat.Rowed Go.Proofs.YtihibckijdfidaaGreat.Turn Go.Proofs.YtihibckijdfidaaGreat.Aid Go.Proofs.YtihibckijdfidaaGreat.GoP Go.Proofs.YtihibckijdfidaaGreat.GoM

def P (office : Int) : Option (Bool) :=
  Option.bind (Go.Proofs.YtihibckijdfidaaGreat.GiWithin.P office 0 9) fun (t_2 : Bool) =>
  some t_2

set_option maxRecDepth 100000 in
set_option maxHeartbeats 2000000 in
theorem C (office : Int)   (w : World)   {r : Bool} (H : Hid (P office = some r)) :
    Calls Tryz.prog 58 #[.int .i64 office] w (Gives (.bool r) w) := by
  have HB := Lib.hid (Below.refl w.heap.size w)
  unfold P at H
  go_enter Tryz.func58, Tryz.ntmps58
  replace H := bind_hid H
  obtain ⟨t_2, qt_2, H⟩ := H
  go_wp2_with fail
  go_at_call 53
  refine (Go.Proofs.YtihibckijdfidaaGreat.GiWithin.C (office) (0) (9)  _    qt_2).mono ?_
  rintro e_t_2 wt_2 ⟨rfl, bt_2⟩
  have HBwt_2 := Lib.hid (Below.step HB.out bt_2)
  clear bt_2
  obtain rfl := ret_hid H
  go_wp2_with fail
  go_ret
  exact ⟨rfl, HBwt_2.out⟩
end Go.Proofs.YtihibckijdfidaaGreat.GiIsPostOffice

namespace Go.Proofs.YtihibckijdfidaaGreat.GiIsMinute
open Go.RowKit
open Go.Proofs.YtihibckijdfidaaGreat.Rowed Go.Proofs.YtihibckijdfidaaGreat.Turn Go.Proofs.YtihibckijdfidaaGreat.Aid Go.Proofs.YtihibckijdfidaaGreat.GoP Go.Proofs.YtihibckijdfidaaGreat.GoM

def P (minute : Int) : Option (Bool) :=
  Option.bind (Go.Proofs.YtihibckijdfidaaGreat.GiWithin.P minute 0 9999) fun (t_2 : Bool) =>
  some t_2

set_option maxRecDepth 100000 in
set_option maxHeartbeats 2000000 in
theorem C (minute : Int)   (w : World)   {r : Bool} (H : Hid (P minute = some r)) :
    Calls Tryz.prog 59 #[.int .i64 minute] w (Gives (.bool r) w) := by
  have HB := Lib.hid (Below.refl w.heap.size w)
  unfold P at H
  go_enter Tryz.func59, Tryz.ntmps59
  replace H := bind_hid H
  obtain ⟨t_2, qt_2, H⟩ := H
  go_wp2_with fail
  go_at_call 53
  refine (Go.Proofs.YtihibckijdfidaaGreat.GiWithin.C (minute) (0) (9999)  _    qt_2).mono ?_
  rintro e_t_2 wt_2 ⟨rfl, bt_2⟩
  have HBwt_2 := Lib.hid (Below.step HB.out bt_2)
  clear bt_2
  obtain rfl := ret_hid H
  go_wp2_with fail
  go_ret
  exact ⟨rfl, HBwt_2.out⟩
end Go.Proofs.YtihibckijdfidaaGreat.GiIsMinute

namespace Go.Proofs.YtihibckijdfidaaGreat.GiIsCover
open Go.RowKit
open Go.Proofs.YtihibckijdfidaaGreat.Rowed Go.Proofs.YtihibckijdfidaaGreat.Turn Go.Proofs.YtihibckijdfidaaGreat.Aid Go.Proofs.YtihibckijdfidaaGreat.GoP Go.Proofs.YtihibckijdfidaaGreat.GoM

def P (x : PCover.Cover) : Option (Bool) :=
 unCover x fun (x_id : Int) (x_day : Int) (x_zone : Int) (x_grams : Int) (x_paid : Int) (x_from_ : Int) (x_to_ : Int) (x_leave : Int) (x_arrive : Int) =>
 Option.bind (GiWithin.P x_id 1 999) fun (t_4 : Bool) =>
 joinK (fun (t_9 : Bool) =>
 joinK (fun (t_14 : Bool) =>
 joinK (fun (t_19 : Bool) =>
 joinK (fun (t_24 : Bool) =>
 joinK (fun (t_29 : Bool) =>
 joinK (fun (t_34 : Bool) =>
 joinK (fun (t_41 : Bool) =>
 joinK (fun (t_46 : Bool) =>
 joinK (fun (t_51 : Bool) =>
 joinK (fun (t_58 : Bool) =>
 some t_58) fun jt_58 => iteK t_51 (letK (decide (x_leave ≤ x_arrive)) fun (t_57 : Bool) =>
 appK jt_58 t_57) (appK jt_58 false)) fun jt_51 => iteK t_46 (Option.bind (GiIsMinute.P x_arrive) fun (t_50 : Bool) =>
 appK jt_51 t_50) (appK jt_51 false)) fun jt_46 => iteK t_41 (Option.bind (GiIsMinute.P x_leave) fun (t_45 : Bool) =>
 appK jt_46 t_45) (appK jt_46 false)) fun jt_41 => iteK t_34 (letK (x_from_ != x_to_) fun (t_40 : Bool) =>
 appK jt_41 t_40) (appK jt_41 false)) fun jt_34 => iteK t_29 (Option.bind (GiIsPostOffice.P x_to_) fun (t_33 : Bool) =>
 appK jt_34 t_33) (appK jt_34 false)) fun jt_29 => iteK t_24 (Option.bind (GiIsPostOffice.P x_from_) fun (t_28 : Bool) =>
 appK jt_29 t_28) (appK jt_29 false)) fun jt_24 => iteK t_19 (Option.bind (GiIsRateCents.P x_paid) fun (t_23 : Bool) =>
 appK jt_24 t_23) (appK jt_24 false)) fun jt_19 => iteK t_14 (Option.bind (GiIsWeight.P x_grams) fun (t_18 : Bool) =>
 appK jt_19 t_18) (appK jt_19 false)) fun jt_14 => iteK t_9 (Option.bind (GiIsZone.P x_zone) fun (t_13 : Bool) =>
 appK jt_14 t_13) (appK jt_14 false)) fun jt_9 => iteK t_4 (Option.bind (GiIsDay.P x_day) fun (t_8 : Bool) =>
 appK jt_9 t_8) (appK jt_9 false)

set_option maxRecDepth 100000 in
set_option maxHeartbeats 2000000 in
theorem C (x : PCover.Cover)   (w : World)   {r : Bool} (H : Hid (P x = some r)) :
  Calls Tryz.prog 22 #[x.val] w (Gives (.bool r) w) := by
 have HB := Lib.hid (Below.refl w.heap.size w); unfold P at H; obtain ⟨x_id, x_day, x_zone, x_grams, x_paid, x_from_, x_to_, x_leave, x_arrive⟩ := x; replace H := unCover_hid H; unfold PCover.Cover.val
 go_enter Tryz.func22, Tryz.ntmps22
 obtain ⟨r10, q10⟩ : ∃ x, w.alloc (.cells #[.int .i64 x_id, .int .i64 x_day, .int .i64 x_zone, .int .i64 x_grams, .int .i64 x_paid, .int .i64 x_from_, .int .i64 x_to_, .int .i64 x_leave, .int .i64 x_arrive] 26) = x := ⟨_, rfl⟩; have z10 : Below w.heap.size w r10 := (by rw [← q10]; exact (Below.refl _ _).alloc (Nat.le_refl _) _); have i11 := Lib.hid (Below.step HB.out z10); clear z10; have e10 : r10.cell? ⟨w.heap.size, 0, none⟩ = some (.int .i64 x_id) := (by rw [← q10]; exact box_new _ _ _ 0 _ rfl); have a10 : r10.cell? ⟨w.heap.size, 1, none⟩ = some (.int .i64 x_day) := (by rw [← q10]; exact box_new _ _ _ 1 _ rfl); have c10 : r10.cell? ⟨w.heap.size, 2, none⟩ = some (.int .i64 x_zone) := (by rw [← q10]; exact box_new _ _ _ 2 _ rfl); have h10 : r10.cell? ⟨w.heap.size, 3, none⟩ = some (.int .i64 x_grams) := (by rw [← q10]; exact box_new _ _ _ 3 _ rfl); have f10 : r10.cell? ⟨w.heap.size, 4, none⟩ = some (.int .i64 x_paid) := (by rw [← q10]; exact box_new _ _ _ 4 _ rfl); have g10 : r10.cell? ⟨w.heap.size, 5, none⟩ = some (.int .i64 x_from_) := (by rw [← q10]; exact box_new _ _ _ 5 _ rfl); have i10 : r10.cell? ⟨w.heap.size, 6, none⟩ = some (.int .i64 x_to_) := (by rw [← q10]; exact box_new _ _ _ 6 _ rfl); have d10 : r10.cell? ⟨w.heap.size, 7, none⟩ = some (.int .i64 x_leave) := (by rw [← q10]; exact box_new _ _ _ 7 _ rfl); have b10 : r10.cell? ⟨w.heap.size, 8, none⟩ = some (.int .i64 x_arrive) := (by rw [← q10]; exact box_new _ _ _ 8 _ rfl); replace H := bind_hid H; obtain ⟨t_4, qt_4, H⟩ := H; go_wp2_with fail; go_at_call 53; refine (GiWithin.C (x_id) (1) (999)  _    qt_4).mono ?_; rintro m11 wt_4 ⟨rfl, bt_4⟩; have c11 := Lib.hid (Below.step i11.out bt_4); replace e10 := cell_below bt_4 e10; replace a10 := cell_below bt_4 a10; replace c10 := cell_below bt_4 c10; replace h10 := cell_below bt_4 h10; replace f10 := cell_below bt_4 f10; replace g10 := cell_below bt_4 g10; replace i10 := cell_below bt_4 i10; replace d10 := cell_below bt_4 d10; replace b10 := cell_below bt_4 b10; clear bt_4; replace H := join_hid H
 cases t_4 with
 | false =>
  replace H := ite_f H; replace H := app_hid H; replace H := join_hid H; replace H := ite_f H; replace H := app_hid H; replace H := join_hid H; replace H := ite_f H; replace H := app_hid H; replace H := join_hid H; replace H := ite_f H; replace H := app_hid H; replace H := join_hid H; replace H := ite_f H; replace H := app_hid H; replace H := join_hid H; replace H := ite_f H; replace H := app_hid H; replace H := join_hid H; replace H := ite_f H; replace H := app_hid H; replace H := join_hid H; replace H := ite_f H; replace H := app_hid H; replace H := join_hid H; replace H := ite_f H; replace H := app_hid H; replace H := join_hid H; replace H := ite_f H; replace H := app_hid H; obtain rfl := ret_hid H; go_wp2_with fail; go_ret; exact ⟨rfl, c11.out⟩
 | true =>
  replace H := ite_t H; replace H := bind_hid H; obtain ⟨t_8, qt_8, H⟩ := H; go_wp2_with fail; go_at_call 54; refine (GiIsDay.C (x_day)  _    qt_8).mono ?_; rintro q11 wt_8 ⟨rfl, bt_8⟩; have v10 := Lib.hid (Below.step c11.out bt_8); replace e10 := cell_below bt_8 e10; replace a10 := cell_below bt_8 a10; replace c10 := cell_below bt_8 c10; replace h10 := cell_below bt_8 h10; replace f10 := cell_below bt_8 f10; replace g10 := cell_below bt_8 g10; replace i10 := cell_below bt_8 i10; replace d10 := cell_below bt_8 d10; replace b10 := cell_below bt_8 b10; clear bt_8; replace H := app_hid H; replace H := join_hid H
  cases t_8 with
  | false =>
   replace H := ite_f H; replace H := app_hid H; replace H := join_hid H; replace H := ite_f H; replace H := app_hid H; replace H := join_hid H; replace H := ite_f H; replace H := app_hid H; replace H := join_hid H; replace H := ite_f H; replace H := app_hid H; replace H := join_hid H; replace H := ite_f H; replace H := app_hid H; replace H := join_hid H; replace H := ite_f H; replace H := app_hid H; replace H := join_hid H; replace H := ite_f H; replace H := app_hid H; replace H := join_hid H; replace H := ite_f H; replace H := app_hid H; replace H := join_hid H; replace H := ite_f H; replace H := app_hid H; obtain rfl := ret_hid H; go_wp2_with fail; go_ret; exact ⟨rfl, v10.out⟩
  | true =>
   replace H := ite_t H; replace H := bind_hid H; obtain ⟨t_13, d11, H⟩ := H; go_wp2_with fail; go_at_call 55; refine (GiIsZone.C (x_zone)  _    d11).mono ?_; rintro o11 b12 ⟨rfl, o10⟩; have t10 := Lib.hid (Below.step v10.out o10); replace e10 := cell_below o10 e10; replace a10 := cell_below o10 a10; replace c10 := cell_below o10 c10; replace h10 := cell_below o10 h10; replace f10 := cell_below o10 f10; replace g10 := cell_below o10 g10; replace i10 := cell_below o10 i10; replace d10 := cell_below o10 d10; replace b10 := cell_below o10 b10; clear o10; replace H := app_hid H; replace H := join_hid H
   cases t_13 with
   | false =>
    replace H := ite_f H; replace H := app_hid H; replace H := join_hid H; replace H := ite_f H; replace H := app_hid H; replace H := join_hid H; replace H := ite_f H; replace H := app_hid H; replace H := join_hid H; replace H := ite_f H; replace H := app_hid H; replace H := join_hid H; replace H := ite_f H; replace H := app_hid H; replace H := join_hid H; replace H := ite_f H; replace H := app_hid H; replace H := join_hid H; replace H := ite_f H; replace H := app_hid H; replace H := join_hid H; replace H := ite_f H; replace H := app_hid H; obtain rfl := ret_hid H; go_wp2_with fail; go_ret; exact ⟨rfl, t10.out⟩
   | true =>
    replace H := ite_t H; replace H := bind_hid H; obtain ⟨t_18, j11, H⟩ := H; go_wp2_with fail; go_at_call 56; refine (GiIsWeight.C (x_grams)  _    j11).mono ?_; rintro w11 v11 ⟨rfl, k10⟩; have y10 := Lib.hid (Below.step t10.out k10); replace e10 := cell_below k10 e10; replace a10 := cell_below k10 a10; replace c10 := cell_below k10 c10; replace h10 := cell_below k10 h10; replace f10 := cell_below k10 f10; replace g10 := cell_below k10 g10; replace i10 := cell_below k10 i10; replace d10 := cell_below k10 d10; replace b10 := cell_below k10 b10; clear k10; replace H := app_hid H; replace H := join_hid H
    cases t_18 with
    | false =>
     replace H := ite_f H; replace H := app_hid H; replace H := join_hid H; replace H := ite_f H; replace H := app_hid H; replace H := join_hid H; replace H := ite_f H; replace H := app_hid H; replace H := join_hid H; replace H := ite_f H; replace H := app_hid H; replace H := join_hid H; replace H := ite_f H; replace H := app_hid H; replace H := join_hid H; replace H := ite_f H; replace H := app_hid H; replace H := join_hid H; replace H := ite_f H; replace H := app_hid H; obtain rfl := ret_hid H; go_wp2_with fail; go_ret; exact ⟨rfl, y10.out⟩
    | true =>
     replace H := ite_t H; replace H := bind_hid H; obtain ⟨t_23, f11, H⟩ := H; go_wp2_with fail; go_at_call 57; refine (GiIsRateCents.C (x_paid)  _    f11).mono ?_; rintro l11 c12 ⟨rfl, m10⟩; have b11 := Lib.hid (Below.step y10.out m10); replace e10 := cell_below m10 e10; replace a10 := cell_below m10 a10; replace c10 := cell_below m10 c10; replace h10 := cell_below m10 h10; replace f10 := cell_below m10 f10; replace g10 := cell_below m10 g10; replace i10 := cell_below m10 i10; replace d10 := cell_below m10 d10; replace b10 := cell_below m10 b10; clear m10; replace H := app_hid H; replace H := join_hid H
     cases t_23 with
     | false =>
      replace H := ite_f H; replace H := app_hid H; replace H := join_hid H; replace H := ite_f H; replace H := app_hid H; replace H := join_hid H; replace H := ite_f H; replace H := app_hid H; replace H := join_hid H; replace H := ite_f H; replace H := app_hid H; replace H := join_hid H; replace H := ite_f H; replace H := app_hid H; replace H := join_hid H; replace H := ite_f H; replace H := app_hid H; obtain rfl := ret_hid H; go_wp2_with fail; go_ret; exact ⟨rfl, b11.out⟩
     | true =>
      replace H := ite_t H; replace H := bind_hid H; obtain ⟨t_28, k11, H⟩ := H; go_wp2_with fail; go_at_call 58; refine (GiIsPostOffice.C (x_from_)  _    k11).mono ?_; rintro z11 a12 ⟨rfl, n10⟩; have a11 := Lib.hid (Below.step b11.out n10); replace e10 := cell_below n10 e10; replace a10 := cell_below n10 a10; replace c10 := cell_below n10 c10; replace h10 := cell_below n10 h10; replace f10 := cell_below n10 f10; replace g10 := cell_below n10 g10; replace i10 := cell_below n10 i10; replace d10 := cell_below n10 d10; replace b10 := cell_below n10 b10; clear n10; replace H := app_hid H; replace H := join_hid H
      cases t_28 with
      | false =>
       replace H := ite_f H; replace H := app_hid H; replace H := join_hid H; replace H := ite_f H; replace H := app_hid H; replace H := join_hid H; replace H := ite_f H; replace H := app_hid H; replace H := join_hid H; replace H := ite_f H; replace H := app_hid H; replace H := join_hid H; replace H := ite_f H; replace H := app_hid H; obtain rfl := ret_hid H; go_wp2_with fail; go_ret; exact ⟨rfl, a11.out⟩
      | true =>
       replace H := ite_t H; replace H := bind_hid H; obtain ⟨t_33, h11, H⟩ := H; go_wp2_with fail; go_at_call 58; refine (GiIsPostOffice.C (x_to_)  _    h11).mono ?_; rintro y11 n11 ⟨rfl, j10⟩; have s10 := Lib.hid (Below.step a11.out j10); replace e10 := cell_below j10 e10; replace a10 := cell_below j10 a10; replace c10 := cell_below j10 c10; replace h10 := cell_below j10 h10; replace f10 := cell_below j10 f10; replace g10 := cell_below j10 g10; replace i10 := cell_below j10 i10; replace d10 := cell_below j10 d10; replace b10 := cell_below j10 b10; clear j10; replace H := app_hid H; replace H := join_hid H
       cases t_33 with
       | false =>
        replace H := ite_f H; replace H := app_hid H; replace H := join_hid H; replace H := ite_f H; replace H := app_hid H; replace H := join_hid H; replace H := ite_f H; replace H := app_hid H; replace H := join_hid H; replace H := ite_f H; replace H := app_hid H; obtain rfl := ret_hid H; go_wp2_with fail; go_ret; exact ⟨rfl, s10.out⟩
       | true =>
        replace H := ite_t H; replace H := let_hid H; obtain ⟨t_40, t11, H⟩ := H; replace H := app_hid H; replace H := join_hid H
        cases t_40 with
        | false =>
         replace H := ite_f H; replace H := app_hid H; replace H := join_hid H; replace H := ite_f H; replace H := app_hid H; replace H := join_hid H; replace H := ite_f H; replace H := app_hid H; obtain rfl := ret_hid H; go_wp2_with fail; go_ret; exact ⟨rfl, s10.out⟩
        | true =>
         replace H := ite_t H; replace H := bind_hid H; obtain ⟨t_45, e11, H⟩ := H; go_wp2_with fail; go_at_call 59; refine (GiIsMinute.C (x_leave)  _    e11).mono ?_; rintro d12 r11 ⟨rfl, l10⟩; have w10 := Lib.hid (Below.step s10.out l10); replace e10 := cell_below l10 e10; replace a10 := cell_below l10 a10; replace c10 := cell_below l10 c10; replace h10 := cell_below l10 h10; replace f10 := cell_below l10 f10; replace g10 := cell_below l10 g10; replace i10 := cell_below l10 i10; replace d10 := cell_below l10 d10; replace b10 := cell_below l10 b10; clear l10; replace H := app_hid H; replace H := join_hid H
         cases t_45 with
         | false =>
          replace H := ite_f H; replace H := app_hid H; replace H := join_hid H; replace H := ite_f H; replace H := app_hid H; obtain rfl := ret_hid H; go_wp2_with fail; go_ret; exact ⟨rfl, w10.out⟩
         | true =>
          replace H := ite_t H; replace H := bind_hid H; obtain ⟨t_50, g11, H⟩ := H; go_wp2_with fail; go_at_call 59; refine (GiIsMinute.C (x_arrive)  _    g11).mono ?_; rintro p11 s11 ⟨rfl, p10⟩; have x10 := Lib.hid (Below.step w10.out p10); replace e10 := cell_below p10 e10; replace a10 := cell_below p10 a10; replace c10 := cell_below p10 c10; replace h10 := cell_below p10 h10; replace f10 := cell_below p10 f10; replace g10 := cell_below p10 g10; replace i10 := cell_below p10 i10; replace d10 := cell_below p10 d10; replace b10 := cell_below p10 b10; clear p10; replace H := app_hid H; replace H := join_hid H
          cases t_50 with
          | false =>
           replace H := ite_f H; replace H := app_hid H; obtain rfl := ret_hid H; go_wp2_with fail; go_ret; exact ⟨rfl, x10.out⟩
          | true =>
           replace H := ite_t H; replace H := let_hid H; obtain ⟨t_57, x11, H⟩ := H; replace H := app_hid H; obtain rfl := ret_hid H; go_wp2_with fail; go_ret; exact ⟨rfl, x10.out⟩
end Go.Proofs.YtihibckijdfidaaGreat.GiIsCover

namespace Go.Proofs.YtihibckijdfidaaGreat.GiCanExplain
open Go.RowKit
open Go.Proofs.YtihibckijdfidaaGreat.Rowed Go.Proofs.YtihibckijdfidaaGreat.Turn Go.Proofs.YtihibckijdfidaaGreat.Aid Go.Proofs.YtihibckijdfidaaGreat.GoP Go.Proofs.YtihibckijdfidaaGreat.GoM

def P (rates : (List PRate.Rate)) (x : PCover.Cover) : Option (Bool) :=
 unCover x fun (x_id : Int) (x_day : Int) (x_zone : Int) (x_grams : Int) (x_paid : Int) (x_from_ : Int) (x_to_ : Int) (x_leave : Int) (x_arrive : Int) =>
 Option.bind (GiAreRates.P rates) fun (t_3 : Bool) =>
 joinK (fun (t_7 : Bool) =>
 some t_7) fun jt_7 => iteK t_3 (Option.bind (GiIsCover.P (PCover.Cover.mk x_id x_day x_zone x_grams x_paid x_from_ x_to_ x_leave x_arrive)) fun (t_6 : Bool) =>
 appK jt_7 t_6) (appK jt_7 false)

set_option maxRecDepth 100000 in
set_option maxHeartbeats 2000000 in
theorem C (rates : (List PRate.Rate)) (x : PCover.Cover) (A0 : Option Addr) (c0 : Nat)  (w : World) (M0 : Hid (Cells w 5 A0 rates.length (PRate.flat rates))) (N0 : Hid (rates.length ≤ 9223372036854775807))  {r : Bool} (H : Hid (P rates x = some r)) :
  Calls Tryz.prog 38 #[.slice A0 rates.length c0, x.val] w (Gives (.bool r) w) := by
 have HB := Lib.hid (Below.refl w.heap.size w); unfold P at H; obtain ⟨x_id, x_day, x_zone, x_grams, x_paid, x_from_, x_to_, x_leave, x_arrive⟩ := x; replace H := unCover_hid H; unfold PCover.Cover.val; have N0o := N0.out
 go_enter Tryz.func38, Tryz.ntmps38
 obtain ⟨a10, b10⟩ : ∃ x, w.alloc (.cells #[.int .i64 x_id, .int .i64 x_day, .int .i64 x_zone, .int .i64 x_grams, .int .i64 x_paid, .int .i64 x_from_, .int .i64 x_to_, .int .i64 x_leave, .int .i64 x_arrive] 26) = x := ⟨_, rfl⟩; have l10 : Below w.heap.size w a10 := (by rw [← b10]; exact (Below.refl _ _).alloc (Nat.le_refl _) _); have m10 := Lib.hid (Below.step HB.out l10); clear l10; have f10 : a10.cell? ⟨w.heap.size, 0, none⟩ = some (.int .i64 x_id) := (by rw [← b10]; exact box_new _ _ _ 0 _ rfl); have c10 : a10.cell? ⟨w.heap.size, 1, none⟩ = some (.int .i64 x_day) := (by rw [← b10]; exact box_new _ _ _ 1 _ rfl); have k10 : a10.cell? ⟨w.heap.size, 2, none⟩ = some (.int .i64 x_zone) := (by rw [← b10]; exact box_new _ _ _ 2 _ rfl); have e10 : a10.cell? ⟨w.heap.size, 3, none⟩ = some (.int .i64 x_grams) := (by rw [← b10]; exact box_new _ _ _ 3 _ rfl); have g10 : a10.cell? ⟨w.heap.size, 4, none⟩ = some (.int .i64 x_paid) := (by rw [← b10]; exact box_new _ _ _ 4 _ rfl); have d10 : a10.cell? ⟨w.heap.size, 5, none⟩ = some (.int .i64 x_from_) := (by rw [← b10]; exact box_new _ _ _ 5 _ rfl); have j10 : a10.cell? ⟨w.heap.size, 6, none⟩ = some (.int .i64 x_to_) := (by rw [← b10]; exact box_new _ _ _ 6 _ rfl); have i10 : a10.cell? ⟨w.heap.size, 7, none⟩ = some (.int .i64 x_leave) := (by rw [← b10]; exact box_new _ _ _ 7 _ rfl); have h10 : a10.cell? ⟨w.heap.size, 8, none⟩ = some (.int .i64 x_arrive) := (by rw [← b10]; exact box_new _ _ _ 8 _ rfl); replace H := bind_hid H; obtain ⟨t_3, qt_3, H⟩ := H; go_wp2_with fail; go_at_call 83; refine (GiAreRates.C (rates) A0 c0 _   (Lib.hid (Cells.below M0.out m10.out)) N0 qt_3).mono ?_; rintro p10 wt_3 ⟨rfl, bt_3⟩; have n10 := Lib.hid (Below.step m10.out bt_3); replace f10 := cell_below bt_3 f10; replace c10 := cell_below bt_3 c10; replace k10 := cell_below bt_3 k10; replace e10 := cell_below bt_3 e10; replace g10 := cell_below bt_3 g10; replace d10 := cell_below bt_3 d10; replace j10 := cell_below bt_3 j10; replace i10 := cell_below bt_3 i10; replace h10 := cell_below bt_3 h10; clear bt_3; replace H := join_hid H
 cases t_3 with
 | false =>
  replace H := ite_f H; replace H := app_hid H; obtain rfl := ret_hid H; go_wp2_with fail; go_ret; exact ⟨rfl, n10.out⟩
 | true =>
  replace H := ite_t H; replace H := bind_hid H; obtain ⟨t_6, qt_6, H⟩ := H; go_wp2_with fail; go_at_call 22; refine (GiIsCover.C ((PCover.Cover.mk x_id x_day x_zone x_grams x_paid x_from_ x_to_ x_leave x_arrive))  _    qt_6).mono ?_; rintro q10 wt_6 ⟨rfl, bt_6⟩; have o10 := Lib.hid (Below.step n10.out bt_6); replace f10 := cell_below bt_6 f10; replace c10 := cell_below bt_6 c10; replace k10 := cell_below bt_6 k10; replace e10 := cell_below bt_6 e10; replace g10 := cell_below bt_6 g10; replace d10 := cell_below bt_6 d10; replace j10 := cell_below bt_6 j10; replace i10 := cell_below bt_6 i10; replace h10 := cell_below bt_6 h10; clear bt_6; replace H := app_hid H; obtain rfl := ret_hid H; go_wp2_with fail; go_ret; exact ⟨rfl, o10.out⟩
end Go.Proofs.YtihibckijdfidaaGreat.GiCanExplain

namespace Go.Proofs.YtihibckijdfidaaGreat.GoK
open Go.RowKit
open Go.Proofs.YtihibckijdfidaaGreat.Rowed Go.Proofs.YtihibckijdfidaaGreat.Turn Go.Proofs.YtihibckijdfidaaGreat.GoM

/-- a test of a row against nil: only an empty row can be nil, and then both ways have one answer -/
def nilK {α ρ : Type} (l : List α) (f : Bool → Option ρ) : Option ρ := f false
/-- where a row lies that a function hands on: where another one lay, or behind all that was there -/
def From (w : World) (A A' : Option Addr) : Prop := ∀ a', A' = some a' → (∃ a, A = some a ∧ a.block = a'.block) ∨ w.heap.size ≤ a'.block
theorem from_self {w : World} {A : Option Addr} : From w A A := fun a h => .inl ⟨a, h, rfl⟩
theorem apart_from {w : World} {A A' B : Option Addr} (hD : Apart A B) (hB : ∀ a, B = some a → a.block < w.heap.size) (h : From w A A') : Apart A' B := by
  intro a a' ha ha' e
  have hl := hB a' ha'
  rcases h a ha with ⟨a2, h2, e2⟩ | h2
  · exact hD a2 a' h2 ha' (e2.trans e)
  · omega
theorem own_setCells {b T K n c g : Nat} : ∀ (vs : List Value) (o : Nat) {w : World} {xs : List Value}, w.ownsRow b T K (.slice (some ⟨g, 0, none⟩) n c) n xs → o + vs.length ≤ xs.length →
    (w.setCells g o vs).ownsRow b T K (.slice (some ⟨g, 0, none⟩) n c) n (xs.take o ++ vs ++ xs.drop (o + vs.length)) ∧ w.grownBy (w.setCells g o vs) (some g) := by
  intro vs
  induction vs with
  | nil => intro o w xs h _; exact ⟨by simpa [World.setCells] using h, Aid.grown_refl _ _⟩
  | cons v vs ih =>
    intro o w xs h hl
    simp only [List.length_cons] at hl
    have h1 := h.stored o v
    have h2 := ih (o + 1) h1.1 (by rw [List.length_set]; omega)
    refine ⟨?_, Aid.grown_tr h1.2 h2.2⟩
    have e : (xs.set o v).take (o + 1) ++ vs ++ (xs.set o v).drop (o + 1 + vs.length) = xs.take o ++ (v :: vs) ++ xs.drop (o + (v :: vs).length) := by
      have ho : o < xs.length := by omega
      rw [List.drop_set_of_lt (by omega), List.take_add_one, List.getElem?_set_self ho, List.take_set_of_le (Nat.le_refl _)]
      simp [Nat.add_comm, Nat.add_left_comm]
    rw [← e]
    exact h2.1
theorem own_baseM {w : World} {base base' T K n c : Nat} {A : Option Addr} {xs : List Value} (hb : base' ≤ base) (h : w.ownsRow base T K (.slice A n c) n xs) : w.ownsRow base' T K (.slice A n c) n xs := by
  refine ⟨h.1, ?_⟩
  rcases h.2 with h0 | ⟨g3, cap3, cu, h0, h1, r⟩
  · exact .inl h0
  · exact .inr ⟨g3, cap3, cu, h0, Nat.le_trans hb h1, r⟩
theorem from_own {w w' : World} {T K n m c : Nat} {A A' : Option Addr} {xs : List Value} (h : w'.ownsRow w.heap.size T K (.slice A' m c) n xs) : From w A A' := fun a e => .inr (own_lt h a e).1
end Go.Proofs.YtihibckijdfidaaGreat.GoK

namespace Go.Proofs.YtihibckijdfidaaGreat.GoS
open Go.RowKit
open Go.Proofs.YtihibckijdfidaaGreat.Turn Go.Proofs.YtihibckijdfidaaGreat.GoM
theorem own_holds {b T n c g : Nat} {w : World} {l : List Int} (hn : l.length = n) (h : w.ownsRow b T 1 (.slice (some ⟨g, 0, none⟩) n c) n (Go.Proofs.YtihibckijdfidaaGreat.HelpInt.iv l)) : Sort.Holds (Value.int .i64) w g 0 l.toArray := by
  intro j hj
  have hj' : j < l.length := by simpa using hj
  refine ⟨?_, h.frozenAt _⟩
  obtain ⟨ad, ea, hc⟩ := (own_cells h).2 (by unfold Go.Proofs.YtihibckijdfidaaGreat.HelpInt.iv; rw [List.length_map]; omega)
  obtain rfl := Option.some.inj ea
  have hu : (Go.Proofs.YtihibckijdfidaaGreat.HelpInt.iv l)[j]? = some (.int .i64 l[j]) := by unfold Go.Proofs.YtihibckijdfidaaGreat.HelpInt.iv; simp [hj']
  have := hc j _ hu
  rw [add_flat] at this
  simp only [Nat.zero_add] at this ⊢
  rw [this]
  simp [hj']
theorem own_put {b T n c g : Nat} {w : World} {l m : List Int} (hn : l.length = n) (hm : m.length = n) (h : w.ownsRow b T 1 (.slice (some ⟨g, 0, none⟩) n c) n (Go.Proofs.YtihibckijdfidaaGreat.HelpInt.iv l)) (q : Nat) :
    (Sort.putRow (Value.int .i64) (Sort.ahead w q) g 0 m.toArray).ownsRow b T 1 (.slice (some ⟨g, 0, none⟩) n c) n (Go.Proofs.YtihibckijdfidaaGreat.HelpInt.iv m) ∧ w.grownBy (Sort.putRow (Value.int .i64) (Sort.ahead w q) g 0 m.toArray) (some g) := by
  have hH := own_holds hn h
  rw [Lib.putRow_eq_setCells (Value.int .i64) w g 0 l.toArray m q hH (by simp; omega)]
  have hd : w.grownBy (w.drewN q) (some g) := ⟨rfl, rfl, rfl, Nat.le_refl _, fun _ _ _ => rfl⟩
  have h0 : w.grownBy (w.drewN q) none := ⟨rfl, rfl, rfl, Nat.le_refl _, fun _ _ _ => rfl⟩
  have h1 := h.kept h0 (by simp [Value.ownBlock])
  have hl : (Go.Proofs.YtihibckijdfidaaGreat.HelpInt.iv l).length = n := by unfold Go.Proofs.YtihibckijdfidaaGreat.HelpInt.iv; simp [hn]
  have h2 := Go.Proofs.YtihibckijdfidaaGreat.GoK.own_setCells (m.map (Value.int .i64)) 0 h1 (by rw [List.length_map]; omega)
  have e : (Go.Proofs.YtihibckijdfidaaGreat.HelpInt.iv l).take 0 ++ m.map (Value.int .i64) ++ (Go.Proofs.YtihibckijdfidaaGreat.HelpInt.iv l).drop (0 + (m.map (Value.int .i64)).length) = Go.Proofs.YtihibckijdfidaaGreat.HelpInt.iv m := by
    rw [List.length_map, Nat.zero_add, hm, List.drop_of_length_le (by omega)]
    simp [Go.Proofs.YtihibckijdfidaaGreat.HelpInt.iv]
  rw [e] at h2
  exact ⟨h2.1, Aid.grown_tr hd h2.2⟩
def bts (l : List ByteArray) : List (List UInt8) := l.map (·.data.toList)
def unb (l : List (List UInt8)) : List ByteArray := l.map fun x => ⟨x.toArray⟩
theorem grown_grow (w : World) (os : Array Obj) (r : Option Nat) : w.grownBy (Sort.grow w os) r := by
  refine ⟨rfl, rfl, rfl, by simp [Sort.grow], fun k hk _ => ?_⟩
  show (w.heap ++ os)[k]? = w.heap[k]?
  rw [Array.getElem?_append_left hk]
end Go.Proofs.YtihibckijdfidaaGreat.GoS

namespace Go.Proofs
open Go.Shelf
def Tryz.lays169_ren : Go.Shelf.Ren := ⟨fun | 169 => 90 | n => n, fun | 70 => 94 | 9 => 9 | 0 => 0 | 72 => 96 | 37 => 22 | 127 => 111 | 3 => 3 | 5 => 5 | n => n, fun | n => n⟩
theorem Tryz.lays169 : Go.Proofs.Lays.n169 Tryz.prog Tryz.lays169_ren := {
  mixed := by kernel_rfl
  f169 := Tryz.func90.trans (congrArg some (by kernel_rfl))
  t0 := Tryz.underlying0
  a0 := Tryz.isAgg0
  z0 := Tryz.sizeOf0
  v0 := Tryz.zeroValue0
  t3 := Tryz.underlying3
  a3 := Tryz.isAgg3
  z3 := Tryz.sizeOf3
  v3 := Tryz.zeroValue3
  t9 := Tryz.underlying9
  a9 := Tryz.isAgg9
  z9 := Tryz.sizeOf9
  v9 := Tryz.zeroValue9
  t37 := Tryz.underlying22
  a37 := Tryz.isAgg22
  z37 := Tryz.sizeOf22
  v37 := Tryz.zeroValue22
  t70 := Tryz.underlying94
  a70 := Tryz.isAgg94
  z70 := Tryz.sizeOf94
  v70 := Tryz.zeroValue94
  t72 := Tryz.underlying96
  a72 := Tryz.isAgg96
  z72 := Tryz.sizeOf96
  v72 := Tryz.zeroValue96
  t127 := Tryz.underlying111
  a127 := Tryz.isAgg111
  z127 := Tryz.sizeOf111
  v127 := Tryz.zeroValue111 }
theorem Tryz.Builder_Extra_169 : Builder.Extra Tryz.prog Tryz.lays169_ren := {
  sizeBuilder := by kernel_rfl
  liesBuilder := by kernel_rfl
  t5 := Tryz.underlying5
  a5 := Tryz.isAgg5
  z5 := Tryz.sizeOf5
  v5 := Tryz.zeroValue5
  infoByte := by kernel_rfl
  cellsByte := by kernel_rfl
  sizeByte := by kernel_rfl
  neB5 := by decide }
open Go.RowKit in
/-- (*strings.Builder).String: "String returns the accumulated string.": OF A BUILDER THAT HOLDS AT LEAST ONE BYTE. ✋ THE MODEL FREEZES THOSE BYTES IN THE BUFFER (unsafe.String): a later write INTO them ends the model's run without an answer; a later append BEHIND them goes on. The statement's order of evaluation is drawn: one draw. (LAID: no walk: one application.) -/
theorem Tryz.Builder_String (B b : Nat) (l : List UInt8) (w : World) (h : Lib.IsBuilder 96 5 B b (Lib.byteCells l) w) (h0 : l ≠ []) :
    Calls Tryz.prog 90 #[.pointer (some ⟨b, 0, none⟩)] w fun e w' => e = .returned (.string ⟨l.toArray⟩) ∧ Below B w w' := Any.Builder_String Tryz.lays169 Tryz.Builder_Extra_169 B b l w h h0
open Go.RowKit in
/-- (*strings.Builder).String OF A BUILDER THAT HOLDS NO BYTE: the empty string. (Its buffer is nil, or a row of which it has taken nothing yet; where that row has NO capacity the model lays one new block for unsafe.SliceData's 'some address'.) One draw. (LAID: no walk: one application.) -/
theorem Tryz.Builder_String_empty (B b : Nat) (w : World) (h : Lib.IsBuilder 96 5 B b [] w) (hBw : B ≤ w.heap.size) :
    Calls Tryz.prog 90 #[.pointer (some ⟨b, 0, none⟩)] w fun e w' => e = .returned (.string ⟨#[]⟩) ∧ Below B w w' := Any.Builder_String_empty Tryz.lays169 Tryz.Builder_Extra_169 B b w h hBw
open Go.RowKit in
/-- (*strings.Builder).String: "String returns the accumulated string.": WHATEVER THE BUILDER HOLDS. (LAID: no walk: one application.) -/
theorem Tryz.Builder_String_any (B b : Nat) (l : List UInt8) (w : World) (h : Lib.IsBuilder 96 5 B b (Lib.byteCells l) w) (hBw : B ≤ w.heap.size) :
    Calls Tryz.prog 90 #[.pointer (some ⟨b, 0, none⟩)] w fun e w' => e = .returned (.string ⟨l.toArray⟩) ∧ Below B w w' := Any.Builder_String_any Tryz.lays169 Tryz.Builder_Extra_169 B b l w h hBw
def Tryz.lays241_ren : Go.Shelf.Ren := ⟨fun | 241 => 100 | 277 => 105 | n => n, fun | 70 => 94 | 3 => 3 | 0 => 0 | 72 => 96 | 37 => 22 | 5 => 5 | n => n, fun | n => n⟩
theorem Tryz.lays241 : Go.Proofs.Lays.n241 Tryz.prog Tryz.lays241_ren := {
  mixed := by kernel_rfl
  f241 := Tryz.func100.trans (congrArg some (by kernel_rfl))
  f277 := Tryz.func105.trans (congrArg some (by kernel_rfl))
  t0 := Tryz.underlying0
  a0 := Tryz.isAgg0
  z0 := Tryz.sizeOf0
  v0 := Tryz.zeroValue0
  t3 := Tryz.underlying3
  a3 := Tryz.isAgg3
  z3 := Tryz.sizeOf3
  v3 := Tryz.zeroValue3
  t37 := Tryz.underlying22
  a37 := Tryz.isAgg22
  z37 := Tryz.sizeOf22
  v37 := Tryz.zeroValue22
  t70 := Tryz.underlying94
  a70 := Tryz.isAgg94
  z70 := Tryz.sizeOf94
  v70 := Tryz.zeroValue94
  t72 := Tryz.underlying96
  a72 := Tryz.isAgg96
  z72 := Tryz.sizeOf96
  v72 := Tryz.zeroValue96 }
theorem Tryz.Builder_Extra_241 : Builder.Extra Tryz.prog Tryz.lays241_ren := {
  sizeBuilder := by kernel_rfl
  liesBuilder := by kernel_rfl
  t5 := Tryz.underlying5
  a5 := Tryz.isAgg5
  z5 := Tryz.sizeOf5
  v5 := Tryz.zeroValue5
  infoByte := by kernel_rfl
  cellsByte := by kernel_rfl
  sizeByte := by kernel_rfl
  neB5 := by decide }
open Go.RowKit in
/-- (*strings.Builder).grow (no doc but "grow copies the buffer to a new, larger buffer so that there are at least n bytes of capacity beyond len(b.buf)."): AT A BUILDER WITHOUT A BUFFER: a new row of whatever bytes for its buffer, none of them its own yet. Three draws. (LAID: no walk: one application.) -/
theorem Tryz.Builder_grow_fresh (B b n : Nat) (w : World) (hB : B ≤ b) (hbk : w.heap[b]? = some (.cells #[.pointer (some ⟨b, 0, none⟩), .slice none 0 0] 96 (0, 0))) (hBw : B ≤ w.heap.size) (hn : n ≤ 281474976710656) :
    Calls Tryz.prog 100 #[.pointer (some ⟨b, 0, none⟩), .int .i64 n] w fun e w' => e = .returned (.tuple #[]) ∧ (Lib.BuilderAt 96 5 B b (.pointer (some ⟨b, 0, none⟩)) [] w' ∧ Below B w w') := Any.Builder_grow_fresh Tryz.lays241 Tryz.Builder_Extra_241 B b n w hB hbk hBw hn
def Tryz.lays165_ren : Go.Shelf.Ren := ⟨fun | 165 => 88 | 240 => 99 | 241 => 100 | 276 => 104 | 277 => 105 | n => n, fun | 70 => 94 | 3 => 3 | 0 => 0 | 4 => 4 | 9 => 9 | 20 => 20 | 72 => 96 | 37 => 22 | 164 => 116 | 5 => 5 | n => n, fun | n => n⟩
theorem Tryz.lays165 : Go.Proofs.Lays.n165 Tryz.prog Tryz.lays165_ren := {
  mixed := by kernel_rfl
  f165 := Tryz.func88.trans (congrArg some (by kernel_rfl))
  f240 := Tryz.func99.trans (congrArg some (by kernel_rfl))
  f241 := Tryz.func100.trans (congrArg some (by kernel_rfl))
  f276 := Tryz.func104.trans (congrArg some (by kernel_rfl))
  f277 := Tryz.func105.trans (congrArg some (by kernel_rfl))
  t0 := Tryz.underlying0
  a0 := Tryz.isAgg0
  z0 := Tryz.sizeOf0
  v0 := Tryz.zeroValue0
  t3 := Tryz.underlying3
  a3 := Tryz.isAgg3
  z3 := Tryz.sizeOf3
  v3 := Tryz.zeroValue3
  t4 := Tryz.underlying4
  a4 := Tryz.isAgg4
  z4 := Tryz.sizeOf4
  v4 := Tryz.zeroValue4
  t9 := Tryz.underlying9
  a9 := Tryz.isAgg9
  z9 := Tryz.sizeOf9
  v9 := Tryz.zeroValue9
  t20 := Tryz.underlying20
  a20 := Tryz.isAgg20
  z20 := Tryz.sizeOf20
  v20 := Tryz.zeroValue20
  t37 := Tryz.underlying22
  a37 := Tryz.isAgg22
  z37 := Tryz.sizeOf22
  v37 := Tryz.zeroValue22
  t70 := Tryz.underlying94
  a70 := Tryz.isAgg94
  z70 := Tryz.sizeOf94
  v70 := Tryz.zeroValue94
  t72 := Tryz.underlying96
  a72 := Tryz.isAgg96
  z72 := Tryz.sizeOf96
  v72 := Tryz.zeroValue96
  t164 := Tryz.underlying116
  a164 := Tryz.isAgg116
  z164 := Tryz.sizeOf116
  v164 := Tryz.zeroValue116 }
theorem Tryz.Builder_Extra_165 : Builder.Extra Tryz.prog Tryz.lays165_ren := {
  sizeBuilder := by kernel_rfl
  liesBuilder := by kernel_rfl
  t5 := Tryz.underlying5
  a5 := Tryz.isAgg5
  z5 := Tryz.sizeOf5
  v5 := Tryz.zeroValue5
  infoByte := by kernel_rfl
  cellsByte := by kernel_rfl
  sizeByte := by kernel_rfl
  neB5 := by decide }
open Go.RowKit in
/-- (*strings.Builder).Grow AT A BUILDER THAT HAS NOT BEEN WRITTEN ('var b strings.Builder; b.Grow(n)'): "Grow grows b's capacity, if necessary, to guarantee space for another n bytes.": it holds no byte behind it as before it. (LAID: no walk: one application.) -/
theorem Tryz.Builder_Grow_fresh (B b n : Nat) (w : World) (hB : B ≤ b) (hbk : w.heap[b]? = some (.cells #[.pointer none, .slice none 0 0] 96 (0, 0))) (hBw : B ≤ w.heap.size) (hn : n ≤ 281474976710656) :
    Calls Tryz.prog 88 #[.pointer (some ⟨b, 0, none⟩), .int .i64 n] w fun e w' => e = .returned (.tuple #[]) ∧ (Lib.BuilderAt 96 5 B b (.pointer (some ⟨b, 0, none⟩)) [] w' ∧ Below B w w') := Any.Builder_Grow_fresh Tryz.lays165 Tryz.Builder_Extra_165 B b n w hB hbk hBw hn
def Tryz.lays156_ren : Go.Shelf.Ren := ⟨fun | 156 => 63 | 165 => 88 | 166 => 89 | 169 => 90 | 240 => 99 | 241 => 100 | 276 => 104 | 277 => 105 | n => n, fun | 31 => 77 | 9 => 9 | 3 => 3 | 4 => 4 | 0 => 0 | 20 => 20 | 72 => 96 | 76 => 100 | 70 => 94 | 37 => 22 | 75 => 99 | 127 => 111 | 164 => 116 | 5 => 5 | 80 => 102 | n => n, fun | n => n⟩
theorem Tryz.lays156 : Go.Proofs.Lays.n156 Tryz.prog Tryz.lays156_ren := {
  mixed := by kernel_rfl
  f156 := Tryz.func63.trans (congrArg some (by kernel_rfl))
  f165 := Tryz.func88.trans (congrArg some (by kernel_rfl))
  f166 := Tryz.func89.trans (congrArg some (by kernel_rfl))
  f169 := Tryz.func90.trans (congrArg some (by kernel_rfl))
  f240 := Tryz.func99.trans (congrArg some (by kernel_rfl))
  f241 := Tryz.func100.trans (congrArg some (by kernel_rfl))
  f276 := Tryz.func104.trans (congrArg some (by kernel_rfl))
  f277 := Tryz.func105.trans (congrArg some (by kernel_rfl))
  t0 := Tryz.underlying0
  a0 := Tryz.isAgg0
  z0 := Tryz.sizeOf0
  v0 := Tryz.zeroValue0
  t3 := Tryz.underlying3
  a3 := Tryz.isAgg3
  z3 := Tryz.sizeOf3
  v3 := Tryz.zeroValue3
  t4 := Tryz.underlying4
  a4 := Tryz.isAgg4
  z4 := Tryz.sizeOf4
  v4 := Tryz.zeroValue4
  t9 := Tryz.underlying9
  a9 := Tryz.isAgg9
  z9 := Tryz.sizeOf9
  v9 := Tryz.zeroValue9
  t20 := Tryz.underlying20
  a20 := Tryz.isAgg20
  z20 := Tryz.sizeOf20
  v20 := Tryz.zeroValue20
  t31 := Tryz.underlying77
  a31 := Tryz.isAgg77
  z31 := Tryz.sizeOf77
  v31 := Tryz.zeroValue77
  t37 := Tryz.underlying22
  a37 := Tryz.isAgg22
  z37 := Tryz.sizeOf22
  v37 := Tryz.zeroValue22
  t70 := Tryz.underlying94
  a70 := Tryz.isAgg94
  z70 := Tryz.sizeOf94
  v70 := Tryz.zeroValue94
  t72 := Tryz.underlying96
  a72 := Tryz.isAgg96
  z72 := Tryz.sizeOf96
  v72 := Tryz.zeroValue96
  t75 := Tryz.underlying99
  a75 := Tryz.isAgg99
  z75 := Tryz.sizeOf99
  v75 := Tryz.zeroValue99
  t76 := Tryz.underlying100
  a76 := Tryz.isAgg100
  z76 := Tryz.sizeOf100
  v76 := Tryz.zeroValue100
  t127 := Tryz.underlying111
  a127 := Tryz.isAgg111
  z127 := Tryz.sizeOf111
  v127 := Tryz.zeroValue111
  t164 := Tryz.underlying116
  a164 := Tryz.isAgg116
  z164 := Tryz.sizeOf116
  v164 := Tryz.zeroValue116 }
theorem Tryz.Builder_Extra_156 : Builder.Extra Tryz.prog Tryz.lays156_ren := {
  sizeBuilder := by kernel_rfl
  liesBuilder := by kernel_rfl
  t5 := Tryz.underlying5
  a5 := Tryz.isAgg5
  z5 := Tryz.sizeOf5
  v5 := Tryz.zeroValue5
  infoByte := by kernel_rfl
  cellsByte := by kernel_rfl
  sizeByte := by kernel_rfl
  neB5 := by decide }
open Go.RowKit in
/-- No element: the empty string; the world is as it was. (Whatever the slice's address and capacity: a nil slice too.) (LAID: no walk: one application.) -/
theorem Tryz.strings_Join_none (a : Option Addr) (c : Nat) (sep : ByteArray) (w : World) :
    Calls Tryz.prog 63 #[.slice a 0 c, .string sep] w fun e w' => e = .returned (.string ⟨#[]⟩) ∧ w' = w := Any.strings_Join_none Tryz.lays156 Tryz.Builder_Extra_156 a c sep w
open Go.RowKit in
/-- strings.Join: "Join concatenates the elements of its first argument to create a single string. The separator string sep is placed between elements in the resulting string.": HOWEVER MANY ELEMENTS. Below the heap's end the world is as it was. (LAID: no walk: one application.) -/
theorem Tryz.strings_Join (bk o c : Nat) (xs : List ByteArray) (sep : ByteArray) (w : World) (hcells : ∀ (j : Nat) x, xs[j]? = some x → w.cell? ⟨bk, o + j, none⟩ = some (.string x)) (hbk : bk < w.heap.size) (hN : xs.length ≤ 140737488355328) (hcap : xs.length ≤ c) (hlen : (Lib.join (xs.map (·.data.toList)) sep.data.toList).length ≤ 140737488355328) :
    Calls Tryz.prog 63 #[.slice (some ⟨bk, o, none⟩) xs.length c, .string sep] w fun e w' => e = .returned (.string ⟨(Lib.join (xs.map (·.data.toList)) sep.data.toList).toArray⟩) ∧ Below w.heap.size w w' := Any.strings_Join Tryz.lays156 Tryz.Builder_Extra_156 bk o c xs sep w hcells hbk hN hcap hlen
def Tryz.lays128_ren : Go.Shelf.Ren := ⟨fun | 128 => 115 | n => n, fun | 51 => 104 | 3 => 3 | 4 => 4 | 46 => 81 | 5 => 5 | 9 => 9 | n => n, fun | n => n⟩
theorem Tryz.lays128 : Go.Proofs.Lays.n128 Tryz.prog Tryz.lays128_ren := {
  mixed := by kernel_rfl
  f128 := Tryz.func115.trans (congrArg some (by kernel_rfl))
  t3 := Tryz.underlying3
  a3 := Tryz.isAgg3
  z3 := Tryz.sizeOf3
  v3 := Tryz.zeroValue3
  t4 := Tryz.underlying4
  a4 := Tryz.isAgg4
  z4 := Tryz.sizeOf4
  v4 := Tryz.zeroValue4
  t5 := Tryz.underlying5
  a5 := Tryz.isAgg5
  z5 := Tryz.sizeOf5
  v5 := Tryz.zeroValue5
  t9 := Tryz.underlying9
  a9 := Tryz.isAgg9
  z9 := Tryz.sizeOf9
  v9 := Tryz.zeroValue9
  t46 := Tryz.underlying81
  a46 := Tryz.isAgg81
  z46 := Tryz.sizeOf81
  v46 := Tryz.zeroValue81
  t51 := Tryz.underlying104
  a51 := Tryz.isAgg104
  z51 := Tryz.sizeOf104
  v51 := Tryz.zeroValue104 }
/-- bits.Len32: "Len32 returns the minimum number of bits required to represent x; the result is 0 for x == 0.": IT RETURNS 'Lib.bitLen x'; the world is as it was. ('h0', 'h1': x is a uint32.) (LAID: no walk: one application.) -/
theorem Tryz.bits_Len32 (x : Int) (w : World) (h0 : 0 ≤ x) (h1 : x ≤ 4294967295) :
    Calls Tryz.prog 115 #[.int .u32 x] w fun e w' => e = .returned (.int .i64 (Lib.bitLen x.toNat)) ∧ w' = w := Any.bits_Len32 Tryz.lays128 x w h0 h1
def Tryz.lays125_ren : Go.Shelf.Ren := ⟨fun | 125 => 102 | 128 => 115 | 129 => 116 | n => n, fun | 46 => 81 | 3 => 3 | 51 => 104 | 53 => 69 | 4 => 4 | 5 => 5 | 9 => 9 | n => n, fun | n => n⟩
theorem Tryz.lays125 : Go.Proofs.Lays.n125 Tryz.prog Tryz.lays125_ren := {
  mixed := by kernel_rfl
  f125 := Tryz.func102.trans (congrArg some (by kernel_rfl))
  f128 := Tryz.func115.trans (congrArg some (by kernel_rfl))
  f129 := Tryz.func116.trans (congrArg some (by kernel_rfl))
  t3 := Tryz.underlying3
  a3 := Tryz.isAgg3
  z3 := Tryz.sizeOf3
  v3 := Tryz.zeroValue3
  t4 := Tryz.underlying4
  a4 := Tryz.isAgg4
  z4 := Tryz.sizeOf4
  v4 := Tryz.zeroValue4
  t5 := Tryz.underlying5
  a5 := Tryz.isAgg5
  z5 := Tryz.sizeOf5
  v5 := Tryz.zeroValue5
  t9 := Tryz.underlying9
  a9 := Tryz.isAgg9
  z9 := Tryz.sizeOf9
  v9 := Tryz.zeroValue9
  t46 := Tryz.underlying81
  a46 := Tryz.isAgg81
  z46 := Tryz.sizeOf81
  v46 := Tryz.zeroValue81
  t51 := Tryz.underlying104
  a51 := Tryz.isAgg104
  z51 := Tryz.sizeOf104
  v51 := Tryz.zeroValue104
  t53 := Tryz.underlying69
  a53 := Tryz.isAgg69
  z53 := Tryz.sizeOf69
  v53 := Tryz.zeroValue69 }
/-- bits.Len: "Len returns the minimum number of bits required to represent x; the result is 0 for x == 0.": IT RETURNS 'Lib.bitLen x'; the world is as it was. (A uint has 64 bits in the model.) ITS CALLEE bits.Len64 IS MET BY ITS OWN CONTRACT OFF THE SHELF (lay that first). (LAID: no walk: one application.) -/
theorem Tryz.bits_Len (x : Int) (w : World) (h0 : 0 ≤ x) (h1 : x ≤ 18446744073709551615) :
    Calls Tryz.prog 102 #[.int .u64 x] w fun e w' => e = .returned (.int .i64 (Lib.bitLen x.toNat)) ∧ w' = w := Any.bits_Len Tryz.lays125 x w h0 h1
def Tryz.lays215_ren : Go.Shelf.Ren := ⟨fun | 215 => 84 | n => n, fun | 3 => 3 | 4 => 4 | n => n, fun | n => n⟩
theorem Tryz.lays215 : Go.Proofs.Lays.n215 Tryz.prog Tryz.lays215_ren := {
  mixed := by kernel_rfl
  f215 := Tryz.func84.trans (congrArg some (by kernel_rfl))
  t3 := Tryz.underlying3
  a3 := Tryz.isAgg3
  z3 := Tryz.sizeOf3
  v3 := Tryz.zeroValue3
  t4 := Tryz.underlying4
  a4 := Tryz.isAgg4
  z4 := Tryz.sizeOf4
  v4 := Tryz.zeroValue4 }
open Go.RowKit in
/-- cmp.isNaN at int: 'x != x': false. (LAID: no walk: one application.) -/
theorem Tryz.cmp_isNaN_int (x : Int) (w : World) :
    Calls Tryz.prog 84 #[.int .i64 x] w fun e w' => e = .returned (.bool false) ∧ w' = w := Any.cmp_isNaN_int Tryz.lays215 x w
def Tryz.lays122_ren : Go.Shelf.Ren := ⟨fun | 122 => 47 | 215 => 84 | n => n, fun | 3 => 3 | 4 => 4 | n => n, fun | n => n⟩
theorem Tryz.lays122 : Go.Proofs.Lays.n122 Tryz.prog Tryz.lays122_ren := {
  mixed := by kernel_rfl
  f122 := Tryz.func47.trans (congrArg some (by kernel_rfl))
  f215 := Tryz.func84.trans (congrArg some (by kernel_rfl))
  t3 := Tryz.underlying3
  a3 := Tryz.isAgg3
  z3 := Tryz.sizeOf3
  v3 := Tryz.zeroValue3
  t4 := Tryz.underlying4
  a4 := Tryz.isAgg4
  z4 := Tryz.sizeOf4
  v4 := Tryz.zeroValue4 }
open Go.RowKit in
/-- cmp.Compare at int: "Compare returns -1 if x is less than y, 0 if x equals y, +1 if x is greater than y.": IT RETURNS 'Lib.compareInt x y'; the world is as it was. (LAID: no walk: one application.) -/
theorem Tryz.cmp_Compare_int (x y : Int) (w : World) :
    Calls Tryz.prog 47 #[.int .i64 x, .int .i64 y] w fun e w' => e = .returned (.int .i64 (Lib.compareInt x y)) ∧ w' = w := Any.cmp_Compare_int Tryz.lays122 x y w
open Go.RowKit in
/-- (*strings.Builder).String: "String returns the accumulated string.": OF A BUILDER THAT HOLDS AT LEAST ONE BYTE. ✋ THE MODEL FREEZES THOSE BYTES IN THE BUFFER (unsafe.String): a later write INTO them ends the model's run without an answer; a later append BEHIND them goes on. The statement's order of evaluation is drawn: one draw. THE FORM '_f': IT SAYS BESIDES THAT THE BUILDER IS A BUILDER STILL ('Lib.IsBuilderF', the same bytes): SO IT CAN BE WRITTEN ON: 'b.WriteString(b.String()[:k])'. (LAID: no walk: one application.) -/
theorem Tryz.Builder_String_f (B b : Nat) (l : List UInt8) (w : World) (h : Lib.IsBuilderF 96 5 B b (Lib.byteCells l) w) (h0 : l ≠ []) :
    Calls Tryz.prog 90 #[.pointer (some ⟨b, 0, none⟩)] w fun e w' => e = .returned (.string ⟨l.toArray⟩) ∧ (Lib.IsBuilderF 96 5 B b (Lib.byteCells l) w' ∧ Below B w w') := Any.Builder_String_f Tryz.lays169 Tryz.Builder_Extra_169 B b l w h h0
open Go.RowKit in
/-- (*strings.Builder).String OF A BUILDER THAT HOLDS NO BYTE: the empty string; THE FORM '_f': a builder still. (LAID: no walk: one application.) -/
theorem Tryz.Builder_String_empty_f (B b : Nat) (w : World) (h : Lib.IsBuilderF 96 5 B b [] w) (hBw : B ≤ w.heap.size) :
    Calls Tryz.prog 90 #[.pointer (some ⟨b, 0, none⟩)] w fun e w' => e = .returned (.string ⟨#[]⟩) ∧ (Lib.IsBuilderF 96 5 B b [] w' ∧ Below B w w') := Any.Builder_String_empty_f Tryz.lays169 Tryz.Builder_Extra_169 B b w h hBw
open Go.RowKit in
/-- (*strings.Builder).String: "String returns the accumulated string.": WHATEVER THE BUILDER HOLDS; THE FORM '_f': OF A BUILDER THAT MAY HAVE BEEN READ BEFORE; AND IT IS A BUILDER STILL, holding the same bytes: it can be written on. (LAID: no walk: one application.) -/
theorem Tryz.Builder_String_any_f (B b : Nat) (l : List UInt8) (w : World) (h : Lib.IsBuilderF 96 5 B b (Lib.byteCells l) w) (hBw : B ≤ w.heap.size) :
    Calls Tryz.prog 90 #[.pointer (some ⟨b, 0, none⟩)] w fun e w' => e = .returned (.string ⟨l.toArray⟩) ∧ (Lib.IsBuilderF 96 5 B b (Lib.byteCells l) w' ∧ Below B w w') := Any.Builder_String_any_f Tryz.lays169 Tryz.Builder_Extra_169 B b l w h hBw
open Go.RowKit in
/-- (*strings.Builder).String: "String returns the accumulated string.": OF A BUILDER THAT HOLDS AT LEAST ONE BYTE. ✋ THE MODEL FREEZES THOSE BYTES IN THE BUFFER (unsafe.String): a later write INTO them ends the model's run without an answer; a later append BEHIND them goes on. The statement's order of evaluation is drawn: one draw. THE FORM '_k': OVER 'Lib.IsBuilderF' (a builder that 'String()' may have read), AND WITH THE FRAME THAT REACHES ABOVE THE BUILDER: 'Lib.OthersKept': every block that is not b and is no row of uint8's stands as it stood: the iterator of a range among them. (LAID: no walk: one application.) -/
theorem Tryz.Builder_String_k (B b : Nat) (l : List UInt8) (w : World) (h : Lib.IsBuilderF 96 5 B b (Lib.byteCells l) w) (h0 : l ≠ []) :
    Calls Tryz.prog 90 #[.pointer (some ⟨b, 0, none⟩)] w fun e w' => e = .returned (.string ⟨l.toArray⟩) ∧ (Lib.IsBuilderF 96 5 B b (Lib.byteCells l) w' ∧ Below B w w' ∧ Lib.OthersKept 5 (some b) w w') := Any.Builder_String_k Tryz.lays169 Tryz.Builder_Extra_169 B b l w h h0
open Go.RowKit in
/-- (*strings.Builder).String OF A BUILDER THAT HOLDS NO BYTE: the empty string; THE FORM '_k': OVER 'Lib.IsBuilderF' (a builder that 'String()' may have read), AND WITH THE FRAME THAT REACHES ABOVE THE BUILDER: 'Lib.OthersKept': every block that is not b and is no row of uint8's stands as it stood: the iterator of a range among them. (LAID: no walk: one application.) -/
theorem Tryz.Builder_String_empty_k (B b : Nat) (w : World) (h : Lib.IsBuilderF 96 5 B b [] w) (hBw : B ≤ w.heap.size) :
    Calls Tryz.prog 90 #[.pointer (some ⟨b, 0, none⟩)] w fun e w' => e = .returned (.string ⟨#[]⟩) ∧ (Lib.IsBuilderF 96 5 B b [] w' ∧ Below B w w' ∧ Lib.OthersKept 5 (some b) w w') := Any.Builder_String_empty_k Tryz.lays169 Tryz.Builder_Extra_169 B b w h hBw
open Go.RowKit in
/-- (*strings.Builder).String: "String returns the accumulated string.": WHATEVER THE BUILDER HOLDS; THE FORM '_k': OVER 'Lib.IsBuilderF' (a builder that 'String()' may have read), AND WITH THE FRAME THAT REACHES ABOVE THE BUILDER: 'Lib.OthersKept': every block that is not b and is no row of uint8's stands as it stood: the iterator of a range among them. (LAID: no walk: one application.) -/
theorem Tryz.Builder_String_any_k (B b : Nat) (l : List UInt8) (w : World) (h : Lib.IsBuilderF 96 5 B b (Lib.byteCells l) w) (hBw : B ≤ w.heap.size) :
    Calls Tryz.prog 90 #[.pointer (some ⟨b, 0, none⟩)] w fun e w' => e = .returned (.string ⟨l.toArray⟩) ∧ (Lib.IsBuilderF 96 5 B b (Lib.byteCells l) w' ∧ Below B w w' ∧ Lib.OthersKept 5 (some b) w w') := Any.Builder_String_any_k Tryz.lays169 Tryz.Builder_Extra_169 B b l w h hBw
open Go.RowKit in
/-- (*strings.Builder).grow (no doc but "grow copies the buffer to a new, larger buffer so that there are at least n bytes of capacity beyond len(b.buf)."): AT A BUILDER WITHOUT A BUFFER: a new row of whatever bytes for its buffer, none of them its own yet. Three draws. (LAID: no walk: one application.) -/
theorem Tryz.Builder_grow_fresh_cap (B b n : Nat) (w : World) (hB : B ≤ b) (hbk : w.heap[b]? = some (.cells #[.pointer (some ⟨b, 0, none⟩), .slice none 0 0] 96 (0, 0))) (hBw : B ≤ w.heap.size) (hn : n ≤ 281474976710656) :
    Calls Tryz.prog 100 #[.pointer (some ⟨b, 0, none⟩), .int .i64 n] w fun e w' => e = .returned (.tuple #[]) ∧ (Lib.BuilderAt 96 5 B b (.pointer (some ⟨b, 0, none⟩)) [] w' ∧ Below B w w') ∧ ∃ p cap, w'.cell? ⟨b, 1, none⟩ = some (.slice p 0 cap) ∧ n ≤ cap := Any.Builder_grow_fresh_cap Tryz.lays241 Tryz.Builder_Extra_241 B b n w hB hbk hBw hn
open Go.RowKit in
/-- (*strings.Builder).Grow AT A BUILDER THAT HAS NOT BEEN WRITTEN ('var b strings.Builder; b.Grow(n)'): "Grow grows b's capacity, if necessary, to guarantee space for another n bytes.": it holds no byte behind it as before it. (LAID: no walk: one application.) -/
theorem Tryz.Builder_Grow_fresh_cap (B b n : Nat) (w : World) (hB : B ≤ b) (hbk : w.heap[b]? = some (.cells #[.pointer none, .slice none 0 0] 96 (0, 0))) (hBw : B ≤ w.heap.size) (hn : n ≤ 281474976710656) :
    Calls Tryz.prog 88 #[.pointer (some ⟨b, 0, none⟩), .int .i64 n] w fun e w' => e = .returned (.tuple #[]) ∧ (Lib.BuilderAt 96 5 B b (.pointer (some ⟨b, 0, none⟩)) [] w' ∧ Below B w w') ∧ ∃ p cap, w'.cell? ⟨b, 1, none⟩ = some (.slice p 0 cap) ∧ n ≤ cap := Any.Builder_Grow_fresh_cap Tryz.lays165 Tryz.Builder_Extra_165 B b n w hB hbk hBw hn
def Tryz.lays129_ren : Go.Shelf.Ren := ⟨fun | 129 => 116 | n => n, fun | 53 => 69 | 3 => 3 | 4 => 4 | 46 => 81 | 5 => 5 | 9 => 9 | n => n, fun | n => n⟩
theorem Tryz.lays129 : Go.Proofs.Lays.n129 Tryz.prog Tryz.lays129_ren := {
  mixed := by kernel_rfl
  f129 := Tryz.func116.trans (congrArg some (by kernel_rfl))
  t3 := Tryz.underlying3
  a3 := Tryz.isAgg3
  z3 := Tryz.sizeOf3
  v3 := Tryz.zeroValue3
  t4 := Tryz.underlying4
  a4 := Tryz.isAgg4
  z4 := Tryz.sizeOf4
  v4 := Tryz.zeroValue4
  t5 := Tryz.underlying5
  a5 := Tryz.isAgg5
  z5 := Tryz.sizeOf5
  v5 := Tryz.zeroValue5
  t9 := Tryz.underlying9
  a9 := Tryz.isAgg9
  z9 := Tryz.sizeOf9
  v9 := Tryz.zeroValue9
  t46 := Tryz.underlying81
  a46 := Tryz.isAgg81
  z46 := Tryz.sizeOf81
  v46 := Tryz.zeroValue81
  t53 := Tryz.underlying69
  a53 := Tryz.isAgg69
  z53 := Tryz.sizeOf69
  v53 := Tryz.zeroValue69 }
/-- bits.Len64: "Len64 returns the minimum number of bits required to represent x; the result is 0 for x == 0.": IT RETURNS 'Lib.bitLen x'; the world is as it was. ('h0', 'h1': x is a uint64.) (LAID: no walk: one application.) -/
theorem Tryz.bits_Len64 (x : Int) (w : World) (h0 : 0 ≤ x) (h1 : x ≤ 18446744073709551615) :
    Calls Tryz.prog 116 #[.int .u64 x] w fun e w' => e = .returned (.int .i64 (Lib.bitLen x.toNat)) ∧ w' = w := Any.bits_Len64 Tryz.lays129 x w h0 h1
def Tryz.lays189_ren : Go.Shelf.Ren := ⟨fun | 189 => 93 | 125 => 102 | 257 => 101 | 128 => 115 | 129 => 116 | 294 => 106 | 295 => 107 | 296 => 108 | 297 => 109 | 298 => 110 | 299 => 111 | 216 => 112 | 300 => 113 | 301 => 114 | 328 => 117 | 329 => 118 | 330 => 119 | 331 => 120 | 332 => 121 | 215 => 84 | 343 => 122 | n => n, fun | 28 => 31 | 3 => 3 | 46 => 81 | 0 => 0 | 51 => 104 | 53 => 69 | 4 => 4 | 183 => 121 | 182 => 120 | 131 => 43 | 5 => 5 | 9 => 9 | 218 => 126 | 222 => 130 | 228 => 132 | 229 => 133 | n => n, fun | n => n⟩
theorem Tryz.lays189 : Go.Proofs.Lays.n189 Tryz.prog Tryz.lays189_ren := {
  mixed := by kernel_rfl
  f125 := Tryz.func102.trans (congrArg some (by kernel_rfl))
  f128 := Tryz.func115.trans (congrArg some (by kernel_rfl))
  f129 := Tryz.func116.trans (congrArg some (by kernel_rfl))
  f189 := Tryz.func93.trans (congrArg some (by kernel_rfl))
  f215 := Tryz.func84.trans (congrArg some (by kernel_rfl))
  f216 := Tryz.func112.trans (congrArg some (by kernel_rfl))
  f257 := Tryz.func101.trans (congrArg some (by kernel_rfl))
  f294 := Tryz.func106.trans (congrArg some (by kernel_rfl))
  f295 := Tryz.func107.trans (congrArg some (by kernel_rfl))
  f296 := Tryz.func108.trans (congrArg some (by kernel_rfl))
  f297 := Tryz.func109.trans (congrArg some (by kernel_rfl))
  f298 := Tryz.func110.trans (congrArg some (by kernel_rfl))
  f299 := Tryz.func111.trans (congrArg some (by kernel_rfl))
  f300 := Tryz.func113.trans (congrArg some (by kernel_rfl))
  f301 := Tryz.func114.trans (congrArg some (by kernel_rfl))
  f328 := Tryz.func117.trans (congrArg some (by kernel_rfl))
  f329 := Tryz.func118.trans (congrArg some (by kernel_rfl))
  f330 := Tryz.func119.trans (congrArg some (by kernel_rfl))
  f331 := Tryz.func120.trans (congrArg some (by kernel_rfl))
  f332 := Tryz.func121.trans (congrArg some (by kernel_rfl))
  f343 := Tryz.func122.trans (congrArg some (by kernel_rfl))
  t0 := Tryz.underlying0
  a0 := Tryz.isAgg0
  z0 := Tryz.sizeOf0
  v0 := Tryz.zeroValue0
  t3 := Tryz.underlying3
  a3 := Tryz.isAgg3
  z3 := Tryz.sizeOf3
  v3 := Tryz.zeroValue3
  t4 := Tryz.underlying4
  a4 := Tryz.isAgg4
  z4 := Tryz.sizeOf4
  v4 := Tryz.zeroValue4
  t5 := Tryz.underlying5
  a5 := Tryz.isAgg5
  z5 := Tryz.sizeOf5
  v5 := Tryz.zeroValue5
  t9 := Tryz.underlying9
  a9 := Tryz.isAgg9
  z9 := Tryz.sizeOf9
  v9 := Tryz.zeroValue9
  t28 := Tryz.underlying31
  a28 := Tryz.isAgg31
  z28 := Tryz.sizeOf31
  v28 := Tryz.zeroValue31
  t46 := Tryz.underlying81
  a46 := Tryz.isAgg81
  z46 := Tryz.sizeOf81
  v46 := Tryz.zeroValue81
  t51 := Tryz.underlying104
  a51 := Tryz.isAgg104
  z51 := Tryz.sizeOf104
  v51 := Tryz.zeroValue104
  t53 := Tryz.underlying69
  a53 := Tryz.isAgg69
  z53 := Tryz.sizeOf69
  v53 := Tryz.zeroValue69
  t131 := Tryz.underlying43
  a131 := Tryz.isAgg43
  z131 := Tryz.sizeOf43
  v131 := Tryz.zeroValue43
  t182 := Tryz.underlying120
  a182 := Tryz.isAgg120
  z182 := Tryz.sizeOf120
  v182 := Tryz.zeroValue120
  t183 := Tryz.underlying121
  a183 := Tryz.isAgg121
  z183 := Tryz.sizeOf121
  v183 := Tryz.zeroValue121
  t218 := Tryz.underlying126
  a218 := Tryz.isAgg126
  z218 := Tryz.sizeOf126
  v218 := Tryz.zeroValue126
  t222 := Tryz.underlying130
  a222 := Tryz.isAgg130
  z222 := Tryz.sizeOf130
  v222 := Tryz.zeroValue130
  t228 := Tryz.underlying132
  a228 := Tryz.isAgg132
  z228 := Tryz.sizeOf132
  v228 := Tryz.zeroValue132
  t229 := Tryz.underlying133
  a229 := Tryz.isAgg133
  z229 := Tryz.sizeOf133
  v229 := Tryz.zeroValue133 }
open Go.Sort Go.RowKit in
theorem Tryz.slices_Sort_int (blk off cap : Nat) (zs : List Int) (w : World) (hH : Holds (Value.int .i64) w blk off zs.toArray) (hblk : blk < w.heap.size) (hsz : zs.length < 4611686018427387904) :
    Calls Tryz.prog 93 #[.slice (some ⟨blk, off, none⟩) zs.length cap] w fun e w' =>
      e = .returned (.tuple #[]) ∧ ∃ n os, w' = grow (putRow (Value.int .i64) (Sort.ahead w n) blk off (zs.mergeSort fun x y => decide (x ≤ y)).toArray) os := Any.slices_Sort_int Tryz.lays189 blk off cap zs w hH hblk hsz
def Tryz.laysNm220_ren : Go.Shelf.Ren := ⟨fun | 20 => 94 | n => n, fun | 22 => 31 | 3 => 3 | 4 => 4 | 0 => 0 | n => n, fun | n => n⟩
theorem Tryz.laysNm220 : Go.Proofs.Lays2.n20 Tryz.prog Tryz.laysNm220_ren := {
  mixed := by kernel_rfl
  f20 := Tryz.func94.trans (congrArg some (by kernel_rfl))
  t0 := Tryz.underlying0
  a0 := Tryz.isAgg0
  z0 := Tryz.sizeOf0
  v0 := Tryz.zeroValue0
  t3 := Tryz.underlying3
  a3 := Tryz.isAgg3
  z3 := Tryz.sizeOf3
  v3 := Tryz.zeroValue3
  t4 := Tryz.underlying4
  a4 := Tryz.isAgg4
  z4 := Tryz.sizeOf4
  v4 := Tryz.zeroValue4
  t22 := Tryz.underlying31
  a22 := Tryz.isAgg31
  z22 := Tryz.sizeOf31
  v22 := Tryz.zeroValue31
  i3 := by kernel_rfl }
open Go.RowKit Go.Lib Go.Sort in
/-- slices.Compact at []int, over an array: the library's two loops are walked. (LAID: no walk: one application.) -/
theorem Tryz.slices_Compact_int_arr (blk off cap : Nat) (d : Array Int) (w : World) (hH : Holds encI w blk off d) (hsz : d.size ≤ 9223372036854775807) (hcap : d.size ≤ cap) :
    Calls Tryz.prog 94 #[.slice (some ⟨blk, off, none⟩) d.size cap] w fun e w' => e = .returned (.slice (some ⟨blk, off, none⟩) (compactUpTo d d.size).length cap) ∧ ∃ q, w' = putRow encI (Sort.ahead w q) blk off (compactUpTo d d.size ++ List.replicate (d.size - (compactUpTo d d.size).length) 0).toArray := Any.slices_Compact_int_arr Tryz.laysNm220 blk off cap d w hH hsz hcap
open Go.RowKit Go.Lib Go.Sort in
/-- slices.Compact at []int: "Compact replaces consecutive runs of equal elements with a single copy. This is like the uniq command found on Unix. Compact modifies the contents of the slice s and returns the modified slice, which may have a smaller length. Compact zeroes the elements between the new length and the original length. The result preserves the nilness of s.": IT RETURNS THE SLICE CUT TO 'Lib.compact zs'; ITS CELLS HOLD 'Lib.compact zs', THEN ZERO VALUES up to the old length; all else is as it was, but for the count of draws. IN THE WORDS OF slices.Sort's CONTRACT ('Holds', 'putRow'): so the everyday 'slices.Sort(xs); xs = slices.Compact(xs)' goes from the one contract to the other. It asks 'zs.length ≤ cap' (every slice's: the reslicing 's[:k]' looks at it). Length 0, nil: '.._empty'. (LAID: no walk: one application.) -/
theorem Tryz.slices_Compact_int (blk off cap : Nat) (zs : List Int) (w : World) (hH : Holds (Value.int .i64) w blk off zs.toArray) (hsz : zs.length ≤ 9223372036854775807) (hcap : zs.length ≤ cap) :
    Calls Tryz.prog 94 #[.slice (some ⟨blk, off, none⟩) zs.length cap] w fun e w' => e = .returned (.slice (some ⟨blk, off, none⟩) (Lib.compact zs).length cap) ∧ ∃ q, w' = putRow (Value.int .i64) (Sort.ahead w q) blk off (Lib.compact zs ++ List.replicate (zs.length - (Lib.compact zs).length) 0).toArray := Any.slices_Compact_int Tryz.laysNm220 blk off cap zs w hH hsz hcap
open Go.RowKit Go.Lib Go.Sort in
/-- The same at a slice of length 0, a nil one too: it comes back as it is. (LAID: no walk: one application.) -/
theorem Tryz.slices_Compact_int_empty (a : Option Addr) (cap : Nat) (w : World) :
    Calls Tryz.prog 94 #[.slice a 0 cap] w fun e w' => e = .returned (.slice a 0 cap) ∧ w' = w := Any.slices_Compact_int_empty Tryz.laysNm220 a cap w
def Tryz.laysNm237_ren : Go.Shelf.Ren := ⟨fun | 37 => 84 | n => n, fun | 3 => 3 | 4 => 4 | n => n, fun | n => n⟩
theorem Tryz.laysNm237 : Go.Proofs.Lays2.n37 Tryz.prog Tryz.laysNm237_ren := {
  mixed := by kernel_rfl
  f37 := Tryz.func84.trans (congrArg some (by kernel_rfl))
  t3 := Tryz.underlying3
  a3 := Tryz.isAgg3
  z3 := Tryz.sizeOf3
  v3 := Tryz.zeroValue3
  t4 := Tryz.underlying4
  a4 := Tryz.isAgg4
  z4 := Tryz.sizeOf4
  v4 := Tryz.zeroValue4 }
open Go.RowKit Go.Lib in
/-- cmp.isNaN[int]: 'x != x': false. (LAID: no walk: one application.) -/
theorem Tryz.cmp_isNaN_int2 (x : Int) (w : World) :
    Calls Tryz.prog 84 #[.int .i64 x] w fun e w' => e = .returned (.bool false) ∧ w' = w := Any.cmp_isNaN_int2 Tryz.laysNm237 x w
def Tryz.laysNm231_ren : Go.Shelf.Ren := ⟨fun | 31 => 112 | 37 => 84 | n => n, fun | 3 => 3 | 4 => 4 | n => n, fun | n => n⟩
theorem Tryz.laysNm231 : Go.Proofs.Lays2.n31 Tryz.prog Tryz.laysNm231_ren := {
  mixed := by kernel_rfl
  f31 := Tryz.func112.trans (congrArg some (by kernel_rfl))
  f37 := Tryz.func84.trans (congrArg some (by kernel_rfl))
  t3 := Tryz.underlying3
  a3 := Tryz.isAgg3
  z3 := Tryz.sizeOf3
  v3 := Tryz.zeroValue3
  t4 := Tryz.underlying4
  a4 := Tryz.isAgg4
  z4 := Tryz.sizeOf4
  v4 := Tryz.zeroValue4 }
open Go.RowKit Go.Lib in
/-- cmp.Less[int]: "Less reports whether x is less than y.": 'x < y'; the world is as it was. (LAID: no walk: one application.) -/
theorem Tryz.cmp_Less_int2 (x y : Int) (w : World) :
    Calls Tryz.prog 112 #[.int .i64 x, .int .i64 y] w fun e w' => e = .returned (.bool (decide (x < y))) ∧ w' = w := Any.cmp_Less_int2 Tryz.laysNm231 x y w
open Go.RowKit Go.Lib Go.Sort in
/-- slices.Compact at []int, of an argument: the slice cut to 'Lib.compact (elements)'; the n cells hold that, then zeros. (LAID: no walk: one application.) -/
theorem Tryz.slices_Compact_int_cells (b off n c : Nat) (zs : List Int) (w : World) (hz : n ≤ zs.length) (hbig : n ≤ 9223372036854775807) (hcap : n ≤ c) (hc : ∀ j, j < zs.length → w.cell? ⟨b, off + j, none⟩ = some (.int .i64 (zs.getD j 0))) (hf : ∀ j, j < n → w.frozen? ⟨b, off + j, none⟩ = false) :
    Calls Tryz.prog 94 #[.slice (some ⟨b, off, none⟩) n c] w fun e w' => e = .returned (.slice (some ⟨b, off, none⟩) (Lib.compact (zs.take n)).length c) ∧ ∃ q, w' = (w.drewN q).setCells b off ((Lib.compact (zs.take n) ++ List.replicate (n - (Lib.compact (zs.take n)).length) 0).map (Value.int .i64)) := Any.slices_Compact_int_cells Tryz.laysNm220 b off n c zs w hz hbig hcap hc hf
open Go.RowKit Go.Sort in
/-- .. and plain. (LAID: no walk: one application.) -/
theorem Tryz.slices_Sort_int_none (p : Option Addr) (cap : Nat) (w : World) :
    Calls Tryz.prog 93 #[.slice p 0 cap] w fun e w' => e = .returned (.tuple #[]) ∧ w' = w := Any.slices_Sort_int_none Tryz.lays189 p cap w
end Go.Proofs

namespace Go.Proofs.YtihibckijdfidaaGreat.GxSlicesSortIntInt
open Go.RowKit
open Go.Proofs.YtihibckijdfidaaGreat.Turn Go.Proofs.YtihibckijdfidaaGreat.GoM
def P (x_0 : List Int) : Option (List Int) := if x_0.length < 4611686018427387904 then some (x_0.mergeSort fun x y => decide (x ≤ y)) else none
theorem C (x_0 : List Int) (A0 : Option Addr) (c0 : Nat) (b0 : Nat) (w : World) (M0 : Hid (w.ownsRow b0 3 1 (.slice A0 x_0.length c0) x_0.length (Go.Proofs.YtihibckijdfidaaGreat.HelpInt.iv x_0))) (N0 : Hid (x_0.length ≤ 9223372036854775807)) {l_ : List Int} (H : Hid (P x_0 = some l_)) :
    Calls Tryz.prog 93 #[.slice A0 x_0.length c0] w (fun e w' => e = .returned (.tuple #[]) ∧ w'.ownsRow b0 3 1 (.slice A0 x_0.length c0) x_0.length (Go.Proofs.YtihibckijdfidaaGreat.HelpInt.iv l_) ∧ l_.length = x_0.length ∧ w.grownBy w' (Value.slice A0 x_0.length c0).ownBlock) := by
  have h : P x_0 = some l_ := H
  unfold P at h
  by_cases hl : x_0.length < 4611686018427387904
  · rw [if_pos hl] at h
    obtain rfl := Option.some.inj h
    have M := M0.out
    by_cases hz : x_0 = []
    · subst hz
      refine (Tryz.slices_Sort_int_none A0 c0 w).mono ?_
      rintro e w' ⟨rfl, rfl⟩
      have e0 : (([] : List Int).mergeSort fun x y => decide (x ≤ y)) = [] := List.eq_nil_of_length_eq_zero (by simp)
      rw [e0]
      exact ⟨rfl, M, rfl, Aid.grown_refl _ _⟩
    · have hpos : 0 < x_0.length := List.length_pos_iff.2 hz
      obtain ⟨g, rfl⟩ := own_some M hpos
      have hg := (M.lt g (by simp [Value.ownBlock])).2
      refine (Tryz.slices_Sort_int g 0 c0 x_0 w (Go.Proofs.YtihibckijdfidaaGreat.GoS.own_holds rfl M) hg hl).mono ?_
      rintro e w' ⟨rfl, n, os, rfl⟩
      have hm : (x_0.mergeSort fun x y => decide (x ≤ y)).length = x_0.length := List.length_mergeSort _
      obtain ⟨h1, h2⟩ := Go.Proofs.YtihibckijdfidaaGreat.GoS.own_put (m := x_0.mergeSort fun x y => decide (x ≤ y)) rfl hm M n
      have h3 := Go.Proofs.YtihibckijdfidaaGreat.GoS.grown_grow (Sort.putRow (Value.int .i64) (Sort.ahead w n) g 0 (x_0.mergeSort fun x y => decide (x ≤ y)).toArray) os none
      exact ⟨rfl, h1.kept h3 (by simp [Value.ownBlock]), hm, Aid.grown_tr h2 (Go.Proofs.YtihibckijdfidaaGreat.GoS.grown_grow _ os _)⟩
  · rw [if_neg hl] at h; simp at h
end Go.Proofs.YtihibckijdfidaaGreat.GxSlicesSortIntInt

namespace Go.Proofs.YtihibckijdfidaaGreat.GxSlicesCompactIntInt
open Go.RowKit
open Go.Proofs.YtihibckijdfidaaGreat.Turn Go.Proofs.YtihibckijdfidaaGreat.GoM
def P (s_0 : List Int) : Option (List Int) := some (Lib.compact s_0)
theorem C (s_0 : List Int) (A0 : Option Addr) (c0 : Nat) (b0 : Nat) (w : World) (M0 : Hid (w.ownsRow b0 3 1 (.slice A0 s_0.length c0) s_0.length (Go.Proofs.YtihibckijdfidaaGreat.HelpInt.iv s_0))) (N0 : Hid (s_0.length ≤ 9223372036854775807)) (LB : Hid (b0 ≤ w.heap.size)) {r : List Int} (H : Hid (P s_0 = some r)) :
    Calls Tryz.prog 94 #[.slice A0 s_0.length c0] w (fun e w' => ∃ A_r c_r, e = .returned (.slice A_r r.length c_r) ∧ w'.ownsRow b0 3 1 (.slice A_r r.length c_r) r.length (Go.Proofs.YtihibckijdfidaaGreat.HelpInt.iv r) ∧ w.grownBy w' (Value.slice A0 s_0.length c0).ownBlock ∧ Go.Proofs.YtihibckijdfidaaGreat.GoK.From w A0 A_r) := by
  have h : P s_0 = some r := H
  unfold P at h
  obtain rfl := Option.some.inj h
  have M := M0.out
  by_cases hz : s_0 = []
  · subst hz
    refine (Tryz.slices_Compact_int_empty A0 c0 w).mono ?_
    rintro e w' ⟨rfl, rfl⟩
    exact ⟨A0, c0, rfl, M, Aid.grown_refl _ _, Go.Proofs.YtihibckijdfidaaGreat.GoK.from_self⟩
  · have hpos : 0 < s_0.length := List.length_pos_iff.2 hz
    obtain ⟨g, rfl⟩ := own_some M hpos
    have hle := Lib.compact_length_le s_0
    have hR := own_room M
    refine (Tryz.slices_Compact_int g 0 c0 s_0 w (Go.Proofs.YtihibckijdfidaaGreat.GoS.own_holds rfl M) N0.out hR.1).mono ?_
    rintro e w' ⟨rfl, q, rfl⟩
    obtain ⟨h1, h2⟩ := Go.Proofs.YtihibckijdfidaaGreat.GoS.own_put (m := Lib.compact s_0 ++ List.replicate (s_0.length - (Lib.compact s_0).length) 0) rfl (by rw [List.length_append, List.length_replicate]; omega) M q
    obtain ⟨i0, hi, hz0, hz1, hz2⟩ := Aid.info_parts (P := Tryz.prog) (T := 3) (z := .int .i64 0) (s := 1) (b := 8) (by kernel_rfl)
    have h3 := (slice_head (P := Tryz.prog) (t := 31) (k := .i64) (hi := ((Lib.compact s_0).length : Int)) (m := (Lib.compact s_0).length) (ys := Go.Proofs.YtihibckijdfidaaGreat.HelpInt.iv (Lib.compact s_0)) (by kernel_rfl) (by kernel_rfl) hi hz1 h1 ⟨by omega, by omega⟩ (by omega) (by
      unfold Go.Proofs.YtihibckijdfidaaGreat.HelpInt.iv
      rw [List.map_append, Int.toNat_natCast, Nat.mul_one, List.take_left' (by simp)])).2
    exact ⟨_, c0, rfl, h3, h2, Go.Proofs.YtihibckijdfidaaGreat.GoK.from_self⟩
end Go.Proofs.YtihibckijdfidaaGreat.GxSlicesCompactIntInt

