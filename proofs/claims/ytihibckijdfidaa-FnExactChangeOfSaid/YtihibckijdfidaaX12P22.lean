/- Texts on which the proofs of several laws stand, one behind the other (22 of 24). No condition of their own. -/
import Derived.Test.YtihibckijdfidaaChecked
import Derived.Test.YtihibckijdfidaaX12P1
import Derived.Test.YtihibckijdfidaaX12P2
import Derived.Test.YtihibckijdfidaaX12P3
import Derived.WalkKit
import Derived.Laws.StructEq
import Derived.ChangeKeysEq
import Derived.WalkSpells
import Derived.WalkLawsBesides
import Derived.BigQuiet
import Derived.OwnWalk
import Derived.Deep.LoopGhost
import Derived.Deep.QuietTactic
import Derived.IntWalk
import Derived.Lib.QuietBelow
import Derived.Deep.DeepCutAuto
import Derived.Test.YtihibckijdfidaaX12P12
import Derived.Test.YtihibckijdfidaaX12P4
set_option linter.unusedVariables false
set_option linter.unusedSimpArgs false
namespace Go.Proofs.Ytihibckijdfidaa.GsChangeOf
open Go.RowKit
open Go.Proofs.Ytihibckijdfidaa.Rowed Go.Proofs.Ytihibckijdfidaa.Turn Go.Proofs.Ytihibckijdfidaa.Aid Go.Proofs.Ytihibckijdfidaa.GoP Go.Proofs.Ytihibckijdfidaa.GoM

def q4 (x_id : Int) (x_from_ : Int) (x_to_ : Int) (x_leave : Int) (x_arrive : Int) (y_id : Int) (y_day : Int) (y_zone : Int) (y_grams : Int) (y_paid : Int) (y_from_ : Int) (y_to_ : Int) (y_leave : Int) (y_arrive : Int) (s : Int) : Option (Int × Bool) :=
 letK s fun change_6q4 =>
 letK (!(x_id == y_id && y_day == y_day && y_zone == y_zone && y_grams == y_grams && y_paid == y_paid && x_from_ == y_from_ && x_to_ == y_to_ && x_leave == y_leave && x_arrive == y_arrive)) fun (t_65 : Bool) =>
 iteK t_65
 (some (0, false))
 (some (change_6q4, true))

def q3 (x_id : Int) (x_paid : Int) (x_from_ : Int) (x_to_ : Int) (x_leave : Int) (x_arrive : Int) (y_id : Int) (y_day : Int) (y_zone : Int) (y_grams : Int) (y_paid : Int) (y_from_ : Int) (y_to_ : Int) (y_leave : Int) (y_arrive : Int) (s : Int) : Option (Int × Bool) :=
 letK s fun change_6q3 =>
 letK (x_paid != y_paid) fun (t_43 : Bool) =>
 iteK t_43
 (letK (IntKind.i64.wrap (change_6q3 + 8)) fun (t_45 : Int) =>
 q4 x_id x_from_ x_to_ x_leave x_arrive y_id y_day y_zone y_grams y_paid y_from_ y_to_ y_leave y_arrive (t_45))
 (q4 x_id x_from_ x_to_ x_leave x_arrive y_id y_day y_zone y_grams y_paid y_from_ y_to_ y_leave y_arrive (change_6q3))

def q2 (x_id : Int) (x_grams : Int) (x_paid : Int) (x_from_ : Int) (x_to_ : Int) (x_leave : Int) (x_arrive : Int) (y_id : Int) (y_day : Int) (y_zone : Int) (y_grams : Int) (y_paid : Int) (y_from_ : Int) (y_to_ : Int) (y_leave : Int) (y_arrive : Int) (s : Int) : Option (Int × Bool) :=
 letK s fun change_6q2 =>
 letK (x_grams != y_grams) fun (t_35 : Bool) =>
 iteK t_35
 (letK (IntKind.i64.wrap (change_6q2 + 4)) fun (t_37 : Int) =>
 q3 x_id x_paid x_from_ x_to_ x_leave x_arrive y_id y_day y_zone y_grams y_paid y_from_ y_to_ y_leave y_arrive (t_37))
 (q3 x_id x_paid x_from_ x_to_ x_leave x_arrive y_id y_day y_zone y_grams y_paid y_from_ y_to_ y_leave y_arrive (change_6q2))

def q1 (x_id : Int) (x_zone : Int) (x_grams : Int) (x_paid : Int) (x_from_ : Int) (x_to_ : Int) (x_leave : Int) (x_arrive : Int) (y_id : Int) (y_day : Int) (y_zone : Int) (y_grams : Int) (y_paid : Int) (y_from_ : Int) (y_to_ : Int) (y_leave : Int) (y_arrive : Int) (s : Int) : Option (Int × Bool) :=
 letK s fun change_6q1 =>
 letK (x_zone != y_zone) fun (t_27 : Bool) =>
 iteK t_27
 (letK (IntKind.i64.wrap (change_6q1 + 2)) fun (t_29 : Int) =>
 q2 x_id x_grams x_paid x_from_ x_to_ x_leave x_arrive y_id y_day y_zone y_grams y_paid y_from_ y_to_ y_leave y_arrive (t_29))
 (q2 x_id x_grams x_paid x_from_ x_to_ x_leave x_arrive y_id y_day y_zone y_grams y_paid y_from_ y_to_ y_leave y_arrive (change_6q1))

def q0 (x_id : Int) (x_day : Int) (x_zone : Int) (x_grams : Int) (x_paid : Int) (x_from_ : Int) (x_to_ : Int) (x_leave : Int) (x_arrive : Int) (y_id : Int) (y_day : Int) (y_zone : Int) (y_grams : Int) (y_paid : Int) (y_from_ : Int) (y_to_ : Int) (y_leave : Int) (y_arrive : Int) (s : Bool) : Option (Int × Bool) :=
 letK s fun t_14q0 =>
 iteK t_14q0
 (some (0, false))
 (letK (x_day != y_day) fun (t_19 : Bool) =>
 iteK t_19
 (letK (IntKind.i64.wrap (0 + 1)) fun (t_21 : Int) =>
 q1 x_id x_zone x_grams x_paid x_from_ x_to_ x_leave x_arrive y_id y_day y_zone y_grams y_paid y_from_ y_to_ y_leave y_arrive (t_21))
 (q1 x_id x_zone x_grams x_paid x_from_ x_to_ x_leave x_arrive y_id y_day y_zone y_grams y_paid y_from_ y_to_ y_leave y_arrive (0)))

def P (x : PCover.Cover) (y : PCover.Cover) : Option (Int × Bool) :=
 unCover x fun (x_id : Int) (x_day : Int) (x_zone : Int) (x_grams : Int) (x_paid : Int) (x_from_ : Int) (x_to_ : Int) (x_leave : Int) (x_arrive : Int) =>
 unCover y fun (y_id : Int) (y_day : Int) (y_zone : Int) (y_grams : Int) (y_paid : Int) (y_from_ : Int) (y_to_ : Int) (y_leave : Int) (y_arrive : Int) =>
 Option.bind (GsL10One.P (PCover.Cover.mk x_id x_day x_zone x_grams x_paid x_from_ x_to_ x_leave x_arrive)) fun (t_5 : Bool) =>
 letK (!t_5) fun (t_6 : Bool) =>
 joinK (fun (t_11 : Bool) =>
 q0 x_id x_day x_zone x_grams x_paid x_from_ x_to_ x_leave x_arrive y_id y_day y_zone y_grams y_paid y_from_ y_to_ y_leave y_arrive (t_11)) fun jt_11 => iteK t_6 (appK jt_11 true) (Option.bind (GsL10One.P (PCover.Cover.mk y_id y_day y_zone y_grams y_paid y_from_ y_to_ y_leave y_arrive)) fun (t_9 : Bool) =>
 letK (!t_9) fun (t_10 : Bool) =>
 appK jt_11 t_10)

set_option maxRecDepth 100000
theorem eqr_30 (x0 x1 x2 x3 x4 x5 x6 x7 x8 y0 y1 y2 y3 y4 y5 y6 y7 y8 : Int) : ∀ W, (Op.equalIn 10000 30 (.agg #[Value.int IntKind.i64 x0, Value.int IntKind.i64 x1, Value.int IntKind.i64 x2, Value.int IntKind.i64 x3, Value.int IntKind.i64 x4, Value.int IntKind.i64 x5, Value.int IntKind.i64 x6, Value.int IntKind.i64 x7, Value.int IntKind.i64 x8]) (.agg #[Value.int IntKind.i64 y0, Value.int IntKind.i64 y1, Value.int IntKind.i64 y2, Value.int IntKind.i64 y3, Value.int IntKind.i64 y4, Value.int IntKind.i64 y5, Value.int IntKind.i64 y6, Value.int IntKind.i64 y7, Value.int IntKind.i64 y8])).run Try.prog W = .ok (x0 == y0 && x1 == y1 && x2 == y2 && x3 == y3 && x4 == y4 && x5 == y5 && x6 == y6 && x7 == y7 && x8 == y8) W := by
 intro W
 rw [run_equalIn_agg W _ _ _ _ (by kernel_rfl) (by kernel_rfl)]
 obtain ⟨f, hf⟩ : ∃ f, (Try.prog.fieldsOf 30).toList = f := ⟨_, rfl⟩
 have : (Try.prog.fieldsOf 30).toList.map (fun f => (f.name, f.type, f.offset)) = [("Id", 3, 0), ("Day", 3, 1), ("Zone", 3, 2), ("Grams", 3, 3), ("Paid", 3, 4), ("From", 3, 5), ("To", 3, 6), ("Leave", 3, 7), ("Arrive", 3, 8)] := by kernel_rfl
 rw [hf] at this ⊢
 match f, this with
 | [f0, f1, f2, f3, f4, f5, f6, f7, f8], h =>
  simp only [List.map_cons, List.map_nil, List.cons.injEq, Prod.mk.injEq, and_true] at h
  obtain ⟨⟨a0, b0, d0⟩, ⟨a1, b1, d1⟩, ⟨a2, b2, d2⟩, ⟨a3, b3, d3⟩, ⟨a4, b4, d4⟩, ⟨a5, b5, d5⟩, ⟨a6, b6, d6⟩, ⟨a7, b7, d7⟩, a8, b8, d8⟩ := h
  simp only [Op.eqFields, a0, b0, d0, a1, b1, d1, a2, b2, d2, a3, b3, d3, a4, b4, d4, a5, b5, d5, a6, b6, d6, a7, b7, d7, a8, b8, d8]
  have p0 : ∀ (w : World) (x0 x1 x2 x3 x4 x5 x6 x7 x8 : Int), (part 3 #[Value.int IntKind.i64 x0, Value.int IntKind.i64 x1, Value.int IntKind.i64 x2, Value.int IntKind.i64 x3, Value.int IntKind.i64 x4, Value.int IntKind.i64 x5, Value.int IntKind.i64 x6, Value.int IntKind.i64 x7, Value.int IntKind.i64 x8] 0).run Try.prog w = .ok (.int .i64 x0) w := fun w x0 x1 x2 x3 x4 x5 x6 x7 x8 => run_part_plain w (by kernel_rfl) rfl
  have p1 : ∀ (w : World) (x0 x1 x2 x3 x4 x5 x6 x7 x8 : Int), (part 3 #[Value.int IntKind.i64 x0, Value.int IntKind.i64 x1, Value.int IntKind.i64 x2, Value.int IntKind.i64 x3, Value.int IntKind.i64 x4, Value.int IntKind.i64 x5, Value.int IntKind.i64 x6, Value.int IntKind.i64 x7, Value.int IntKind.i64 x8] 1).run Try.prog w = .ok (.int .i64 x1) w := fun w x0 x1 x2 x3 x4 x5 x6 x7 x8 => run_part_plain w (by kernel_rfl) rfl
  have p2 : ∀ (w : World) (x0 x1 x2 x3 x4 x5 x6 x7 x8 : Int), (part 3 #[Value.int IntKind.i64 x0, Value.int IntKind.i64 x1, Value.int IntKind.i64 x2, Value.int IntKind.i64 x3, Value.int IntKind.i64 x4, Value.int IntKind.i64 x5, Value.int IntKind.i64 x6, Value.int IntKind.i64 x7, Value.int IntKind.i64 x8] 2).run Try.prog w = .ok (.int .i64 x2) w := fun w x0 x1 x2 x3 x4 x5 x6 x7 x8 => run_part_plain w (by kernel_rfl) rfl
  have p3 : ∀ (w : World) (x0 x1 x2 x3 x4 x5 x6 x7 x8 : Int), (part 3 #[Value.int IntKind.i64 x0, Value.int IntKind.i64 x1, Value.int IntKind.i64 x2, Value.int IntKind.i64 x3, Value.int IntKind.i64 x4, Value.int IntKind.i64 x5, Value.int IntKind.i64 x6, Value.int IntKind.i64 x7, Value.int IntKind.i64 x8] 3).run Try.prog w = .ok (.int .i64 x3) w := fun w x0 x1 x2 x3 x4 x5 x6 x7 x8 => run_part_plain w (by kernel_rfl) rfl
  have p4 : ∀ (w : World) (x0 x1 x2 x3 x4 x5 x6 x7 x8 : Int), (part 3 #[Value.int IntKind.i64 x0, Value.int IntKind.i64 x1, Value.int IntKind.i64 x2, Value.int IntKind.i64 x3, Value.int IntKind.i64 x4, Value.int IntKind.i64 x5, Value.int IntKind.i64 x6, Value.int IntKind.i64 x7, Value.int IntKind.i64 x8] 4).run Try.prog w = .ok (.int .i64 x4) w := fun w x0 x1 x2 x3 x4 x5 x6 x7 x8 => run_part_plain w (by kernel_rfl) rfl
  have p5 : ∀ (w : World) (x0 x1 x2 x3 x4 x5 x6 x7 x8 : Int), (part 3 #[Value.int IntKind.i64 x0, Value.int IntKind.i64 x1, Value.int IntKind.i64 x2, Value.int IntKind.i64 x3, Value.int IntKind.i64 x4, Value.int IntKind.i64 x5, Value.int IntKind.i64 x6, Value.int IntKind.i64 x7, Value.int IntKind.i64 x8] 5).run Try.prog w = .ok (.int .i64 x5) w := fun w x0 x1 x2 x3 x4 x5 x6 x7 x8 => run_part_plain w (by kernel_rfl) rfl
  have p6 : ∀ (w : World) (x0 x1 x2 x3 x4 x5 x6 x7 x8 : Int), (part 3 #[Value.int IntKind.i64 x0, Value.int IntKind.i64 x1, Value.int IntKind.i64 x2, Value.int IntKind.i64 x3, Value.int IntKind.i64 x4, Value.int IntKind.i64 x5, Value.int IntKind.i64 x6, Value.int IntKind.i64 x7, Value.int IntKind.i64 x8] 6).run Try.prog w = .ok (.int .i64 x6) w := fun w x0 x1 x2 x3 x4 x5 x6 x7 x8 => run_part_plain w (by kernel_rfl) rfl
  have p7 : ∀ (w : World) (x0 x1 x2 x3 x4 x5 x6 x7 x8 : Int), (part 3 #[Value.int IntKind.i64 x0, Value.int IntKind.i64 x1, Value.int IntKind.i64 x2, Value.int IntKind.i64 x3, Value.int IntKind.i64 x4, Value.int IntKind.i64 x5, Value.int IntKind.i64 x6, Value.int IntKind.i64 x7, Value.int IntKind.i64 x8] 7).run Try.prog w = .ok (.int .i64 x7) w := fun w x0 x1 x2 x3 x4 x5 x6 x7 x8 => run_part_plain w (by kernel_rfl) rfl
  have p8 : ∀ (w : World) (x0 x1 x2 x3 x4 x5 x6 x7 x8 : Int), (part 3 #[Value.int IntKind.i64 x0, Value.int IntKind.i64 x1, Value.int IntKind.i64 x2, Value.int IntKind.i64 x3, Value.int IntKind.i64 x4, Value.int IntKind.i64 x5, Value.int IntKind.i64 x6, Value.int IntKind.i64 x7, Value.int IntKind.i64 x8] 8).run Try.prog w = .ok (.int .i64 x8) w := fun w x0 x1 x2 x3 x4 x5 x6 x7 x8 => run_part_plain w (by kernel_rfl) rfl
  have e0 : ∀ (w : World) (d : Nat) (x y : Int), (Op.equalIn (d + 1) 3 (.int .i64 x) (.int .i64 y)).run Try.prog w = .ok (x == y) w := fun w d x y => run_equalIn_int w d 3 .i64 .i64 x y Try.underlying3
  have e1 : ∀ (w : World) (x y : Int), (Op.equalIn 9999 3 (.int .i64 x) (.int .i64 y)).run Try.prog w = .ok (x == y) w := fun w x y => e0 w 9998 x y
  rw [if_pos (by decide)]; rw [if_pos (by decide)]; rw [if_pos (by decide)]; rw [if_pos (by decide)]; rw [if_pos (by decide)]; rw [if_pos (by decide)]; rw [if_pos (by decide)]; rw [if_pos (by decide)]; rw [if_pos (by decide)]
  simp only [Sem.run_bind, p0, p1, p2, p3, p4, p5, p6, p7, p8, e1, Result.andThen_ok, Sem.run_ite, Sem.run_pure]
  cases x0 == y0 <;> cases x1 == y1 <;> cases x2 == y2 <;> cases x3 == y3 <;> cases x4 == y4 <;> cases x5 == y5 <;> cases x6 == y6 <;> cases x7 == y7 <;> cases x8 == y8 <;> rfl
theorem eqla_30 (x0 x1 x2 x3 x4 x5 x6 x7 x8 y0 y1 y2 y3 y4 y5 y6 y7 y8 : Int) : ∀ W, (binOp .eql 30 (.agg #[Value.int IntKind.i64 x0, Value.int IntKind.i64 x1, Value.int IntKind.i64 x2, Value.int IntKind.i64 x3, Value.int IntKind.i64 x4, Value.int IntKind.i64 x5, Value.int IntKind.i64 x6, Value.int IntKind.i64 x7, Value.int IntKind.i64 x8]) (.agg #[Value.int IntKind.i64 y0, Value.int IntKind.i64 y1, Value.int IntKind.i64 y2, Value.int IntKind.i64 y3, Value.int IntKind.i64 y4, Value.int IntKind.i64 y5, Value.int IntKind.i64 y6, Value.int IntKind.i64 y7, Value.int IntKind.i64 y8])).run Try.prog W = .ok (.bool (x0 == y0 && x1 == y1 && x2 == y2 && x3 == y3 && x4 == y4 && x5 == y5 && x6 == y6 && x7 == y7 && x8 == y8)) W := by
 intro W
 rw [run_eql_struct, eqr_30]; rfl
theorem neqa_30 (x0 x1 x2 x3 x4 x5 x6 x7 x8 y0 y1 y2 y3 y4 y5 y6 y7 y8 : Int) : ∀ W, (binOp .neq 30 (.agg #[Value.int IntKind.i64 x0, Value.int IntKind.i64 x1, Value.int IntKind.i64 x2, Value.int IntKind.i64 x3, Value.int IntKind.i64 x4, Value.int IntKind.i64 x5, Value.int IntKind.i64 x6, Value.int IntKind.i64 x7, Value.int IntKind.i64 x8]) (.agg #[Value.int IntKind.i64 y0, Value.int IntKind.i64 y1, Value.int IntKind.i64 y2, Value.int IntKind.i64 y3, Value.int IntKind.i64 y4, Value.int IntKind.i64 y5, Value.int IntKind.i64 y6, Value.int IntKind.i64 y7, Value.int IntKind.i64 y8])).run Try.prog W = .ok (.bool (!(x0 == y0 && x1 == y1 && x2 == y2 && x3 == y3 && x4 == y4 && x5 == y5 && x6 == y6 && x7 == y7 && x8 == y8))) W := by
 intro W
 rw [run_neq_struct, eqr_30]; rfl

set_option maxRecDepth 100000 in
set_option maxHeartbeats 20000000 in
theorem C (x : PCover.Cover) (y : PCover.Cover)   (w : World)   {r0 : Int} {r1 : Bool} (H : Hid (P x y = some (r0, r1))) :
  Calls Try.prog 37 #[x.val, y.val] w (Gives (.tuple #[.int .i64 r0, .bool r1]) w) := by
 have HB := Lib.hid (Below.refl w.heap.size w); unfold P at H; obtain ⟨x_id, x_day, x_zone, x_grams, x_paid, x_from_, x_to_, x_leave, x_arrive⟩ := x; replace H := unCover_hid H; obtain ⟨y_id, y_day, y_zone, y_grams, y_paid, y_from_, y_to_, y_leave, y_arrive⟩ := y; replace H := unCover_hid H; unfold PCover.Cover.val
 go_enter Try.func37, Try.ntmps37
 obtain ⟨a10, f11⟩ : ∃ x, w.alloc (.cells #[.int .i64 x_id, .int .i64 x_day, .int .i64 x_zone, .int .i64 x_grams, .int .i64 x_paid, .int .i64 x_from_, .int .i64 x_to_, .int .i64 x_leave, .int .i64 x_arrive] 30) = x := ⟨_, rfl⟩; have f12 : Below w.heap.size w a10 := (by rw [← f11]; exact (Below.refl _ _).alloc (Nat.le_refl _) _); have n13 := Lib.hid (Below.step HB.out f12); clear f12; have q11 : a10.cell? ⟨w.heap.size, 0, none⟩ = some (.int .i64 x_id) := (by rw [← f11]; exact box_new _ _ _ 0 _ rfl); have r12 : a10.cell? ⟨w.heap.size, 1, none⟩ = some (.int .i64 x_day) := (by rw [← f11]; exact box_new _ _ _ 1 _ rfl); have b12 : a10.cell? ⟨w.heap.size, 2, none⟩ = some (.int .i64 x_zone) := (by rw [← f11]; exact box_new _ _ _ 2 _ rfl); have l12 : a10.cell? ⟨w.heap.size, 3, none⟩ = some (.int .i64 x_grams) := (by rw [← f11]; exact box_new _ _ _ 3 _ rfl); have y11 : a10.cell? ⟨w.heap.size, 4, none⟩ = some (.int .i64 x_paid) := (by rw [← f11]; exact box_new _ _ _ 4 _ rfl); have v12 : a10.cell? ⟨w.heap.size, 5, none⟩ = some (.int .i64 x_from_) := (by rw [← f11]; exact box_new _ _ _ 5 _ rfl); have s12 : a10.cell? ⟨w.heap.size, 6, none⟩ = some (.int .i64 x_to_) := (by rw [← f11]; exact box_new _ _ _ 6 _ rfl); have o12 : a10.cell? ⟨w.heap.size, 7, none⟩ = some (.int .i64 x_leave) := (by rw [← f11]; exact box_new _ _ _ 7 _ rfl); have m12 : a10.cell? ⟨w.heap.size, 8, none⟩ = some (.int .i64 x_arrive) := (by rw [← f11]; exact box_new _ _ _ 8 _ rfl); have Ox_0 : Hid (a10.ownsRow w.heap.size 30 9 (.slice (some ⟨w.heap.size, 0, none⟩) 1 1) 1 [.int .i64 x_id, .int .i64 x_day, .int .i64 x_zone, .int .i64 x_grams, .int .i64 x_paid, .int .i64 x_from_, .int .i64 x_to_, .int .i64 x_leave, .int .i64 x_arrive]) := Lib.hid (by rw [← f11]; exact own_laid (n := 1) HB.out.size rfl rfl (by unfold maxLen; omega)); obtain ⟨i11, j11⟩ : ∃ x, a10.alloc (.cells #[.int .i64 y_id, .int .i64 y_day, .int .i64 y_zone, .int .i64 y_grams, .int .i64 y_paid, .int .i64 y_from_, .int .i64 y_to_, .int .i64 y_leave, .int .i64 y_arrive] 30) = x := ⟨_, rfl⟩; have b11 : Below a10.heap.size a10 i11 := (by rw [← j11]; exact (Below.refl _ _).alloc (Nat.le_refl _) _); have b10 := Lib.hid (apart_box q11); have v13 := Lib.hid (Below.step n13.out b11); have s10 := cell_below b11 q11; have m10 := cell_below b11 r12; have q10 := cell_below b11 b12; have l10 := cell_below b11 l12; have n10 := cell_below b11 y11; have o10 := cell_below b11 v12; have r10 := cell_below b11 s12; have t10 := cell_below b11 o12; have p10 := cell_below b11 m12; replace Ox_0 := Lib.hid (own_below Ox_0.out b11); clear b11; have e10 : i11.cell? ⟨a10.heap.size, 0, none⟩ = some (.int .i64 y_id) := (by rw [← j11]; exact box_new _ _ _ 0 _ rfl); have c10 : i11.cell? ⟨a10.heap.size, 1, none⟩ = some (.int .i64 y_day) := (by rw [← j11]; exact box_new _ _ _ 1 _ rfl); have f10 : i11.cell? ⟨a10.heap.size, 2, none⟩ = some (.int .i64 y_zone) := (by rw [← j11]; exact box_new _ _ _ 2 _ rfl); have i10 : i11.cell? ⟨a10.heap.size, 3, none⟩ = some (.int .i64 y_grams) := (by rw [← j11]; exact box_new _ _ _ 3 _ rfl); have g10 : i11.cell? ⟨a10.heap.size, 4, none⟩ = some (.int .i64 y_paid) := (by rw [← j11]; exact box_new _ _ _ 4 _ rfl); have k10 : i11.cell? ⟨a10.heap.size, 5, none⟩ = some (.int .i64 y_from_) := (by rw [← j11]; exact box_new _ _ _ 5 _ rfl); have j10 : i11.cell? ⟨a10.heap.size, 6, none⟩ = some (.int .i64 y_to_) := (by rw [← j11]; exact box_new _ _ _ 6 _ rfl); have h10 : i11.cell? ⟨a10.heap.size, 7, none⟩ = some (.int .i64 y_leave) := (by rw [← j11]; exact box_new _ _ _ 7 _ rfl); have d10 : i11.cell? ⟨a10.heap.size, 8, none⟩ = some (.int .i64 y_arrive) := (by rw [← j11]; exact box_new _ _ _ 8 _ rfl); go_upto_region 1 with fail; clear q11 r12 b12 l12 y11 v12 s12 o12 m12
 go_cut [14] (fun v14_ wr => ∃ (l11 : Bool), v14_ = .bool l11 ∧ Hid (q0 x_id x_day x_zone x_grams x_paid x_from_ x_to_ x_leave x_arrive y_id y_day y_zone y_grams y_paid y_from_ y_to_ y_leave y_arrive (l11) = some (r0, r1)) ∧ Hid (Below w.heap.size w wr) ∧ wr.cell? ⟨w.heap.size, 0, none⟩ = some (.int .i64 x_id) ∧ wr.cell? ⟨w.heap.size, 1, none⟩ = some (.int .i64 x_day) ∧ wr.cell? ⟨w.heap.size, 2, none⟩ = some (.int .i64 x_zone) ∧ wr.cell? ⟨w.heap.size, 3, none⟩ = some (.int .i64 x_grams) ∧ wr.cell? ⟨w.heap.size, 4, none⟩ = some (.int .i64 x_paid) ∧ wr.cell? ⟨w.heap.size, 5, none⟩ = some (.int .i64 x_from_) ∧ wr.cell? ⟨w.heap.size, 6, none⟩ = some (.int .i64 x_to_) ∧ wr.cell? ⟨w.heap.size, 7, none⟩ = some (.int .i64 x_leave) ∧ wr.cell? ⟨w.heap.size, 8, none⟩ = some (.int .i64 x_arrive) ∧ wr.cell? ⟨a10.heap.size, 0, none⟩ = some (.int .i64 y_id) ∧ wr.cell? ⟨a10.heap.size, 1, none⟩ = some (.int .i64 y_day) ∧ wr.cell? ⟨a10.heap.size, 2, none⟩ = some (.int .i64 y_zone) ∧ wr.cell? ⟨a10.heap.size, 3, none⟩ = some (.int .i64 y_grams) ∧ wr.cell? ⟨a10.heap.size, 4, none⟩ = some (.int .i64 y_paid) ∧ wr.cell? ⟨a10.heap.size, 5, none⟩ = some (.int .i64 y_from_) ∧ wr.cell? ⟨a10.heap.size, 6, none⟩ = some (.int .i64 y_to_) ∧ wr.cell? ⟨a10.heap.size, 7, none⟩ = some (.int .i64 y_leave) ∧ wr.cell? ⟨a10.heap.size, 8, none⟩ = some (.int .i64 y_arrive) ∧ Hid (wr.ownsRow w.heap.size 30 9 (.slice (some ⟨w.heap.size, 0, none⟩) 1 1) 1 [.int .i64 x_id, .int .i64 x_day, .int .i64 x_zone, .int .i64 x_grams, .int .i64 x_paid, .int .i64 x_from_, .int .i64 x_to_, .int .i64 x_leave, .int .i64 x_arrive]))
 case first =>
  replace H := bind_hid H; obtain ⟨t_5, qt_5, H⟩ := H; go_wp2_with fail; go_at_call 81; refine (GsL10One.C ((PCover.Cover.mk x_id x_day x_zone x_grams x_paid x_from_ x_to_ x_leave x_arrive))  _    qt_5).mono ?_; rintro b16 wt_5 ⟨rfl, bt_5⟩; have h12 := Lib.hid (Below.step v13.out bt_5); replace s10 := cell_below bt_5 s10; replace m10 := cell_below bt_5 m10; replace q10 := cell_below bt_5 q10; replace l10 := cell_below bt_5 l10; replace n10 := cell_below bt_5 n10; replace o10 := cell_below bt_5 o10; replace r10 := cell_below bt_5 r10; replace t10 := cell_below bt_5 t10; replace p10 := cell_below bt_5 p10; replace e10 := cell_below bt_5 e10; replace c10 := cell_below bt_5 c10; replace f10 := cell_below bt_5 f10; replace i10 := cell_below bt_5 i10; replace g10 := cell_below bt_5 g10; replace k10 := cell_below bt_5 k10; replace j10 := cell_below bt_5 j10; replace h10 := cell_below bt_5 h10; replace d10 := cell_below bt_5 d10; replace Ox_0 := Lib.hid (own_below Ox_0.out bt_5); clear bt_5
  cases t_5 with
  | false =>
   replace H := let_hid H; obtain ⟨t_6, ht_6, H⟩ := H; obtain rfl : t_6 = true := ht_6.symm; replace H := join_hid H; replace H := ite_t H; replace H := app_hid H; go_wp2_with fail
   go_meet
   case rel => exact ⟨_, rfl, H, h12, s10, m10, q10, l10, n10, o10, r10, t10, p10, e10, c10, f10, i10, g10, k10, j10, h10, d10, Ox_0⟩
  | true =>
   replace H := let_hid H; obtain ⟨t_6, ht_6, H⟩ := H; obtain rfl : t_6 = false := ht_6.symm; replace H := join_hid H; replace H := ite_f H; replace H := bind_hid H; obtain ⟨t_9, qt_9, H⟩ := H; go_wp2_with fail; go_at_call 81; refine (GsL10One.C ((PCover.Cover.mk y_id y_day y_zone y_grams y_paid y_from_ y_to_ y_leave y_arrive))  _    qt_9).mono ?_; rintro e14 wt_9 ⟨rfl, bt_9⟩; have j12 := Lib.hid (Below.step h12.out bt_9); replace s10 := cell_below bt_9 s10; replace m10 := cell_below bt_9 m10; replace q10 := cell_below bt_9 q10; replace l10 := cell_below bt_9 l10; replace n10 := cell_below bt_9 n10; replace o10 := cell_below bt_9 o10; replace r10 := cell_below bt_9 r10; replace t10 := cell_below bt_9 t10; replace p10 := cell_below bt_9 p10; replace e10 := cell_below bt_9 e10; replace c10 := cell_below bt_9 c10; replace f10 := cell_below bt_9 f10; replace i10 := cell_below bt_9 i10; replace g10 := cell_below bt_9 g10; replace k10 := cell_below bt_9 k10; replace j10 := cell_below bt_9 j10; replace h10 := cell_below bt_9 h10; replace d10 := cell_below bt_9 d10; replace Ox_0 := Lib.hid (own_below Ox_0.out bt_9); clear bt_9
   cases t_9 with
   | false =>
    replace H := let_hid H; obtain ⟨t_10, o11, H⟩ := H; obtain rfl : t_10 = true := o11.symm; replace H := app_hid H; go_wp2_with fail
    go_meet
    case rel => exact ⟨_, rfl, H, j12, s10, m10, q10, l10, n10, o10, r10, t10, p10, e10, c10, f10, i10, g10, k10, j10, h10, d10, Ox_0⟩
   | true =>
    replace H := let_hid H; obtain ⟨t_10, o11, H⟩ := H; obtain rfl : t_10 = false := o11.symm; replace H := app_hid H; go_wp2_with fail
    go_meet
    case rel => exact ⟨_, rfl, H, j12, s10, m10, q10, l10, n10, o10, r10, t10, p10, e10, c10, f10, i10, g10, k10, j10, h10, d10, Ox_0⟩
 case rest =>
  obtain ⟨l11, rfl, H, w11, s10, m10, q10, l10, n10, o10, r10, t10, p10, e10, c10, f10, i10, g10, k10, j10, h10, d10, Ox_0⟩ := hcut; rename World => wq0; unfold q0 at H; replace H := let_hid H; obtain ⟨_, rfl, H⟩ := H
  cases l11 with
  | false =>
   replace H := ite_f H; replace H := let_hid H; obtain ⟨t_19, e15, H⟩ := H; go_upto_if 19 with fail
   go_cut [6] (fun v6_ wr => ∃ (p11 : Int), v6_ = .int .i64 p11 ∧ Hid (q1 x_id x_zone x_grams x_paid x_from_ x_to_ x_leave x_arrive y_id y_day y_zone y_grams y_paid y_from_ y_to_ y_leave y_arrive (p11) = some (r0, r1)) ∧ Hid (Below w.heap.size w wr) ∧ wr.cell? ⟨w.heap.size, 0, none⟩ = some (.int .i64 x_id) ∧ wr.cell? ⟨w.heap.size, 1, none⟩ = some (.int .i64 x_day) ∧ wr.cell? ⟨w.heap.size, 2, none⟩ = some (.int .i64 x_zone) ∧ wr.cell? ⟨w.heap.size, 3, none⟩ = some (.int .i64 x_grams) ∧ wr.cell? ⟨w.heap.size, 4, none⟩ = some (.int .i64 x_paid) ∧ wr.cell? ⟨w.heap.size, 5, none⟩ = some (.int .i64 x_from_) ∧ wr.cell? ⟨w.heap.size, 6, none⟩ = some (.int .i64 x_to_) ∧ wr.cell? ⟨w.heap.size, 7, none⟩ = some (.int .i64 x_leave) ∧ wr.cell? ⟨w.heap.size, 8, none⟩ = some (.int .i64 x_arrive) ∧ wr.cell? ⟨a10.heap.size, 0, none⟩ = some (.int .i64 y_id) ∧ wr.cell? ⟨a10.heap.size, 1, none⟩ = some (.int .i64 y_day) ∧ wr.cell? ⟨a10.heap.size, 2, none⟩ = some (.int .i64 y_zone) ∧ wr.cell? ⟨a10.heap.size, 3, none⟩ = some (.int .i64 y_grams) ∧ wr.cell? ⟨a10.heap.size, 4, none⟩ = some (.int .i64 y_paid) ∧ wr.cell? ⟨a10.heap.size, 5, none⟩ = some (.int .i64 y_from_) ∧ wr.cell? ⟨a10.heap.size, 6, none⟩ = some (.int .i64 y_to_) ∧ wr.cell? ⟨a10.heap.size, 7, none⟩ = some (.int .i64 y_leave) ∧ wr.cell? ⟨a10.heap.size, 8, none⟩ = some (.int .i64 y_arrive) ∧ Hid (wr.ownsRow w.heap.size 30 9 (.slice (some ⟨w.heap.size, 0, none⟩) 1 1) 1 [.int .i64 x_id, .int .i64 x_day, .int .i64 x_zone, .int .i64 x_grams, .int .i64 x_paid, .int .i64 x_from_, .int .i64 x_to_, .int .i64 x_leave, .int .i64 x_arrive]))
   case first =>
    cases t_19 with
    | false =>
     replace H := ite_f H; go_wp2_with fail
     go_meet
     case rel => exact ⟨_, rfl, H, w11, s10, m10, q10, l10, n10, o10, r10, t10, p10, e10, c10, f10, i10, g10, k10, j10, h10, d10, Ox_0⟩
    | true =>
     replace H := ite_t H; replace H := let_hid H; obtain ⟨t_21, t13, H⟩ := H; obtain rfl : t_21 = 1 := (by rw [← t13]; first | rfl | decide); go_wp2_with fail
     go_meet
     case rel => exact ⟨_, rfl, H, w11, s10, m10, q10, l10, n10, o10, r10, t10, p10, e10, c10, f10, i10, g10, k10, j10, h10, d10, Ox_0⟩
   case rest =>
    obtain ⟨p11, rfl, H, e12, s10, m10, q10, l10, n10, o10, r10, t10, p10, e10, c10, f10, i10, g10, k10, j10, h10, d10, Ox_0⟩ := hcut; rename World => wq1; unfold q1 at H; replace H := let_hid H; obtain ⟨_, rfl, H⟩ := H; replace H := let_hid H; obtain ⟨t_27, l15, H⟩ := H; go_upto_if 26 with fail
    go_cut [6] (fun v6_ wr => ∃ (x11 : Int), v6_ = .int .i64 x11 ∧ Hid (q2 x_id x_grams x_paid x_from_ x_to_ x_leave x_arrive y_id y_day y_zone y_grams y_paid y_from_ y_to_ y_leave y_arrive (x11) = some (r0, r1)) ∧ Hid (Below w.heap.size w wr) ∧ wr.cell? ⟨w.heap.size, 0, none⟩ = some (.int .i64 x_id) ∧ wr.cell? ⟨w.heap.size, 1, none⟩ = some (.int .i64 x_day) ∧ wr.cell? ⟨w.heap.size, 2, none⟩ = some (.int .i64 x_zone) ∧ wr.cell? ⟨w.heap.size, 3, none⟩ = some (.int .i64 x_grams) ∧ wr.cell? ⟨w.heap.size, 4, none⟩ = some (.int .i64 x_paid) ∧ wr.cell? ⟨w.heap.size, 5, none⟩ = some (.int .i64 x_from_) ∧ wr.cell? ⟨w.heap.size, 6, none⟩ = some (.int .i64 x_to_) ∧ wr.cell? ⟨w.heap.size, 7, none⟩ = some (.int .i64 x_leave) ∧ wr.cell? ⟨w.heap.size, 8, none⟩ = some (.int .i64 x_arrive) ∧ wr.cell? ⟨a10.heap.size, 0, none⟩ = some (.int .i64 y_id) ∧ wr.cell? ⟨a10.heap.size, 1, none⟩ = some (.int .i64 y_day) ∧ wr.cell? ⟨a10.heap.size, 2, none⟩ = some (.int .i64 y_zone) ∧ wr.cell? ⟨a10.heap.size, 3, none⟩ = some (.int .i64 y_grams) ∧ wr.cell? ⟨a10.heap.size, 4, none⟩ = some (.int .i64 y_paid) ∧ wr.cell? ⟨a10.heap.size, 5, none⟩ = some (.int .i64 y_from_) ∧ wr.cell? ⟨a10.heap.size, 6, none⟩ = some (.int .i64 y_to_) ∧ wr.cell? ⟨a10.heap.size, 7, none⟩ = some (.int .i64 y_leave) ∧ wr.cell? ⟨a10.heap.size, 8, none⟩ = some (.int .i64 y_arrive) ∧ Hid (wr.ownsRow w.heap.size 30 9 (.slice (some ⟨w.heap.size, 0, none⟩) 1 1) 1 [.int .i64 x_id, .int .i64 x_day, .int .i64 x_zone, .int .i64 x_grams, .int .i64 x_paid, .int .i64 x_from_, .int .i64 x_to_, .int .i64 x_leave, .int .i64 x_arrive]))
    case first =>
     cases t_27 with
     | false =>
      replace H := ite_f H; go_wp2_with fail
      go_meet
      case rel => exact ⟨_, rfl, H, e12, s10, m10, q10, l10, n10, o10, r10, t10, p10, e10, c10, f10, i10, g10, k10, j10, h10, d10, Ox_0⟩
     | true =>
      replace H := ite_t H; replace H := let_hid H; obtain ⟨t_29, c16, H⟩ := H; go_wp2_with fail
      go_meet
      case rel => exact ⟨_, rfl, H, e12, s10, m10, q10, l10, n10, o10, r10, t10, p10, e10, c10, f10, i10, g10, k10, j10, h10, d10, Ox_0⟩
    case rest =>
     obtain ⟨x11, rfl, H, n12, s10, m10, q10, l10, n10, o10, r10, t10, p10, e10, c10, f10, i10, g10, k10, j10, h10, d10, Ox_0⟩ := hcut; rename World => wq2; unfold q2 at H; replace H := let_hid H; obtain ⟨_, rfl, H⟩ := H; replace H := let_hid H; obtain ⟨t_35, o14, H⟩ := H; go_upto_if 33 with fail
     go_cut [6] (fun v6_ wr => ∃ (m11 : Int), v6_ = .int .i64 m11 ∧ Hid (q3 x_id x_paid x_from_ x_to_ x_leave x_arrive y_id y_day y_zone y_grams y_paid y_from_ y_to_ y_leave y_arrive (m11) = some (r0, r1)) ∧ Hid (Below w.heap.size w wr) ∧ wr.cell? ⟨w.heap.size, 0, none⟩ = some (.int .i64 x_id) ∧ wr.cell? ⟨w.heap.size, 1, none⟩ = some (.int .i64 x_day) ∧ wr.cell? ⟨w.heap.size, 2, none⟩ = some (.int .i64 x_zone) ∧ wr.cell? ⟨w.heap.size, 3, none⟩ = some (.int .i64 x_grams) ∧ wr.cell? ⟨w.heap.size, 4, none⟩ = some (.int .i64 x_paid) ∧ wr.cell? ⟨w.heap.size, 5, none⟩ = some (.int .i64 x_from_) ∧ wr.cell? ⟨w.heap.size, 6, none⟩ = some (.int .i64 x_to_) ∧ wr.cell? ⟨w.heap.size, 7, none⟩ = some (.int .i64 x_leave) ∧ wr.cell? ⟨w.heap.size, 8, none⟩ = some (.int .i64 x_arrive) ∧ wr.cell? ⟨a10.heap.size, 0, none⟩ = some (.int .i64 y_id) ∧ wr.cell? ⟨a10.heap.size, 1, none⟩ = some (.int .i64 y_day) ∧ wr.cell? ⟨a10.heap.size, 2, none⟩ = some (.int .i64 y_zone) ∧ wr.cell? ⟨a10.heap.size, 3, none⟩ = some (.int .i64 y_grams) ∧ wr.cell? ⟨a10.heap.size, 4, none⟩ = some (.int .i64 y_paid) ∧ wr.cell? ⟨a10.heap.size, 5, none⟩ = some (.int .i64 y_from_) ∧ wr.cell? ⟨a10.heap.size, 6, none⟩ = some (.int .i64 y_to_) ∧ wr.cell? ⟨a10.heap.size, 7, none⟩ = some (.int .i64 y_leave) ∧ wr.cell? ⟨a10.heap.size, 8, none⟩ = some (.int .i64 y_arrive) ∧ Hid (wr.ownsRow w.heap.size 30 9 (.slice (some ⟨w.heap.size, 0, none⟩) 1 1) 1 [.int .i64 x_id, .int .i64 x_day, .int .i64 x_zone, .int .i64 x_grams, .int .i64 x_paid, .int .i64 x_from_, .int .i64 x_to_, .int .i64 x_leave, .int .i64 x_arrive]))
     case first =>
      cases t_35 with
      | false =>
       replace H := ite_f H; go_wp2_with fail
       go_meet
       case rel => exact ⟨_, rfl, H, n12, s10, m10, q10, l10, n10, o10, r10, t10, p10, e10, c10, f10, i10, g10, k10, j10, h10, d10, Ox_0⟩
      | true =>
       replace H := ite_t H; replace H := let_hid H; obtain ⟨t_37, h14, H⟩ := H; go_wp2_with fail
       go_meet
       case rel => exact ⟨_, rfl, H, n12, s10, m10, q10, l10, n10, o10, r10, t10, p10, e10, c10, f10, i10, g10, k10, j10, h10, d10, Ox_0⟩
     case rest =>
      obtain ⟨m11, rfl, H, p12, s10, m10, q10, l10, n10, o10, r10, t10, p10, e10, c10, f10, i10, g10, k10, j10, h10, d10, Ox_0⟩ := hcut; rename World => wq3; unfold q3 at H; replace H := let_hid H; obtain ⟨_, rfl, H⟩ := H; replace H := let_hid H; obtain ⟨t_43, a15, H⟩ := H; go_upto_if 40 with fail
      go_cut [6] (fun v6_ wr => ∃ (n11 : Int), v6_ = .int .i64 n11 ∧ Hid (q4 x_id x_from_ x_to_ x_leave x_arrive y_id y_day y_zone y_grams y_paid y_from_ y_to_ y_leave y_arrive (n11) = some (r0, r1)) ∧ Hid (Below w.heap.size w wr) ∧ wr.cell? ⟨w.heap.size, 0, none⟩ = some (.int .i64 x_id) ∧ wr.cell? ⟨w.heap.size, 1, none⟩ = some (.int .i64 x_day) ∧ wr.cell? ⟨w.heap.size, 2, none⟩ = some (.int .i64 x_zone) ∧ wr.cell? ⟨w.heap.size, 3, none⟩ = some (.int .i64 x_grams) ∧ wr.cell? ⟨w.heap.size, 4, none⟩ = some (.int .i64 x_paid) ∧ wr.cell? ⟨w.heap.size, 5, none⟩ = some (.int .i64 x_from_) ∧ wr.cell? ⟨w.heap.size, 6, none⟩ = some (.int .i64 x_to_) ∧ wr.cell? ⟨w.heap.size, 7, none⟩ = some (.int .i64 x_leave) ∧ wr.cell? ⟨w.heap.size, 8, none⟩ = some (.int .i64 x_arrive) ∧ wr.cell? ⟨a10.heap.size, 0, none⟩ = some (.int .i64 y_id) ∧ wr.cell? ⟨a10.heap.size, 1, none⟩ = some (.int .i64 y_day) ∧ wr.cell? ⟨a10.heap.size, 2, none⟩ = some (.int .i64 y_zone) ∧ wr.cell? ⟨a10.heap.size, 3, none⟩ = some (.int .i64 y_grams) ∧ wr.cell? ⟨a10.heap.size, 4, none⟩ = some (.int .i64 y_paid) ∧ wr.cell? ⟨a10.heap.size, 5, none⟩ = some (.int .i64 y_from_) ∧ wr.cell? ⟨a10.heap.size, 6, none⟩ = some (.int .i64 y_to_) ∧ wr.cell? ⟨a10.heap.size, 7, none⟩ = some (.int .i64 y_leave) ∧ wr.cell? ⟨a10.heap.size, 8, none⟩ = some (.int .i64 y_arrive) ∧ Hid (wr.ownsRow w.heap.size 30 9 (.slice (some ⟨w.heap.size, 0, none⟩) 1 1) 1 [.int .i64 x_id, .int .i64 x_day, .int .i64 x_zone, .int .i64 x_grams, .int .i64 x_paid, .int .i64 x_from_, .int .i64 x_to_, .int .i64 x_leave, .int .i64 x_arrive]))
      case first =>
       cases t_43 with
       | false =>
        replace H := ite_f H; go_wp2_with fail
        go_meet
        case rel => exact ⟨_, rfl, H, p12, s10, m10, q10, l10, n10, o10, r10, t10, p10, e10, c10, f10, i10, g10, k10, j10, h10, d10, Ox_0⟩
       | true =>
        replace H := ite_t H; replace H := let_hid H; obtain ⟨t_45, b15, H⟩ := H; go_wp2_with fail
        go_meet
        case rel => exact ⟨_, rfl, H, p12, s10, m10, q10, l10, n10, o10, r10, t10, p10, e10, c10, f10, i10, g10, k10, j10, h10, d10, Ox_0⟩
      case rest =>
       obtain ⟨n11, rfl, H, q12, s10, m10, q10, l10, n10, o10, r10, t10, p10, e10, c10, f10, i10, g10, k10, j10, h10, d10, Ox_0⟩ := hcut; rename World => wq4; unfold q4 at H; replace H := let_hid H; obtain ⟨_, rfl, H⟩ := H; obtain ⟨a11, k12⟩ : ∃ x, (wq4).setCell ⟨w.heap.size, 1, none⟩ (.int .i64 y_day) = x := ⟨_, rfl⟩; have f15 := Ox_0.out.frozenAt 1; have s11 := Lib.hid (own_stores [(1, .int .i64 y_day)] Ox_0.out); have x10 : Hid (a11.ownsRow w.heap.size 30 9 (.slice (some ⟨w.heap.size, 0, none⟩) 1 1) 1 [.int .i64 x_id, .int .i64 y_day, .int .i64 x_zone, .int .i64 x_grams, .int .i64 x_paid, .int .i64 x_from_, .int .i64 x_to_, .int .i64 x_leave, .int .i64 x_arrive]) := Lib.hid (by rw [← k12]; exact s11.out.1); have e11 : Hid (wq4.grownBy a11 (Value.slice (some ⟨w.heap.size, 0, none⟩) 1 1).ownBlock) := Lib.hid (by rw [← k12]; exact s11.out.2); have a12 := Lib.hid (q12.out.grown e11.out q12.out.size (fun q hq => (Ox_0.out.lt q hq).1)); clear s11; have k13 := cell_other e10 e11.out (Apart.symm b10.out); have w13 := cell_other c10 e11.out (Apart.symm b10.out); have x13 := cell_other f10 e11.out (Apart.symm b10.out); have d13 := cell_other i10 e11.out (Apart.symm b10.out); have l13 := cell_other g10 e11.out (Apart.symm b10.out); have x12 := cell_other k10 e11.out (Apart.symm b10.out); have q13 := cell_other j10 e11.out (Apart.symm b10.out); have e13 := cell_other h10 e11.out (Apart.symm b10.out); have b14 := cell_other d10 e11.out (Apart.symm b10.out); clear Ox_0 e11; have x15 : a11.cell? ⟨w.heap.size, 0, none⟩ = some (.int .i64 x_id) := x10.out.cells rfl 0 _ rfl; have a16 : a11.cell? ⟨w.heap.size, 1, none⟩ = some (.int .i64 y_day) := x10.out.cells rfl 1 _ rfl; have n14 : a11.cell? ⟨w.heap.size, 2, none⟩ = some (.int .i64 x_zone) := x10.out.cells rfl 2 _ rfl; have n15 : a11.cell? ⟨w.heap.size, 3, none⟩ = some (.int .i64 x_grams) := x10.out.cells rfl 3 _ rfl; have j15 : a11.cell? ⟨w.heap.size, 4, none⟩ = some (.int .i64 x_paid) := x10.out.cells rfl 4 _ rfl; have t14 : a11.cell? ⟨w.heap.size, 5, none⟩ = some (.int .i64 x_from_) := x10.out.cells rfl 5 _ rfl; have i15 : a11.cell? ⟨w.heap.size, 6, none⟩ = some (.int .i64 x_to_) := x10.out.cells rfl 6 _ rfl; have p15 : a11.cell? ⟨w.heap.size, 7, none⟩ = some (.int .i64 x_leave) := x10.out.cells rfl 7 _ rfl; have e16 : a11.cell? ⟨w.heap.size, 8, none⟩ = some (.int .i64 x_arrive) := x10.out.cells rfl 8 _ rfl; obtain ⟨y10, d12⟩ : ∃ x, (a11).setCell ⟨w.heap.size, 2, none⟩ (.int .i64 y_zone) = x := ⟨_, rfl⟩; have o15 := x10.out.frozenAt 2; have r11 := Lib.hid (own_stores [(2, .int .i64 y_zone)] x10.out); have v10 : Hid (y10.ownsRow w.heap.size 30 9 (.slice (some ⟨w.heap.size, 0, none⟩) 1 1) 1 [.int .i64 x_id, .int .i64 y_day, .int .i64 y_zone, .int .i64 x_grams, .int .i64 x_paid, .int .i64 x_from_, .int .i64 x_to_, .int .i64 x_leave, .int .i64 x_arrive]) := Lib.hid (by rw [← d12]; exact r11.out.1); have g11 : Hid (a11.grownBy y10 (Value.slice (some ⟨w.heap.size, 0, none⟩) 1 1).ownBlock) := Lib.hid (by rw [← d12]; exact r11.out.2); have g12 := Lib.hid (a12.out.grown g11.out a12.out.size (fun q hq => (x10.out.lt q hq).1)); clear r11; have i13 := cell_other k13 g11.out (Apart.symm b10.out); have z12 := cell_other w13 g11.out (Apart.symm b10.out); have f13 := cell_other x13 g11.out (Apart.symm b10.out); have m13 := cell_other d13 g11.out (Apart.symm b10.out); have y13 := cell_other l13 g11.out (Apart.symm b10.out); have a13 := cell_other x12 g11.out (Apart.symm b10.out); have r13 := cell_other q13 g11.out (Apart.symm b10.out); have y12 := cell_other e13 g11.out (Apart.symm b10.out); have j13 := cell_other b14 g11.out (Apart.symm b10.out); clear x10 g11; have k14 : y10.cell? ⟨w.heap.size, 0, none⟩ = some (.int .i64 x_id) := v10.out.cells rfl 0 _ rfl; have c15 : y10.cell? ⟨w.heap.size, 1, none⟩ = some (.int .i64 y_day) := v10.out.cells rfl 1 _ rfl; have c14 : y10.cell? ⟨w.heap.size, 2, none⟩ = some (.int .i64 y_zone) := v10.out.cells rfl 2 _ rfl
       have g16 : y10.cell? ⟨w.heap.size, 3, none⟩ = some (.int .i64 x_grams) := v10.out.cells rfl 3 _ rfl; have f14 : y10.cell? ⟨w.heap.size, 4, none⟩ = some (.int .i64 x_paid) := v10.out.cells rfl 4 _ rfl; have r14 : y10.cell? ⟨w.heap.size, 5, none⟩ = some (.int .i64 x_from_) := v10.out.cells rfl 5 _ rfl; have x14 : y10.cell? ⟨w.heap.size, 6, none⟩ = some (.int .i64 x_to_) := v10.out.cells rfl 6 _ rfl; have z14 : y10.cell? ⟨w.heap.size, 7, none⟩ = some (.int .i64 x_leave) := v10.out.cells rfl 7 _ rfl; have s15 : y10.cell? ⟨w.heap.size, 8, none⟩ = some (.int .i64 x_arrive) := v10.out.cells rfl 8 _ rfl; obtain ⟨w10, z11⟩ : ∃ x, (y10).setCell ⟨w.heap.size, 3, none⟩ (.int .i64 y_grams) = x := ⟨_, rfl⟩; have s14 := v10.out.frozenAt 3; have t11 := Lib.hid (own_stores [(3, .int .i64 y_grams)] v10.out); have z10 : Hid (w10.ownsRow w.heap.size 30 9 (.slice (some ⟨w.heap.size, 0, none⟩) 1 1) 1 [.int .i64 x_id, .int .i64 y_day, .int .i64 y_zone, .int .i64 y_grams, .int .i64 x_paid, .int .i64 x_from_, .int .i64 x_to_, .int .i64 x_leave, .int .i64 x_arrive]) := Lib.hid (by rw [← z11]; exact t11.out.1); have c11 : Hid (y10.grownBy w10 (Value.slice (some ⟨w.heap.size, 0, none⟩) 1 1).ownBlock) := Lib.hid (by rw [← z11]; exact t11.out.2); have i12 := Lib.hid (g12.out.grown c11.out g12.out.size (fun q hq => (v10.out.lt q hq).1)); clear t11; have o13 := cell_other i13 c11.out (Apart.symm b10.out); have c13 := cell_other z12 c11.out (Apart.symm b10.out); have z13 := cell_other f13 c11.out (Apart.symm b10.out); have h13 := cell_other m13 c11.out (Apart.symm b10.out); have w12 := cell_other y13 c11.out (Apart.symm b10.out); have a14 := cell_other a13 c11.out (Apart.symm b10.out); have p13 := cell_other r13 c11.out (Apart.symm b10.out); have b13 := cell_other y12 c11.out (Apart.symm b10.out); have s13 := cell_other j13 c11.out (Apart.symm b10.out); clear v10 c11; have h16 : w10.cell? ⟨w.heap.size, 0, none⟩ = some (.int .i64 x_id) := z10.out.cells rfl 0 _ rfl; have v14 : w10.cell? ⟨w.heap.size, 1, none⟩ = some (.int .i64 y_day) := z10.out.cells rfl 1 _ rfl; have k15 : w10.cell? ⟨w.heap.size, 2, none⟩ = some (.int .i64 y_zone) := z10.out.cells rfl 2 _ rfl; have v15 : w10.cell? ⟨w.heap.size, 3, none⟩ = some (.int .i64 y_grams) := z10.out.cells rfl 3 _ rfl; have d14 : w10.cell? ⟨w.heap.size, 4, none⟩ = some (.int .i64 x_paid) := z10.out.cells rfl 4 _ rfl; have l14 : w10.cell? ⟨w.heap.size, 5, none⟩ = some (.int .i64 x_from_) := z10.out.cells rfl 5 _ rfl; have d15 : w10.cell? ⟨w.heap.size, 6, none⟩ = some (.int .i64 x_to_) := z10.out.cells rfl 6 _ rfl; have f16 : w10.cell? ⟨w.heap.size, 7, none⟩ = some (.int .i64 x_leave) := z10.out.cells rfl 7 _ rfl; have y14 : w10.cell? ⟨w.heap.size, 8, none⟩ = some (.int .i64 x_arrive) := z10.out.cells rfl 8 _ rfl; obtain ⟨d11, t12⟩ : ∃ x, (w10).setCell ⟨w.heap.size, 4, none⟩ (.int .i64 y_paid) = x := ⟨_, rfl⟩; have k16 := z10.out.frozenAt 4; have v11 := Lib.hid (own_stores [(4, .int .i64 y_paid)] z10.out); have k11 : Hid (d11.ownsRow w.heap.size 30 9 (.slice (some ⟨w.heap.size, 0, none⟩) 1 1) 1 [.int .i64 x_id, .int .i64 y_day, .int .i64 y_zone, .int .i64 y_grams, .int .i64 y_paid, .int .i64 x_from_, .int .i64 x_to_, .int .i64 x_leave, .int .i64 x_arrive]) := Lib.hid (by rw [← t12]; exact v11.out.1); have h11 : Hid (w10.grownBy d11 (Value.slice (some ⟨w.heap.size, 0, none⟩) 1 1).ownBlock) := Lib.hid (by rw [← t12]; exact v11.out.2); have c12 := Lib.hid (i12.out.grown h11.out i12.out.size (fun q hq => (z10.out.lt q hq).1)); clear v11; have z15 := cell_other o13 h11.out (Apart.symm b10.out); have p14 := cell_other c13 h11.out (Apart.symm b10.out); have w15 := cell_other z13 h11.out (Apart.symm b10.out); have w14 := cell_other h13 h11.out (Apart.symm b10.out); have m15 := cell_other w12 h11.out (Apart.symm b10.out); have g15 := cell_other a14 h11.out (Apart.symm b10.out); have i14 := cell_other p13 h11.out (Apart.symm b10.out)
       have r15 := cell_other b13 h11.out (Apart.symm b10.out); have t15 := cell_other s13 h11.out (Apart.symm b10.out); clear z10 h11; have y15 : d11.cell? ⟨w.heap.size, 0, none⟩ = some (.int .i64 x_id) := k11.out.cells rfl 0 _ rfl; have i16 : d11.cell? ⟨w.heap.size, 1, none⟩ = some (.int .i64 y_day) := k11.out.cells rfl 1 _ rfl; have m14 : d11.cell? ⟨w.heap.size, 2, none⟩ = some (.int .i64 y_zone) := k11.out.cells rfl 2 _ rfl; have j16 : d11.cell? ⟨w.heap.size, 3, none⟩ = some (.int .i64 y_grams) := k11.out.cells rfl 3 _ rfl; have q15 : d11.cell? ⟨w.heap.size, 4, none⟩ = some (.int .i64 y_paid) := k11.out.cells rfl 4 _ rfl; have j14 : d11.cell? ⟨w.heap.size, 5, none⟩ = some (.int .i64 x_from_) := k11.out.cells rfl 5 _ rfl; have d16 : d11.cell? ⟨w.heap.size, 6, none⟩ = some (.int .i64 x_to_) := k11.out.cells rfl 6 _ rfl; have h15 : d11.cell? ⟨w.heap.size, 7, none⟩ = some (.int .i64 x_leave) := k11.out.cells rfl 7 _ rfl; have g14 : d11.cell? ⟨w.heap.size, 8, none⟩ = some (.int .i64 x_arrive) := k11.out.cells rfl 8 _ rfl; replace H := let_hid H; obtain ⟨t_65, g13, H⟩ := H; have q14 : ∀ W, (binOp .neq 30 (.agg #[.int .i64 x_id, .int .i64 y_day, .int .i64 y_zone, .int .i64 y_grams, .int .i64 y_paid, .int .i64 x_from_, .int .i64 x_to_, .int .i64 x_leave, .int .i64 x_arrive]) (.agg #[.int .i64 y_id, .int .i64 y_day, .int .i64 y_zone, .int .i64 y_grams, .int .i64 y_paid, .int .i64 y_from_, .int .i64 y_to_, .int .i64 y_leave, .int .i64 y_arrive])).run Try.prog W = .ok (.bool t_65) W := fun W => (by rw [neqa_30, g13])
       cases t_65 with
       | false =>
        replace H := ite_f H; cases ret_hid H; go_wp2_with fail; go_ret2; exact ⟨rfl, c12.out⟩
       | true =>
        replace H := ite_t H; cases ret_hid H; go_wp2_with fail; go_ret2; exact ⟨rfl, c12.out⟩
  | true =>
   replace H := ite_t H; cases ret_hid H; go_wp2_with fail; go_ret2; exact ⟨rfl, w11.out⟩
end Go.Proofs.Ytihibckijdfidaa.GsChangeOf

namespace Go.Proofs.Ytihibckijdfidaa.GiChangeOf
open Go.RowKit
open Go.Proofs.Ytihibckijdfidaa.Rowed Go.Proofs.Ytihibckijdfidaa.Turn Go.Proofs.Ytihibckijdfidaa.Aid Go.Proofs.Ytihibckijdfidaa.GoP Go.Proofs.Ytihibckijdfidaa.GoM

def q4 (x_id : Int) (x_from_ : Int) (x_to_ : Int) (x_leave : Int) (x_arrive : Int) (y_id : Int) (y_day : Int) (y_zone : Int) (y_grams : Int) (y_paid : Int) (y_from_ : Int) (y_to_ : Int) (y_leave : Int) (y_arrive : Int) (s : Int) : Option (Int × Bool) :=
 letK s fun change_6q4 =>
 letK (!(x_id == y_id && y_day == y_day && y_zone == y_zone && y_grams == y_grams && y_paid == y_paid && x_from_ == y_from_ && x_to_ == y_to_ && x_leave == y_leave && x_arrive == y_arrive)) fun (t_65 : Bool) =>
 iteK t_65
 (some (0, false))
 (some (change_6q4, true))

def q3 (x_id : Int) (x_paid : Int) (x_from_ : Int) (x_to_ : Int) (x_leave : Int) (x_arrive : Int) (y_id : Int) (y_day : Int) (y_zone : Int) (y_grams : Int) (y_paid : Int) (y_from_ : Int) (y_to_ : Int) (y_leave : Int) (y_arrive : Int) (s : Int) : Option (Int × Bool) :=
 letK s fun change_6q3 =>
 letK (x_paid != y_paid) fun (t_43 : Bool) =>
 iteK t_43
 (letK (bits .or IntKind.i64 change_6q3 8) fun (t_45 : Int) =>
 q4 x_id x_from_ x_to_ x_leave x_arrive y_id y_day y_zone y_grams y_paid y_from_ y_to_ y_leave y_arrive (t_45))
 (q4 x_id x_from_ x_to_ x_leave x_arrive y_id y_day y_zone y_grams y_paid y_from_ y_to_ y_leave y_arrive (change_6q3))

def q2 (x_id : Int) (x_grams : Int) (x_paid : Int) (x_from_ : Int) (x_to_ : Int) (x_leave : Int) (x_arrive : Int) (y_id : Int) (y_day : Int) (y_zone : Int) (y_grams : Int) (y_paid : Int) (y_from_ : Int) (y_to_ : Int) (y_leave : Int) (y_arrive : Int) (s : Int) : Option (Int × Bool) :=
 letK s fun change_6q2 =>
 letK (x_grams != y_grams) fun (t_35 : Bool) =>
 iteK t_35
 (letK (bits .or IntKind.i64 change_6q2 4) fun (t_37 : Int) =>
 q3 x_id x_paid x_from_ x_to_ x_leave x_arrive y_id y_day y_zone y_grams y_paid y_from_ y_to_ y_leave y_arrive (t_37))
 (q3 x_id x_paid x_from_ x_to_ x_leave x_arrive y_id y_day y_zone y_grams y_paid y_from_ y_to_ y_leave y_arrive (change_6q2))

def q1 (x_id : Int) (x_zone : Int) (x_grams : Int) (x_paid : Int) (x_from_ : Int) (x_to_ : Int) (x_leave : Int) (x_arrive : Int) (y_id : Int) (y_day : Int) (y_zone : Int) (y_grams : Int) (y_paid : Int) (y_from_ : Int) (y_to_ : Int) (y_leave : Int) (y_arrive : Int) (s : Int) : Option (Int × Bool) :=
 letK s fun change_6q1 =>
 letK (x_zone != y_zone) fun (t_27 : Bool) =>
 iteK t_27
 (letK (bits .or IntKind.i64 change_6q1 2) fun (t_29 : Int) =>
 q2 x_id x_grams x_paid x_from_ x_to_ x_leave x_arrive y_id y_day y_zone y_grams y_paid y_from_ y_to_ y_leave y_arrive (t_29))
 (q2 x_id x_grams x_paid x_from_ x_to_ x_leave x_arrive y_id y_day y_zone y_grams y_paid y_from_ y_to_ y_leave y_arrive (change_6q1))

def q0 (x_id : Int) (x_day : Int) (x_zone : Int) (x_grams : Int) (x_paid : Int) (x_from_ : Int) (x_to_ : Int) (x_leave : Int) (x_arrive : Int) (y_id : Int) (y_day : Int) (y_zone : Int) (y_grams : Int) (y_paid : Int) (y_from_ : Int) (y_to_ : Int) (y_leave : Int) (y_arrive : Int) (s : Bool) : Option (Int × Bool) :=
 letK s fun t_14q0 =>
 iteK t_14q0
 (some (0, false))
 (letK (x_day != y_day) fun (t_19 : Bool) =>
 iteK t_19
 (letK (bits .or IntKind.i64 0 1) fun (t_21 : Int) =>
 q1 x_id x_zone x_grams x_paid x_from_ x_to_ x_leave x_arrive y_id y_day y_zone y_grams y_paid y_from_ y_to_ y_leave y_arrive (t_21))
 (q1 x_id x_zone x_grams x_paid x_from_ x_to_ x_leave x_arrive y_id y_day y_zone y_grams y_paid y_from_ y_to_ y_leave y_arrive (0)))

def P (x : PCover.Cover) (y : PCover.Cover) : Option (Int × Bool) :=
 unCover x fun (x_id : Int) (x_day : Int) (x_zone : Int) (x_grams : Int) (x_paid : Int) (x_from_ : Int) (x_to_ : Int) (x_leave : Int) (x_arrive : Int) =>
 unCover y fun (y_id : Int) (y_day : Int) (y_zone : Int) (y_grams : Int) (y_paid : Int) (y_from_ : Int) (y_to_ : Int) (y_leave : Int) (y_arrive : Int) =>
 Option.bind (GiIsCover.P (PCover.Cover.mk x_id x_day x_zone x_grams x_paid x_from_ x_to_ x_leave x_arrive)) fun (t_5 : Bool) =>
 letK (!t_5) fun (t_6 : Bool) =>
 joinK (fun (t_11 : Bool) =>
 q0 x_id x_day x_zone x_grams x_paid x_from_ x_to_ x_leave x_arrive y_id y_day y_zone y_grams y_paid y_from_ y_to_ y_leave y_arrive (t_11)) fun jt_11 => iteK t_6 (appK jt_11 true) (Option.bind (GiIsCover.P (PCover.Cover.mk y_id y_day y_zone y_grams y_paid y_from_ y_to_ y_leave y_arrive)) fun (t_9 : Bool) =>
 letK (!t_9) fun (t_10 : Bool) =>
 appK jt_11 t_10)

set_option maxRecDepth 100000
theorem eqr_30 (x0 x1 x2 x3 x4 x5 x6 x7 x8 y0 y1 y2 y3 y4 y5 y6 y7 y8 : Int) : ∀ W, (Op.equalIn 10000 30 (.agg #[Value.int IntKind.i64 x0, Value.int IntKind.i64 x1, Value.int IntKind.i64 x2, Value.int IntKind.i64 x3, Value.int IntKind.i64 x4, Value.int IntKind.i64 x5, Value.int IntKind.i64 x6, Value.int IntKind.i64 x7, Value.int IntKind.i64 x8]) (.agg #[Value.int IntKind.i64 y0, Value.int IntKind.i64 y1, Value.int IntKind.i64 y2, Value.int IntKind.i64 y3, Value.int IntKind.i64 y4, Value.int IntKind.i64 y5, Value.int IntKind.i64 y6, Value.int IntKind.i64 y7, Value.int IntKind.i64 y8])).run Try.prog W = .ok (x0 == y0 && x1 == y1 && x2 == y2 && x3 == y3 && x4 == y4 && x5 == y5 && x6 == y6 && x7 == y7 && x8 == y8) W := by
 intro W
 rw [run_equalIn_agg W _ _ _ _ (by kernel_rfl) (by kernel_rfl)]
 obtain ⟨f, hf⟩ : ∃ f, (Try.prog.fieldsOf 30).toList = f := ⟨_, rfl⟩
 have : (Try.prog.fieldsOf 30).toList.map (fun f => (f.name, f.type, f.offset)) = [("Id", 3, 0), ("Day", 3, 1), ("Zone", 3, 2), ("Grams", 3, 3), ("Paid", 3, 4), ("From", 3, 5), ("To", 3, 6), ("Leave", 3, 7), ("Arrive", 3, 8)] := by kernel_rfl
 rw [hf] at this ⊢
 match f, this with
 | [f0, f1, f2, f3, f4, f5, f6, f7, f8], h =>
  simp only [List.map_cons, List.map_nil, List.cons.injEq, Prod.mk.injEq, and_true] at h
  obtain ⟨⟨a0, b0, d0⟩, ⟨a1, b1, d1⟩, ⟨a2, b2, d2⟩, ⟨a3, b3, d3⟩, ⟨a4, b4, d4⟩, ⟨a5, b5, d5⟩, ⟨a6, b6, d6⟩, ⟨a7, b7, d7⟩, a8, b8, d8⟩ := h
  simp only [Op.eqFields, a0, b0, d0, a1, b1, d1, a2, b2, d2, a3, b3, d3, a4, b4, d4, a5, b5, d5, a6, b6, d6, a7, b7, d7, a8, b8, d8]
  have p0 : ∀ (w : World) (x0 x1 x2 x3 x4 x5 x6 x7 x8 : Int), (part 3 #[Value.int IntKind.i64 x0, Value.int IntKind.i64 x1, Value.int IntKind.i64 x2, Value.int IntKind.i64 x3, Value.int IntKind.i64 x4, Value.int IntKind.i64 x5, Value.int IntKind.i64 x6, Value.int IntKind.i64 x7, Value.int IntKind.i64 x8] 0).run Try.prog w = .ok (.int .i64 x0) w := fun w x0 x1 x2 x3 x4 x5 x6 x7 x8 => run_part_plain w (by kernel_rfl) rfl
  have p1 : ∀ (w : World) (x0 x1 x2 x3 x4 x5 x6 x7 x8 : Int), (part 3 #[Value.int IntKind.i64 x0, Value.int IntKind.i64 x1, Value.int IntKind.i64 x2, Value.int IntKind.i64 x3, Value.int IntKind.i64 x4, Value.int IntKind.i64 x5, Value.int IntKind.i64 x6, Value.int IntKind.i64 x7, Value.int IntKind.i64 x8] 1).run Try.prog w = .ok (.int .i64 x1) w := fun w x0 x1 x2 x3 x4 x5 x6 x7 x8 => run_part_plain w (by kernel_rfl) rfl
  have p2 : ∀ (w : World) (x0 x1 x2 x3 x4 x5 x6 x7 x8 : Int), (part 3 #[Value.int IntKind.i64 x0, Value.int IntKind.i64 x1, Value.int IntKind.i64 x2, Value.int IntKind.i64 x3, Value.int IntKind.i64 x4, Value.int IntKind.i64 x5, Value.int IntKind.i64 x6, Value.int IntKind.i64 x7, Value.int IntKind.i64 x8] 2).run Try.prog w = .ok (.int .i64 x2) w := fun w x0 x1 x2 x3 x4 x5 x6 x7 x8 => run_part_plain w (by kernel_rfl) rfl
  have p3 : ∀ (w : World) (x0 x1 x2 x3 x4 x5 x6 x7 x8 : Int), (part 3 #[Value.int IntKind.i64 x0, Value.int IntKind.i64 x1, Value.int IntKind.i64 x2, Value.int IntKind.i64 x3, Value.int IntKind.i64 x4, Value.int IntKind.i64 x5, Value.int IntKind.i64 x6, Value.int IntKind.i64 x7, Value.int IntKind.i64 x8] 3).run Try.prog w = .ok (.int .i64 x3) w := fun w x0 x1 x2 x3 x4 x5 x6 x7 x8 => run_part_plain w (by kernel_rfl) rfl
  have p4 : ∀ (w : World) (x0 x1 x2 x3 x4 x5 x6 x7 x8 : Int), (part 3 #[Value.int IntKind.i64 x0, Value.int IntKind.i64 x1, Value.int IntKind.i64 x2, Value.int IntKind.i64 x3, Value.int IntKind.i64 x4, Value.int IntKind.i64 x5, Value.int IntKind.i64 x6, Value.int IntKind.i64 x7, Value.int IntKind.i64 x8] 4).run Try.prog w = .ok (.int .i64 x4) w := fun w x0 x1 x2 x3 x4 x5 x6 x7 x8 => run_part_plain w (by kernel_rfl) rfl
  have p5 : ∀ (w : World) (x0 x1 x2 x3 x4 x5 x6 x7 x8 : Int), (part 3 #[Value.int IntKind.i64 x0, Value.int IntKind.i64 x1, Value.int IntKind.i64 x2, Value.int IntKind.i64 x3, Value.int IntKind.i64 x4, Value.int IntKind.i64 x5, Value.int IntKind.i64 x6, Value.int IntKind.i64 x7, Value.int IntKind.i64 x8] 5).run Try.prog w = .ok (.int .i64 x5) w := fun w x0 x1 x2 x3 x4 x5 x6 x7 x8 => run_part_plain w (by kernel_rfl) rfl
  have p6 : ∀ (w : World) (x0 x1 x2 x3 x4 x5 x6 x7 x8 : Int), (part 3 #[Value.int IntKind.i64 x0, Value.int IntKind.i64 x1, Value.int IntKind.i64 x2, Value.int IntKind.i64 x3, Value.int IntKind.i64 x4, Value.int IntKind.i64 x5, Value.int IntKind.i64 x6, Value.int IntKind.i64 x7, Value.int IntKind.i64 x8] 6).run Try.prog w = .ok (.int .i64 x6) w := fun w x0 x1 x2 x3 x4 x5 x6 x7 x8 => run_part_plain w (by kernel_rfl) rfl
  have p7 : ∀ (w : World) (x0 x1 x2 x3 x4 x5 x6 x7 x8 : Int), (part 3 #[Value.int IntKind.i64 x0, Value.int IntKind.i64 x1, Value.int IntKind.i64 x2, Value.int IntKind.i64 x3, Value.int IntKind.i64 x4, Value.int IntKind.i64 x5, Value.int IntKind.i64 x6, Value.int IntKind.i64 x7, Value.int IntKind.i64 x8] 7).run Try.prog w = .ok (.int .i64 x7) w := fun w x0 x1 x2 x3 x4 x5 x6 x7 x8 => run_part_plain w (by kernel_rfl) rfl
  have p8 : ∀ (w : World) (x0 x1 x2 x3 x4 x5 x6 x7 x8 : Int), (part 3 #[Value.int IntKind.i64 x0, Value.int IntKind.i64 x1, Value.int IntKind.i64 x2, Value.int IntKind.i64 x3, Value.int IntKind.i64 x4, Value.int IntKind.i64 x5, Value.int IntKind.i64 x6, Value.int IntKind.i64 x7, Value.int IntKind.i64 x8] 8).run Try.prog w = .ok (.int .i64 x8) w := fun w x0 x1 x2 x3 x4 x5 x6 x7 x8 => run_part_plain w (by kernel_rfl) rfl
  have e0 : ∀ (w : World) (d : Nat) (x y : Int), (Op.equalIn (d + 1) 3 (.int .i64 x) (.int .i64 y)).run Try.prog w = .ok (x == y) w := fun w d x y => run_equalIn_int w d 3 .i64 .i64 x y Try.underlying3
  have e1 : ∀ (w : World) (x y : Int), (Op.equalIn 9999 3 (.int .i64 x) (.int .i64 y)).run Try.prog w = .ok (x == y) w := fun w x y => e0 w 9998 x y
  rw [if_pos (by decide)]; rw [if_pos (by decide)]; rw [if_pos (by decide)]; rw [if_pos (by decide)]; rw [if_pos (by decide)]; rw [if_pos (by decide)]; rw [if_pos (by decide)]; rw [if_pos (by decide)]; rw [if_pos (by decide)]
  simp only [Sem.run_bind, p0, p1, p2, p3, p4, p5, p6, p7, p8, e1, Result.andThen_ok, Sem.run_ite, Sem.run_pure]
  cases x0 == y0 <;> cases x1 == y1 <;> cases x2 == y2 <;> cases x3 == y3 <;> cases x4 == y4 <;> cases x5 == y5 <;> cases x6 == y6 <;> cases x7 == y7 <;> cases x8 == y8 <;> rfl
theorem eqla_30 (x0 x1 x2 x3 x4 x5 x6 x7 x8 y0 y1 y2 y3 y4 y5 y6 y7 y8 : Int) : ∀ W, (binOp .eql 30 (.agg #[Value.int IntKind.i64 x0, Value.int IntKind.i64 x1, Value.int IntKind.i64 x2, Value.int IntKind.i64 x3, Value.int IntKind.i64 x4, Value.int IntKind.i64 x5, Value.int IntKind.i64 x6, Value.int IntKind.i64 x7, Value.int IntKind.i64 x8]) (.agg #[Value.int IntKind.i64 y0, Value.int IntKind.i64 y1, Value.int IntKind.i64 y2, Value.int IntKind.i64 y3, Value.int IntKind.i64 y4, Value.int IntKind.i64 y5, Value.int IntKind.i64 y6, Value.int IntKind.i64 y7, Value.int IntKind.i64 y8])).run Try.prog W = .ok (.bool (x0 == y0 && x1 == y1 && x2 == y2 && x3 == y3 && x4 == y4 && x5 == y5 && x6 == y6 && x7 == y7 && x8 == y8)) W := by
 intro W
 rw [run_eql_struct, eqr_30]; rfl
theorem neqa_30 (x0 x1 x2 x3 x4 x5 x6 x7 x8 y0 y1 y2 y3 y4 y5 y6 y7 y8 : Int) : ∀ W, (binOp .neq 30 (.agg #[Value.int IntKind.i64 x0, Value.int IntKind.i64 x1, Value.int IntKind.i64 x2, Value.int IntKind.i64 x3, Value.int IntKind.i64 x4, Value.int IntKind.i64 x5, Value.int IntKind.i64 x6, Value.int IntKind.i64 x7, Value.int IntKind.i64 x8]) (.agg #[Value.int IntKind.i64 y0, Value.int IntKind.i64 y1, Value.int IntKind.i64 y2, Value.int IntKind.i64 y3, Value.int IntKind.i64 y4, Value.int IntKind.i64 y5, Value.int IntKind.i64 y6, Value.int IntKind.i64 y7, Value.int IntKind.i64 y8])).run Try.prog W = .ok (.bool (!(x0 == y0 && x1 == y1 && x2 == y2 && x3 == y3 && x4 == y4 && x5 == y5 && x6 == y6 && x7 == y7 && x8 == y8))) W := by
 intro W
 rw [run_neq_struct, eqr_30]; rfl

set_option maxRecDepth 100000 in
set_option maxHeartbeats 20000000 in
theorem C (x : PCover.Cover) (y : PCover.Cover)   (w : World)   {r0 : Int} {r1 : Bool} (H : Hid (P x y = some (r0, r1))) :
  Calls Try.prog 38 #[x.val, y.val] w (Gives (.tuple #[.int .i64 r0, .bool r1]) w) := by
 have HB := Lib.hid (Below.refl w.heap.size w); unfold P at H; obtain ⟨x_id, x_day, x_zone, x_grams, x_paid, x_from_, x_to_, x_leave, x_arrive⟩ := x; replace H := unCover_hid H; obtain ⟨y_id, y_day, y_zone, y_grams, y_paid, y_from_, y_to_, y_leave, y_arrive⟩ := y; replace H := unCover_hid H; unfold PCover.Cover.val
 go_enter Try.func38, Try.ntmps38
 obtain ⟨a10, c11⟩ : ∃ x, w.alloc (.cells #[.int .i64 x_id, .int .i64 x_day, .int .i64 x_zone, .int .i64 x_grams, .int .i64 x_paid, .int .i64 x_from_, .int .i64 x_to_, .int .i64 x_leave, .int .i64 x_arrive] 30) = x := ⟨_, rfl⟩; have a15 : Below w.heap.size w a10 := (by rw [← c11]; exact (Below.refl _ _).alloc (Nat.le_refl _) _); have g15 := Lib.hid (Below.step HB.out a15); clear a15; have s12 : a10.cell? ⟨w.heap.size, 0, none⟩ = some (.int .i64 x_id) := (by rw [← c11]; exact box_new _ _ _ 0 _ rfl); have d14 : a10.cell? ⟨w.heap.size, 1, none⟩ = some (.int .i64 x_day) := (by rw [← c11]; exact box_new _ _ _ 1 _ rfl); have e14 : a10.cell? ⟨w.heap.size, 2, none⟩ = some (.int .i64 x_zone) := (by rw [← c11]; exact box_new _ _ _ 2 _ rfl); have y13 : a10.cell? ⟨w.heap.size, 3, none⟩ = some (.int .i64 x_grams) := (by rw [← c11]; exact box_new _ _ _ 3 _ rfl); have a14 : a10.cell? ⟨w.heap.size, 4, none⟩ = some (.int .i64 x_paid) := (by rw [← c11]; exact box_new _ _ _ 4 _ rfl); have h14 : a10.cell? ⟨w.heap.size, 5, none⟩ = some (.int .i64 x_from_) := (by rw [← c11]; exact box_new _ _ _ 5 _ rfl); have b15 : a10.cell? ⟨w.heap.size, 6, none⟩ = some (.int .i64 x_to_) := (by rw [← c11]; exact box_new _ _ _ 6 _ rfl); have i14 : a10.cell? ⟨w.heap.size, 7, none⟩ = some (.int .i64 x_leave) := (by rw [← c11]; exact box_new _ _ _ 7 _ rfl); have p14 : a10.cell? ⟨w.heap.size, 8, none⟩ = some (.int .i64 x_arrive) := (by rw [← c11]; exact box_new _ _ _ 8 _ rfl); have Ox_0 : Hid (a10.ownsRow w.heap.size 30 9 (.slice (some ⟨w.heap.size, 0, none⟩) 1 1) 1 [.int .i64 x_id, .int .i64 x_day, .int .i64 x_zone, .int .i64 x_grams, .int .i64 x_paid, .int .i64 x_from_, .int .i64 x_to_, .int .i64 x_leave, .int .i64 x_arrive]) := Lib.hid (by rw [← c11]; exact own_laid (n := 1) HB.out.size rfl rfl (by unfold maxLen; omega)); obtain ⟨i11, j11⟩ : ∃ x, a10.alloc (.cells #[.int .i64 y_id, .int .i64 y_day, .int .i64 y_zone, .int .i64 y_grams, .int .i64 y_paid, .int .i64 y_from_, .int .i64 y_to_, .int .i64 y_leave, .int .i64 y_arrive] 30) = x := ⟨_, rfl⟩; have b11 : Below a10.heap.size a10 i11 := (by rw [← j11]; exact (Below.refl _ _).alloc (Nat.le_refl _) _); have b10 := Lib.hid (apart_box s12); have n15 := Lib.hid (Below.step g15.out b11); have o10 := cell_below b11 s12; have s10 := cell_below b11 d14; have t10 := cell_below b11 e14; have q10 := cell_below b11 y13; have r10 := cell_below b11 a14; have m10 := cell_below b11 h14; have l10 := cell_below b11 b15; have n10 := cell_below b11 i14; have p10 := cell_below b11 p14; replace Ox_0 := Lib.hid (own_below Ox_0.out b11); clear b11; have h10 : i11.cell? ⟨a10.heap.size, 0, none⟩ = some (.int .i64 y_id) := (by rw [← j11]; exact box_new _ _ _ 0 _ rfl); have f10 : i11.cell? ⟨a10.heap.size, 1, none⟩ = some (.int .i64 y_day) := (by rw [← j11]; exact box_new _ _ _ 1 _ rfl); have g10 : i11.cell? ⟨a10.heap.size, 2, none⟩ = some (.int .i64 y_zone) := (by rw [← j11]; exact box_new _ _ _ 2 _ rfl); have c10 : i11.cell? ⟨a10.heap.size, 3, none⟩ = some (.int .i64 y_grams) := (by rw [← j11]; exact box_new _ _ _ 3 _ rfl); have i10 : i11.cell? ⟨a10.heap.size, 4, none⟩ = some (.int .i64 y_paid) := (by rw [← j11]; exact box_new _ _ _ 4 _ rfl); have k10 : i11.cell? ⟨a10.heap.size, 5, none⟩ = some (.int .i64 y_from_) := (by rw [← j11]; exact box_new _ _ _ 5 _ rfl); have e10 : i11.cell? ⟨a10.heap.size, 6, none⟩ = some (.int .i64 y_to_) := (by rw [← j11]; exact box_new _ _ _ 6 _ rfl); have j10 : i11.cell? ⟨a10.heap.size, 7, none⟩ = some (.int .i64 y_leave) := (by rw [← j11]; exact box_new _ _ _ 7 _ rfl); have d10 : i11.cell? ⟨a10.heap.size, 8, none⟩ = some (.int .i64 y_arrive) := (by rw [← j11]; exact box_new _ _ _ 8 _ rfl); go_upto_region 1 with fail; clear s12 d14 e14 y13 a14 h14 b15 i14 p14
 go_cut [14] (fun v14_ wr => ∃ (l12 : Bool), v14_ = .bool l12 ∧ Hid (q0 x_id x_day x_zone x_grams x_paid x_from_ x_to_ x_leave x_arrive y_id y_day y_zone y_grams y_paid y_from_ y_to_ y_leave y_arrive (l12) = some (r0, r1)) ∧ Hid (Below w.heap.size w wr) ∧ wr.cell? ⟨w.heap.size, 0, none⟩ = some (.int .i64 x_id) ∧ wr.cell? ⟨w.heap.size, 1, none⟩ = some (.int .i64 x_day) ∧ wr.cell? ⟨w.heap.size, 2, none⟩ = some (.int .i64 x_zone) ∧ wr.cell? ⟨w.heap.size, 3, none⟩ = some (.int .i64 x_grams) ∧ wr.cell? ⟨w.heap.size, 4, none⟩ = some (.int .i64 x_paid) ∧ wr.cell? ⟨w.heap.size, 5, none⟩ = some (.int .i64 x_from_) ∧ wr.cell? ⟨w.heap.size, 6, none⟩ = some (.int .i64 x_to_) ∧ wr.cell? ⟨w.heap.size, 7, none⟩ = some (.int .i64 x_leave) ∧ wr.cell? ⟨w.heap.size, 8, none⟩ = some (.int .i64 x_arrive) ∧ wr.cell? ⟨a10.heap.size, 0, none⟩ = some (.int .i64 y_id) ∧ wr.cell? ⟨a10.heap.size, 1, none⟩ = some (.int .i64 y_day) ∧ wr.cell? ⟨a10.heap.size, 2, none⟩ = some (.int .i64 y_zone) ∧ wr.cell? ⟨a10.heap.size, 3, none⟩ = some (.int .i64 y_grams) ∧ wr.cell? ⟨a10.heap.size, 4, none⟩ = some (.int .i64 y_paid) ∧ wr.cell? ⟨a10.heap.size, 5, none⟩ = some (.int .i64 y_from_) ∧ wr.cell? ⟨a10.heap.size, 6, none⟩ = some (.int .i64 y_to_) ∧ wr.cell? ⟨a10.heap.size, 7, none⟩ = some (.int .i64 y_leave) ∧ wr.cell? ⟨a10.heap.size, 8, none⟩ = some (.int .i64 y_arrive) ∧ Hid (wr.ownsRow w.heap.size 30 9 (.slice (some ⟨w.heap.size, 0, none⟩) 1 1) 1 [.int .i64 x_id, .int .i64 x_day, .int .i64 x_zone, .int .i64 x_grams, .int .i64 x_paid, .int .i64 x_from_, .int .i64 x_to_, .int .i64 x_leave, .int .i64 x_arrive]))
 case first =>
  replace H := bind_hid H; obtain ⟨t_5, qt_5, H⟩ := H; go_wp2_with fail; go_at_call 103; refine (GiIsCover.C ((PCover.Cover.mk x_id x_day x_zone x_grams x_paid x_from_ x_to_ x_leave x_arrive))  _    qt_5).mono ?_; rintro a16 wt_5 ⟨rfl, bt_5⟩; have x13 := Lib.hid (Below.step n15.out bt_5); replace o10 := cell_below bt_5 o10; replace s10 := cell_below bt_5 s10; replace t10 := cell_below bt_5 t10; replace q10 := cell_below bt_5 q10; replace r10 := cell_below bt_5 r10; replace m10 := cell_below bt_5 m10; replace l10 := cell_below bt_5 l10; replace n10 := cell_below bt_5 n10; replace p10 := cell_below bt_5 p10; replace h10 := cell_below bt_5 h10; replace f10 := cell_below bt_5 f10; replace g10 := cell_below bt_5 g10; replace c10 := cell_below bt_5 c10; replace i10 := cell_below bt_5 i10; replace k10 := cell_below bt_5 k10; replace e10 := cell_below bt_5 e10; replace j10 := cell_below bt_5 j10; replace d10 := cell_below bt_5 d10; replace Ox_0 := Lib.hid (own_below Ox_0.out bt_5); clear bt_5
  cases t_5 with
  | false =>
   replace H := let_hid H; obtain ⟨t_6, ht_6, H⟩ := H; obtain rfl : t_6 = true := ht_6.symm; replace H := join_hid H; replace H := ite_t H; replace H := app_hid H; go_wp2_with fail
   go_meet
   case rel => exact ⟨_, rfl, H, x13, o10, s10, t10, q10, r10, m10, l10, n10, p10, h10, f10, g10, c10, i10, k10, e10, j10, d10, Ox_0⟩
  | true =>
   replace H := let_hid H; obtain ⟨t_6, ht_6, H⟩ := H; obtain rfl : t_6 = false := ht_6.symm; replace H := join_hid H; replace H := ite_f H; replace H := bind_hid H; obtain ⟨t_9, qt_9, H⟩ := H; go_wp2_with fail; go_at_call 103; refine (GiIsCover.C ((PCover.Cover.mk y_id y_day y_zone y_grams y_paid y_from_ y_to_ y_leave y_arrive))  _    qt_9).mono ?_; rintro d16 wt_9 ⟨rfl, bt_9⟩; have q13 := Lib.hid (Below.step x13.out bt_9); replace o10 := cell_below bt_9 o10; replace s10 := cell_below bt_9 s10; replace t10 := cell_below bt_9 t10; replace q10 := cell_below bt_9 q10; replace r10 := cell_below bt_9 r10; replace m10 := cell_below bt_9 m10; replace l10 := cell_below bt_9 l10; replace n10 := cell_below bt_9 n10; replace p10 := cell_below bt_9 p10; replace h10 := cell_below bt_9 h10; replace f10 := cell_below bt_9 f10; replace g10 := cell_below bt_9 g10; replace c10 := cell_below bt_9 c10; replace i10 := cell_below bt_9 i10; replace k10 := cell_below bt_9 k10; replace e10 := cell_below bt_9 e10; replace j10 := cell_below bt_9 j10; replace d10 := cell_below bt_9 d10; replace Ox_0 := Lib.hid (own_below Ox_0.out bt_9); clear bt_9
   cases t_9 with
   | false =>
    replace H := let_hid H; obtain ⟨t_10, y12, H⟩ := H; obtain rfl : t_10 = true := y12.symm; replace H := app_hid H; go_wp2_with fail
    go_meet
    case rel => exact ⟨_, rfl, H, q13, o10, s10, t10, q10, r10, m10, l10, n10, p10, h10, f10, g10, c10, i10, k10, e10, j10, d10, Ox_0⟩
   | true =>
    replace H := let_hid H; obtain ⟨t_10, y12, H⟩ := H; obtain rfl : t_10 = false := y12.symm; replace H := app_hid H; go_wp2_with fail
    go_meet
    case rel => exact ⟨_, rfl, H, q13, o10, s10, t10, q10, r10, m10, l10, n10, p10, h10, f10, g10, c10, i10, k10, e10, j10, d10, Ox_0⟩
 case rest =>
  obtain ⟨l12, rfl, H, i13, o10, s10, t10, q10, r10, m10, l10, n10, p10, h10, f10, g10, c10, i10, k10, e10, j10, d10, Ox_0⟩ := hcut; rename World => wq0; unfold q0 at H; replace H := let_hid H; obtain ⟨_, rfl, H⟩ := H
  cases l12 with
  | false =>
   replace H := ite_f H; replace H := let_hid H; obtain ⟨t_19, g16, H⟩ := H; go_upto_if 19 with fail
   go_cut [6] (fun v6_ wr => ∃ (z12 : Int), v6_ = .int .i64 z12 ∧ Hid (q1 x_id x_zone x_grams x_paid x_from_ x_to_ x_leave x_arrive y_id y_day y_zone y_grams y_paid y_from_ y_to_ y_leave y_arrive (z12) = some (r0, r1)) ∧ Hid (Below w.heap.size w wr) ∧ wr.cell? ⟨w.heap.size, 0, none⟩ = some (.int .i64 x_id) ∧ wr.cell? ⟨w.heap.size, 1, none⟩ = some (.int .i64 x_day) ∧ wr.cell? ⟨w.heap.size, 2, none⟩ = some (.int .i64 x_zone) ∧ wr.cell? ⟨w.heap.size, 3, none⟩ = some (.int .i64 x_grams) ∧ wr.cell? ⟨w.heap.size, 4, none⟩ = some (.int .i64 x_paid) ∧ wr.cell? ⟨w.heap.size, 5, none⟩ = some (.int .i64 x_from_) ∧ wr.cell? ⟨w.heap.size, 6, none⟩ = some (.int .i64 x_to_) ∧ wr.cell? ⟨w.heap.size, 7, none⟩ = some (.int .i64 x_leave) ∧ wr.cell? ⟨w.heap.size, 8, none⟩ = some (.int .i64 x_arrive) ∧ wr.cell? ⟨a10.heap.size, 0, none⟩ = some (.int .i64 y_id) ∧ wr.cell? ⟨a10.heap.size, 1, none⟩ = some (.int .i64 y_day) ∧ wr.cell? ⟨a10.heap.size, 2, none⟩ = some (.int .i64 y_zone) ∧ wr.cell? ⟨a10.heap.size, 3, none⟩ = some (.int .i64 y_grams) ∧ wr.cell? ⟨a10.heap.size, 4, none⟩ = some (.int .i64 y_paid) ∧ wr.cell? ⟨a10.heap.size, 5, none⟩ = some (.int .i64 y_from_) ∧ wr.cell? ⟨a10.heap.size, 6, none⟩ = some (.int .i64 y_to_) ∧ wr.cell? ⟨a10.heap.size, 7, none⟩ = some (.int .i64 y_leave) ∧ wr.cell? ⟨a10.heap.size, 8, none⟩ = some (.int .i64 y_arrive) ∧ Hid (wr.ownsRow w.heap.size 30 9 (.slice (some ⟨w.heap.size, 0, none⟩) 1 1) 1 [.int .i64 x_id, .int .i64 x_day, .int .i64 x_zone, .int .i64 x_grams, .int .i64 x_paid, .int .i64 x_from_, .int .i64 x_to_, .int .i64 x_leave, .int .i64 x_arrive]))
   case first =>
    cases t_19 with
    | false =>
     replace H := ite_f H; go_wp2_with fail
     go_meet
     case rel => exact ⟨_, rfl, H, i13, o10, s10, t10, q10, r10, m10, l10, n10, p10, h10, f10, g10, c10, i10, k10, e10, j10, d10, Ox_0⟩
    | true =>
     replace H := ite_t H; replace H := let_hid H; obtain ⟨t_21, k16, H⟩ := H; go_wp2_with fail
     go_meet
     case rel => exact ⟨_, rfl, H, i13, o10, s10, t10, q10, r10, m10, l10, n10, p10, h10, f10, g10, c10, i10, k10, e10, j10, d10, Ox_0⟩
   case rest =>
    obtain ⟨z12, rfl, H, t13, o10, s10, t10, q10, r10, m10, l10, n10, p10, h10, f10, g10, c10, i10, k10, e10, j10, d10, Ox_0⟩ := hcut; rename World => wq1; unfold q1 at H; replace H := let_hid H; obtain ⟨_, rfl, H⟩ := H; replace H := let_hid H; obtain ⟨t_27, z15, H⟩ := H; go_upto_if 26 with fail
    go_cut [6] (fun v6_ wr => ∃ (o13 : Int), v6_ = .int .i64 o13 ∧ Hid (q2 x_id x_grams x_paid x_from_ x_to_ x_leave x_arrive y_id y_day y_zone y_grams y_paid y_from_ y_to_ y_leave y_arrive (o13) = some (r0, r1)) ∧ Hid (Below w.heap.size w wr) ∧ wr.cell? ⟨w.heap.size, 0, none⟩ = some (.int .i64 x_id) ∧ wr.cell? ⟨w.heap.size, 1, none⟩ = some (.int .i64 x_day) ∧ wr.cell? ⟨w.heap.size, 2, none⟩ = some (.int .i64 x_zone) ∧ wr.cell? ⟨w.heap.size, 3, none⟩ = some (.int .i64 x_grams) ∧ wr.cell? ⟨w.heap.size, 4, none⟩ = some (.int .i64 x_paid) ∧ wr.cell? ⟨w.heap.size, 5, none⟩ = some (.int .i64 x_from_) ∧ wr.cell? ⟨w.heap.size, 6, none⟩ = some (.int .i64 x_to_) ∧ wr.cell? ⟨w.heap.size, 7, none⟩ = some (.int .i64 x_leave) ∧ wr.cell? ⟨w.heap.size, 8, none⟩ = some (.int .i64 x_arrive) ∧ wr.cell? ⟨a10.heap.size, 0, none⟩ = some (.int .i64 y_id) ∧ wr.cell? ⟨a10.heap.size, 1, none⟩ = some (.int .i64 y_day) ∧ wr.cell? ⟨a10.heap.size, 2, none⟩ = some (.int .i64 y_zone) ∧ wr.cell? ⟨a10.heap.size, 3, none⟩ = some (.int .i64 y_grams) ∧ wr.cell? ⟨a10.heap.size, 4, none⟩ = some (.int .i64 y_paid) ∧ wr.cell? ⟨a10.heap.size, 5, none⟩ = some (.int .i64 y_from_) ∧ wr.cell? ⟨a10.heap.size, 6, none⟩ = some (.int .i64 y_to_) ∧ wr.cell? ⟨a10.heap.size, 7, none⟩ = some (.int .i64 y_leave) ∧ wr.cell? ⟨a10.heap.size, 8, none⟩ = some (.int .i64 y_arrive) ∧ Hid (wr.ownsRow w.heap.size 30 9 (.slice (some ⟨w.heap.size, 0, none⟩) 1 1) 1 [.int .i64 x_id, .int .i64 x_day, .int .i64 x_zone, .int .i64 x_grams, .int .i64 x_paid, .int .i64 x_from_, .int .i64 x_to_, .int .i64 x_leave, .int .i64 x_arrive]))
    case first =>
     cases t_27 with
     | false =>
      replace H := ite_f H; go_wp2_with fail
      go_meet
      case rel => exact ⟨_, rfl, H, t13, o10, s10, t10, q10, r10, m10, l10, n10, p10, h10, f10, g10, c10, i10, k10, e10, j10, d10, Ox_0⟩
     | true =>
      replace H := ite_t H; replace H := let_hid H; obtain ⟨t_29, w15, H⟩ := H; go_wp2_with fail
      go_meet
      case rel => exact ⟨_, rfl, H, t13, o10, s10, t10, q10, r10, m10, l10, n10, p10, h10, f10, g10, c10, i10, k10, e10, j10, d10, Ox_0⟩
    case rest =>
     obtain ⟨o13, rfl, H, o14, o10, s10, t10, q10, r10, m10, l10, n10, p10, h10, f10, g10, c10, i10, k10, e10, j10, d10, Ox_0⟩ := hcut; rename World => wq2; unfold q2 at H; replace H := let_hid H; obtain ⟨_, rfl, H⟩ := H; replace H := let_hid H; obtain ⟨t_35, y15, H⟩ := H; go_upto_if 33 with fail
     go_cut [6] (fun v6_ wr => ∃ (p12 : Int), v6_ = .int .i64 p12 ∧ Hid (q3 x_id x_paid x_from_ x_to_ x_leave x_arrive y_id y_day y_zone y_grams y_paid y_from_ y_to_ y_leave y_arrive (p12) = some (r0, r1)) ∧ Hid (Below w.heap.size w wr) ∧ wr.cell? ⟨w.heap.size, 0, none⟩ = some (.int .i64 x_id) ∧ wr.cell? ⟨w.heap.size, 1, none⟩ = some (.int .i64 x_day) ∧ wr.cell? ⟨w.heap.size, 2, none⟩ = some (.int .i64 x_zone) ∧ wr.cell? ⟨w.heap.size, 3, none⟩ = some (.int .i64 x_grams) ∧ wr.cell? ⟨w.heap.size, 4, none⟩ = some (.int .i64 x_paid) ∧ wr.cell? ⟨w.heap.size, 5, none⟩ = some (.int .i64 x_from_) ∧ wr.cell? ⟨w.heap.size, 6, none⟩ = some (.int .i64 x_to_) ∧ wr.cell? ⟨w.heap.size, 7, none⟩ = some (.int .i64 x_leave) ∧ wr.cell? ⟨w.heap.size, 8, none⟩ = some (.int .i64 x_arrive) ∧ wr.cell? ⟨a10.heap.size, 0, none⟩ = some (.int .i64 y_id) ∧ wr.cell? ⟨a10.heap.size, 1, none⟩ = some (.int .i64 y_day) ∧ wr.cell? ⟨a10.heap.size, 2, none⟩ = some (.int .i64 y_zone) ∧ wr.cell? ⟨a10.heap.size, 3, none⟩ = some (.int .i64 y_grams) ∧ wr.cell? ⟨a10.heap.size, 4, none⟩ = some (.int .i64 y_paid) ∧ wr.cell? ⟨a10.heap.size, 5, none⟩ = some (.int .i64 y_from_) ∧ wr.cell? ⟨a10.heap.size, 6, none⟩ = some (.int .i64 y_to_) ∧ wr.cell? ⟨a10.heap.size, 7, none⟩ = some (.int .i64 y_leave) ∧ wr.cell? ⟨a10.heap.size, 8, none⟩ = some (.int .i64 y_arrive) ∧ Hid (wr.ownsRow w.heap.size 30 9 (.slice (some ⟨w.heap.size, 0, none⟩) 1 1) 1 [.int .i64 x_id, .int .i64 x_day, .int .i64 x_zone, .int .i64 x_grams, .int .i64 x_paid, .int .i64 x_from_, .int .i64 x_to_, .int .i64 x_leave, .int .i64 x_arrive]))
     case first =>
      cases t_35 with
      | false =>
       replace H := ite_f H; go_wp2_with fail
       go_meet
       case rel => exact ⟨_, rfl, H, o14, o10, s10, t10, q10, r10, m10, l10, n10, p10, h10, f10, g10, c10, i10, k10, e10, j10, d10, Ox_0⟩
      | true =>
       replace H := ite_t H; replace H := let_hid H; obtain ⟨t_37, f16, H⟩ := H; go_wp2_with fail
       go_meet
       case rel => exact ⟨_, rfl, H, o14, o10, s10, t10, q10, r10, m10, l10, n10, p10, h10, f10, g10, c10, i10, k10, e10, j10, d10, Ox_0⟩
     case rest =>
      obtain ⟨p12, rfl, H, r13, o10, s10, t10, q10, r10, m10, l10, n10, p10, h10, f10, g10, c10, i10, k10, e10, j10, d10, Ox_0⟩ := hcut; rename World => wq3; unfold q3 at H; replace H := let_hid H; obtain ⟨_, rfl, H⟩ := H; replace H := let_hid H; obtain ⟨t_43, i16, H⟩ := H; go_upto_if 40 with fail
      go_cut [6] (fun v6_ wr => ∃ (m13 : Int), v6_ = .int .i64 m13 ∧ Hid (q4 x_id x_from_ x_to_ x_leave x_arrive y_id y_day y_zone y_grams y_paid y_from_ y_to_ y_leave y_arrive (m13) = some (r0, r1)) ∧ Hid (Below w.heap.size w wr) ∧ wr.cell? ⟨w.heap.size, 0, none⟩ = some (.int .i64 x_id) ∧ wr.cell? ⟨w.heap.size, 1, none⟩ = some (.int .i64 x_day) ∧ wr.cell? ⟨w.heap.size, 2, none⟩ = some (.int .i64 x_zone) ∧ wr.cell? ⟨w.heap.size, 3, none⟩ = some (.int .i64 x_grams) ∧ wr.cell? ⟨w.heap.size, 4, none⟩ = some (.int .i64 x_paid) ∧ wr.cell? ⟨w.heap.size, 5, none⟩ = some (.int .i64 x_from_) ∧ wr.cell? ⟨w.heap.size, 6, none⟩ = some (.int .i64 x_to_) ∧ wr.cell? ⟨w.heap.size, 7, none⟩ = some (.int .i64 x_leave) ∧ wr.cell? ⟨w.heap.size, 8, none⟩ = some (.int .i64 x_arrive) ∧ wr.cell? ⟨a10.heap.size, 0, none⟩ = some (.int .i64 y_id) ∧ wr.cell? ⟨a10.heap.size, 1, none⟩ = some (.int .i64 y_day) ∧ wr.cell? ⟨a10.heap.size, 2, none⟩ = some (.int .i64 y_zone) ∧ wr.cell? ⟨a10.heap.size, 3, none⟩ = some (.int .i64 y_grams) ∧ wr.cell? ⟨a10.heap.size, 4, none⟩ = some (.int .i64 y_paid) ∧ wr.cell? ⟨a10.heap.size, 5, none⟩ = some (.int .i64 y_from_) ∧ wr.cell? ⟨a10.heap.size, 6, none⟩ = some (.int .i64 y_to_) ∧ wr.cell? ⟨a10.heap.size, 7, none⟩ = some (.int .i64 y_leave) ∧ wr.cell? ⟨a10.heap.size, 8, none⟩ = some (.int .i64 y_arrive) ∧ Hid (wr.ownsRow w.heap.size 30 9 (.slice (some ⟨w.heap.size, 0, none⟩) 1 1) 1 [.int .i64 x_id, .int .i64 x_day, .int .i64 x_zone, .int .i64 x_grams, .int .i64 x_paid, .int .i64 x_from_, .int .i64 x_to_, .int .i64 x_leave, .int .i64 x_arrive]))
      case first =>
       cases t_43 with
       | false =>
        replace H := ite_f H; go_wp2_with fail
        go_meet
        case rel => exact ⟨_, rfl, H, r13, o10, s10, t10, q10, r10, m10, l10, n10, p10, h10, f10, g10, c10, i10, k10, e10, j10, d10, Ox_0⟩
       | true =>
        replace H := ite_t H; replace H := let_hid H; obtain ⟨t_45, x15, H⟩ := H; go_wp2_with fail
        go_meet
        case rel => exact ⟨_, rfl, H, r13, o10, s10, t10, q10, r10, m10, l10, n10, p10, h10, f10, g10, c10, i10, k10, e10, j10, d10, Ox_0⟩
      case rest =>
       obtain ⟨m13, rfl, H, v11, o10, s10, t10, q10, r10, m10, l10, n10, p10, h10, f10, g10, c10, i10, k10, e10, j10, d10, Ox_0⟩ := hcut; rename World => wq4; unfold q4 at H; replace H := let_hid H; obtain ⟨_, rfl, H⟩ := H; go_wp2_with fail; have bd12 : Below wq4.heap.size wq4 wq4.drew := (Below.refl _ _).drew; have v11.drew := Lib.hid (Below.step v11.out bd12); replace o10 := cell_below bd12 o10; replace s10 := cell_below bd12 s10; replace t10 := cell_below bd12 t10; replace q10 := cell_below bd12 q10; replace r10 := cell_below bd12 r10; replace m10 := cell_below bd12 m10; replace l10 := cell_below bd12 l10; replace n10 := cell_below bd12 n10; replace p10 := cell_below bd12 p10; replace h10 := cell_below bd12 h10; replace f10 := cell_below bd12 f10; replace g10 := cell_below bd12 g10; replace c10 := cell_below bd12 c10; replace i10 := cell_below bd12 i10; replace k10 := cell_below bd12 k10; replace e10 := cell_below bd12 e10; replace j10 := cell_below bd12 j10; replace d10 := cell_below bd12 d10; replace Ox_0 := Lib.hid (own_below Ox_0.out bd12); clear bd12; refine wp_region_held_drew (S := fun w' => w'.cell? ⟨w.heap.size, 0, none⟩ = some (.int .i64 x_id) ∧ w'.cell? ⟨w.heap.size, 5, none⟩ = some (.int .i64 x_from_) ∧ w'.cell? ⟨w.heap.size, 6, none⟩ = some (.int .i64 x_to_) ∧ w'.cell? ⟨w.heap.size, 7, none⟩ = some (.int .i64 x_leave) ∧ w'.cell? ⟨w.heap.size, 8, none⟩ = some (.int .i64 x_arrive) ∧ w'.cell? ⟨a10.heap.size, 0, none⟩ = some (.int .i64 y_id) ∧ w'.cell? ⟨a10.heap.size, 1, none⟩ = some (.int .i64 y_day) ∧ w'.cell? ⟨a10.heap.size, 2, none⟩ = some (.int .i64 y_zone) ∧ w'.cell? ⟨a10.heap.size, 3, none⟩ = some (.int .i64 y_grams) ∧ w'.cell? ⟨a10.heap.size, 4, none⟩ = some (.int .i64 y_paid) ∧ w'.cell? ⟨a10.heap.size, 5, none⟩ = some (.int .i64 y_from_) ∧ w'.cell? ⟨a10.heap.size, 6, none⟩ = some (.int .i64 y_to_) ∧ w'.cell? ⟨a10.heap.size, 7, none⟩ = some (.int .i64 y_leave) ∧ w'.cell? ⟨a10.heap.size, 8, none⟩ = some (.int .i64 y_arrive) ∧ Hid (0 ≤ w'.heap.size)) (by kernel_rfl) ⟨o10, m10, l10, n10, p10, h10, f10, g10, c10, i10, k10, e10, j10, d10, Lib.hid (Nat.zero_le _)⟩ (fun hHeld => ?_); refine wpAnyH_take (i := 0) (oi := _) (v := ?_) rfl (by kernel_rfl) (by kernel_rfl) (by kernel_rfl) (fun _ _ _ h => h) (Or.inl ⟨by rfl, ?_⟩) (by assumption) ?_
       rotate_left
       ·
        intro w hSw
        (try dsimp only at hSw)
        (try simp only [List.getElem_toArray, List.getElem_cons_zero, List.getElem_cons_succ])
        go_simp
        (try with_reducible rfl)
       try simp only [Act.put, List.getElem_toArray, List.getElem_cons_zero, List.getElem_cons_succ, List.setIfInBounds_toArray, List.set_cons_zero, List.set_cons_succ]
       refine wpAnyH_take (i := 1) (oi := _) (v := ?_) rfl (by kernel_rfl) (by kernel_rfl) (by kernel_rfl) (fun _ _ _ h => h) (Or.inl ⟨by rfl, ?_⟩) (by assumption) ?_
       rotate_left
       ·
        intro w hSw
        (try dsimp only at hSw)
        (try simp only [List.getElem_toArray, List.getElem_cons_zero, List.getElem_cons_succ])
        go_simp
        (try with_reducible rfl)
       try simp only [Act.put, List.getElem_toArray, List.getElem_cons_zero, List.getElem_cons_succ, List.setIfInBounds_toArray, List.set_cons_zero, List.set_cons_succ]
       refine wpAnyH_take (i := 2) (oi := _) (v := ?_) rfl (by kernel_rfl) (by kernel_rfl) (by kernel_rfl) (fun _ _ _ h => h) (Or.inl ⟨by rfl, ?_⟩) (by assumption) ?_
       rotate_left
       ·
        intro w hSw
        (try dsimp only at hSw)
        (try simp only [List.getElem_toArray, List.getElem_cons_zero, List.getElem_cons_succ])
        go_simp
        (try with_reducible rfl)
       try simp only [Act.put, List.getElem_toArray, List.getElem_cons_zero, List.getElem_cons_succ, List.setIfInBounds_toArray, List.set_cons_zero, List.set_cons_succ]
       refine wpAnyH_take (i := 3) (oi := _) (v := ?_) rfl (by kernel_rfl) (by kernel_rfl) (by kernel_rfl) (fun _ _ _ h => h) (Or.inl ⟨by rfl, ?_⟩) (by assumption) ?_
       rotate_left
       ·
        intro w hSw
        (try dsimp only at hSw)
        (try simp only [List.getElem_toArray, List.getElem_cons_zero, List.getElem_cons_succ])
        go_simp
        (try with_reducible rfl)
       try simp only [Act.put, List.getElem_toArray, List.getElem_cons_zero, List.getElem_cons_succ, List.setIfInBounds_toArray, List.set_cons_zero, List.set_cons_succ]
       refine wpAnyH_take (i := 4) (oi := _) (v := ?_) rfl (by kernel_rfl) (by kernel_rfl) (by kernel_rfl) (fun _ _ _ h => h) (Or.inl ⟨by rfl, ?_⟩) (by assumption) ?_
       rotate_left
       ·
        intro w hSw
        (try dsimp only at hSw)
        (try simp only [List.getElem_toArray, List.getElem_cons_zero, List.getElem_cons_succ])
        go_simp
        (try with_reducible rfl)
       try simp only [Act.put, List.getElem_toArray, List.getElem_cons_zero, List.getElem_cons_succ, List.setIfInBounds_toArray, List.set_cons_zero, List.set_cons_succ]
       refine wpAnyH_take (i := 5) (oi := _) (v := ?_) rfl (by kernel_rfl) (by kernel_rfl) (by kernel_rfl) (fun _ _ _ h => h) (Or.inl ⟨by rfl, ?_⟩) (by assumption) ?_
       rotate_left
       ·
        intro w hSw
        (try dsimp only at hSw)
        (try simp only [List.getElem_toArray, List.getElem_cons_zero, List.getElem_cons_succ])
        go_simp
        (try with_reducible rfl)
       try simp only [Act.put, List.getElem_toArray, List.getElem_cons_zero, List.getElem_cons_succ, List.setIfInBounds_toArray, List.set_cons_zero, List.set_cons_succ]
       refine wpAnyH_take (i := 6) (oi := _) (v := ?_) rfl (by kernel_rfl) (by kernel_rfl) (by kernel_rfl) (fun _ _ _ h => h) (Or.inl ⟨by rfl, ?_⟩) (by assumption) ?_
       rotate_left
       ·
        intro w hSw
        (try dsimp only at hSw)
        (try simp only [List.getElem_toArray, List.getElem_cons_zero, List.getElem_cons_succ])
        go_simp
        (try with_reducible rfl)
       try simp only [Act.put, List.getElem_toArray, List.getElem_cons_zero, List.getElem_cons_succ, List.setIfInBounds_toArray, List.set_cons_zero, List.set_cons_succ]
       refine wpAnyH_take (i := 7) (oi := _) (v := ?_) rfl (by kernel_rfl) (by kernel_rfl) (by kernel_rfl) (fun _ _ _ h => h) (Or.inl ⟨by rfl, ?_⟩) (by assumption) ?_
       rotate_left
       ·
        intro w hSw
        (try dsimp only at hSw)
        (try simp only [List.getElem_toArray, List.getElem_cons_zero, List.getElem_cons_succ])
        go_simp
        (try with_reducible rfl)
       try simp only [Act.put, List.getElem_toArray, List.getElem_cons_zero, List.getElem_cons_succ, List.setIfInBounds_toArray, List.set_cons_zero, List.set_cons_succ]
       refine wpAnyH_take (i := 8) (oi := _) (v := ?_) rfl (by kernel_rfl) (by kernel_rfl) (by kernel_rfl) (fun _ _ _ h => h) (Or.inl ⟨by rfl, ?_⟩) (by assumption) ?_
       rotate_left
       ·
        intro w hSw
        (try dsimp only at hSw)
        (try simp only [List.getElem_toArray, List.getElem_cons_zero, List.getElem_cons_succ])
        go_simp
        (try with_reducible rfl)
       try simp only [Act.put, List.getElem_toArray, List.getElem_cons_zero, List.getElem_cons_succ, List.setIfInBounds_toArray, List.set_cons_zero, List.set_cons_succ]
       refine wpAnyH_ready (rs := [9]) (by kernel_rfl) (by simp) ?_; refine AllReadyH.cons (o := _) rfl (fun K_ hK_ => ?_) AllReadyH.nil; obtain ⟨a11, x14⟩ : ∃ x, (wq4.drew).setCell ⟨w.heap.size, 1, none⟩ (.int .i64 y_day) = x := ⟨_, rfl⟩; have l15 := Ox_0.out.frozenAt 1; have k13 := Lib.hid (own_stores [(1, .int .i64 y_day)] Ox_0.out); have x10 : Hid (a11.ownsRow w.heap.size 30 9 (.slice (some ⟨w.heap.size, 0, none⟩) 1 1) 1 [.int .i64 x_id, .int .i64 y_day, .int .i64 x_zone, .int .i64 x_grams, .int .i64 x_paid, .int .i64 x_from_, .int .i64 x_to_, .int .i64 x_leave, .int .i64 x_arrive]) := Lib.hid (by rw [← x14]; exact k13.out.1); have d11 : Hid (wq4.drew.grownBy a11 (Value.slice (some ⟨w.heap.size, 0, none⟩) 1 1).ownBlock) := Lib.hid (by rw [← x14]; exact k13.out.2); have r14 := Lib.hid (v11.drew.out.grown d11.out v11.drew.out.size (fun q hq => (Ox_0.out.lt q hq).1)); clear k13; have g12 := cell_other h10 d11.out (Apart.symm b10.out); have l11 := cell_other f10 d11.out (Apart.symm b10.out); have b12 := cell_other g10 d11.out (Apart.symm b10.out); have o11 := cell_other c10 d11.out (Apart.symm b10.out); have e12 := cell_other i10 d11.out (Apart.symm b10.out); have c12 := cell_other k10 d11.out (Apart.symm b10.out); have x11 := cell_other e10 d11.out (Apart.symm b10.out); have z11 := cell_other j10 d11.out (Apart.symm b10.out); have q11 := cell_other d10 d11.out (Apart.symm b10.out); clear Ox_0 d11; have l13 : a11.cell? ⟨w.heap.size, 0, none⟩ = some (.int .i64 x_id) := x10.out.cells rfl 0 _ rfl; have s15 : a11.cell? ⟨w.heap.size, 1, none⟩ = some (.int .i64 y_day) := x10.out.cells rfl 1 _ rfl; have k15 : a11.cell? ⟨w.heap.size, 2, none⟩ = some (.int .i64 x_zone) := x10.out.cells rfl 2 _ rfl; have h15 : a11.cell? ⟨w.heap.size, 3, none⟩ = some (.int .i64 x_grams) := x10.out.cells rfl 3 _ rfl; have q15 : a11.cell? ⟨w.heap.size, 4, none⟩ = some (.int .i64 x_paid) := x10.out.cells rfl 4 _ rfl; have g13 : a11.cell? ⟨w.heap.size, 5, none⟩ = some (.int .i64 x_from_) := x10.out.cells rfl 5 _ rfl; have r12 : a11.cell? ⟨w.heap.size, 6, none⟩ = some (.int .i64 x_to_) := x10.out.cells rfl 6 _ rfl; have c13 : a11.cell? ⟨w.heap.size, 7, none⟩ = some (.int .i64 x_leave) := x10.out.cells rfl 7 _ rfl; have x12 : a11.cell? ⟨w.heap.size, 8, none⟩ = some (.int .i64 x_arrive) := x10.out.cells rfl 8 _ rfl
       (try simp only [List.getElem_toArray, List.getElem_cons_zero, List.getElem_cons_succ])
       go_simp
       first | refine hK_.out _ _ ⟨l13, g13, r12, c13, x12, g12, l11, b12, o11, e12, c12, x11, z11, q11, Lib.hid (Nat.zero_le _)⟩ (fun hHeld => ?_) | (go_wp2_with fail; refine hK_.out _ _ ⟨l13, g13, r12, c13, x12, g12, l11, b12, o11, e12, c12, x11, z11, q11, Lib.hid (Nat.zero_le _)⟩ (fun hHeld => ?_))
       clear hK_ K_
       try simp only [Act.put, List.getElem_toArray, List.getElem_cons_zero, List.getElem_cons_succ, List.setIfInBounds_toArray, List.set_cons_zero, List.set_cons_succ]
       refine wpAnyH_take (i := 10) (oi := _) (v := ?_) rfl (by kernel_rfl) (by kernel_rfl) (by kernel_rfl) (fun _ _ _ h => h) (Or.inl ⟨by rfl, ?_⟩) (by assumption) ?_
       rotate_left
       ·
        intro w hSw
        (try dsimp only at hSw)
        (try simp only [List.getElem_toArray, List.getElem_cons_zero, List.getElem_cons_succ])
        go_simp
        (try with_reducible rfl)
       try simp only [Act.put, List.getElem_toArray, List.getElem_cons_zero, List.getElem_cons_succ, List.setIfInBounds_toArray, List.set_cons_zero, List.set_cons_succ]
       refine wpAnyH_ready (rs := [11]) (by kernel_rfl) (by simp) ?_; refine AllReadyH.cons (o := _) rfl (fun K_ hK_ => ?_) AllReadyH.nil; obtain ⟨v10, w13⟩ : ∃ x, (a11).setCell ⟨w.heap.size, 2, none⟩ (.int .i64 y_zone) = x := ⟨_, rfl⟩; have i15 := x10.out.frozenAt 2; have f13 := Lib.hid (own_stores [(2, .int .i64 y_zone)] x10.out); have w10 : Hid (v10.ownsRow w.heap.size 30 9 (.slice (some ⟨w.heap.size, 0, none⟩) 1 1) 1 [.int .i64 x_id, .int .i64 y_day, .int .i64 y_zone, .int .i64 x_grams, .int .i64 x_paid, .int .i64 x_from_, .int .i64 x_to_, .int .i64 x_leave, .int .i64 x_arrive]) := Lib.hid (by rw [← w13]; exact f13.out.1); have e11 : Hid (a11.grownBy v10 (Value.slice (some ⟨w.heap.size, 0, none⟩) 1 1).ownBlock) := Lib.hid (by rw [← w13]; exact f13.out.2); have c14 := Lib.hid (r14.out.grown e11.out r14.out.size (fun q hq => (x10.out.lt q hq).1)); clear f13; have k12 := cell_other g12 e11.out (Apart.symm b10.out); have a12 := cell_other l11 e11.out (Apart.symm b10.out); have f12 := cell_other b12 e11.out (Apart.symm b10.out); have i12 := cell_other o11 e11.out (Apart.symm b10.out); have y11 := cell_other e12 e11.out (Apart.symm b10.out); have o12 := cell_other c12 e11.out (Apart.symm b10.out); have m11 := cell_other x11 e11.out (Apart.symm b10.out); have h12 := cell_other z11 e11.out (Apart.symm b10.out); have s11 := cell_other q11 e11.out (Apart.symm b10.out); clear x10 e11; have b13 : v10.cell? ⟨w.heap.size, 0, none⟩ = some (.int .i64 x_id) := w10.out.cells rfl 0 _ rfl; have r15 : v10.cell? ⟨w.heap.size, 1, none⟩ = some (.int .i64 y_day) := w10.out.cells rfl 1 _ rfl; have j15 : v10.cell? ⟨w.heap.size, 2, none⟩ = some (.int .i64 y_zone) := w10.out.cells rfl 2 _ rfl; have c15 : v10.cell? ⟨w.heap.size, 3, none⟩ = some (.int .i64 x_grams) := w10.out.cells rfl 3 _ rfl; have m15 : v10.cell? ⟨w.heap.size, 4, none⟩ = some (.int .i64 x_paid) := w10.out.cells rfl 4 _ rfl; have q12 : v10.cell? ⟨w.heap.size, 5, none⟩ = some (.int .i64 x_from_) := w10.out.cells rfl 5 _ rfl; have e13 : v10.cell? ⟨w.heap.size, 6, none⟩ = some (.int .i64 x_to_) := w10.out.cells rfl 6 _ rfl; have a13 : v10.cell? ⟨w.heap.size, 7, none⟩ = some (.int .i64 x_leave) := w10.out.cells rfl 7 _ rfl; have n13 : v10.cell? ⟨w.heap.size, 8, none⟩ = some (.int .i64 x_arrive) := w10.out.cells rfl 8 _ rfl
       (try simp only [List.getElem_toArray, List.getElem_cons_zero, List.getElem_cons_succ])
       go_simp
       first | refine hK_.out _ _ ⟨b13, q12, e13, a13, n13, k12, a12, f12, i12, y11, o12, m11, h12, s11, Lib.hid (Nat.zero_le _)⟩ (fun hHeld => ?_) | (go_wp2_with fail; refine hK_.out _ _ ⟨b13, q12, e13, a13, n13, k12, a12, f12, i12, y11, o12, m11, h12, s11, Lib.hid (Nat.zero_le _)⟩ (fun hHeld => ?_))
       clear hK_ K_
       try simp only [Act.put, List.getElem_toArray, List.getElem_cons_zero, List.getElem_cons_succ, List.setIfInBounds_toArray, List.set_cons_zero, List.set_cons_succ]
       refine wpAnyH_take (i := 12) (oi := _) (v := ?_) rfl (by kernel_rfl) (by kernel_rfl) (by kernel_rfl) (fun _ _ _ h => h) (Or.inl ⟨by rfl, ?_⟩) (by assumption) ?_
       rotate_left
       ·
        intro w hSw
        (try dsimp only at hSw)
        (try simp only [List.getElem_toArray, List.getElem_cons_zero, List.getElem_cons_succ])
        go_simp
        (try with_reducible rfl)
       try simp only [Act.put, List.getElem_toArray, List.getElem_cons_zero, List.getElem_cons_succ, List.setIfInBounds_toArray, List.set_cons_zero, List.set_cons_succ]
       refine wpAnyH_ready (rs := [13]) (by kernel_rfl) (by simp) ?_; refine AllReadyH.cons (o := _) rfl (fun K_ hK_ => ?_) AllReadyH.nil; obtain ⟨z10, y14⟩ : ∃ x, (v10).setCell ⟨w.heap.size, 3, none⟩ (.int .i64 y_grams) = x := ⟨_, rfl⟩; have d15 := w10.out.frozenAt 3; have p13 := Lib.hid (own_stores [(3, .int .i64 y_grams)] w10.out); have y10 : Hid (z10.ownsRow w.heap.size 30 9 (.slice (some ⟨w.heap.size, 0, none⟩) 1 1) 1 [.int .i64 x_id, .int .i64 y_day, .int .i64 y_zone, .int .i64 y_grams, .int .i64 x_paid, .int .i64 x_from_, .int .i64 x_to_, .int .i64 x_leave, .int .i64 x_arrive]) := Lib.hid (by rw [← y14]; exact p13.out.1); have f11 : Hid (v10.grownBy z10 (Value.slice (some ⟨w.heap.size, 0, none⟩) 1 1).ownBlock) := Lib.hid (by rw [← y14]; exact p13.out.2); have s13 := Lib.hid (c14.out.grown f11.out c14.out.size (fun q hq => (w10.out.lt q hq).1)); clear p13; have j12 := cell_other k12 f11.out (Apart.symm b10.out); have m12 := cell_other a12 f11.out (Apart.symm b10.out); have w11 := cell_other f12 f11.out (Apart.symm b10.out); have n12 := cell_other i12 f11.out (Apart.symm b10.out); have r11 := cell_other y11 f11.out (Apart.symm b10.out); have d12 := cell_other o12 f11.out (Apart.symm b10.out); have p11 := cell_other m11 f11.out (Apart.symm b10.out); have n11 := cell_other h12 f11.out (Apart.symm b10.out); have t11 := cell_other s11 f11.out (Apart.symm b10.out); clear w10 f11; have d13 : z10.cell? ⟨w.heap.size, 0, none⟩ = some (.int .i64 x_id) := y10.out.cells rfl 0 _ rfl; have e15 : z10.cell? ⟨w.heap.size, 1, none⟩ = some (.int .i64 y_day) := y10.out.cells rfl 1 _ rfl; have f15 : z10.cell? ⟨w.heap.size, 2, none⟩ = some (.int .i64 y_zone) := y10.out.cells rfl 2 _ rfl; have o15 : z10.cell? ⟨w.heap.size, 3, none⟩ = some (.int .i64 y_grams) := y10.out.cells rfl 3 _ rfl; have t15 : z10.cell? ⟨w.heap.size, 4, none⟩ = some (.int .i64 x_paid) := y10.out.cells rfl 4 _ rfl; have t12 : z10.cell? ⟨w.heap.size, 5, none⟩ = some (.int .i64 x_from_) := y10.out.cells rfl 5 _ rfl; have w12 : z10.cell? ⟨w.heap.size, 6, none⟩ = some (.int .i64 x_to_) := y10.out.cells rfl 6 _ rfl; have h13 : z10.cell? ⟨w.heap.size, 7, none⟩ = some (.int .i64 x_leave) := y10.out.cells rfl 7 _ rfl; have v12 : z10.cell? ⟨w.heap.size, 8, none⟩ = some (.int .i64 x_arrive) := y10.out.cells rfl 8 _ rfl
       (try simp only [List.getElem_toArray, List.getElem_cons_zero, List.getElem_cons_succ])
       go_simp
       first | refine hK_.out _ _ ⟨d13, t12, w12, h13, v12, j12, m12, w11, n12, r11, d12, p11, n11, t11, Lib.hid (Nat.zero_le _)⟩ (fun hHeld => ?_) | (go_wp2_with fail; refine hK_.out _ _ ⟨d13, t12, w12, h13, v12, j12, m12, w11, n12, r11, d12, p11, n11, t11, Lib.hid (Nat.zero_le _)⟩ (fun hHeld => ?_))
       clear hK_ K_
       try simp only [Act.put, List.getElem_toArray, List.getElem_cons_zero, List.getElem_cons_succ, List.setIfInBounds_toArray, List.set_cons_zero, List.set_cons_succ]
       refine wpAnyH_take (i := 14) (oi := _) (v := ?_) rfl (by kernel_rfl) (by kernel_rfl) (by kernel_rfl) (fun _ _ _ h => h) (Or.inl ⟨by rfl, ?_⟩) (by assumption) ?_
       rotate_left
       ·
        intro w hSw
        (try dsimp only at hSw)
        (try simp only [List.getElem_toArray, List.getElem_cons_zero, List.getElem_cons_succ])
        go_simp
        (try with_reducible rfl)
       try simp only [Act.put, List.getElem_toArray, List.getElem_cons_zero, List.getElem_cons_succ, List.setIfInBounds_toArray, List.set_cons_zero, List.set_cons_succ]
       refine wpAnyH_ready (rs := [15]) (by kernel_rfl) (by simp) ?_; refine AllReadyH.cons (o := _) rfl (fun K_ hK_ => ?_) AllReadyH.nil; obtain ⟨h11, z14⟩ : ∃ x, (z10).setCell ⟨w.heap.size, 4, none⟩ (.int .i64 y_paid) = x := ⟨_, rfl⟩; have v15 := y10.out.frozenAt 4; have j13 := Lib.hid (own_stores [(4, .int .i64 y_paid)] y10.out); have k11 : Hid (h11.ownsRow w.heap.size 30 9 (.slice (some ⟨w.heap.size, 0, none⟩) 1 1) 1 [.int .i64 x_id, .int .i64 y_day, .int .i64 y_zone, .int .i64 y_grams, .int .i64 y_paid, .int .i64 x_from_, .int .i64 x_to_, .int .i64 x_leave, .int .i64 x_arrive]) := Lib.hid (by rw [← z14]; exact j13.out.1); have g11 : Hid (z10.grownBy h11 (Value.slice (some ⟨w.heap.size, 0, none⟩) 1 1).ownBlock) := Lib.hid (by rw [← z14]; exact j13.out.2); have m14 := Lib.hid (s13.out.grown g11.out s13.out.size (fun q hq => (y10.out.lt q hq).1)); clear j13; have k14 := cell_other j12 g11.out (Apart.symm b10.out); have s14 := cell_other m12 g11.out (Apart.symm b10.out); have v14 := cell_other w11 g11.out (Apart.symm b10.out); have g14 := cell_other n12 g11.out (Apart.symm b10.out); have v13 := cell_other r11 g11.out (Apart.symm b10.out); have j14 := cell_other d12 g11.out (Apart.symm b10.out); have w14 := cell_other p11 g11.out (Apart.symm b10.out); have f14 := cell_other n11 g11.out (Apart.symm b10.out); have z13 := cell_other t11 g11.out (Apart.symm b10.out); clear y10 g11; have b14 : h11.cell? ⟨w.heap.size, 0, none⟩ = some (.int .i64 x_id) := k11.out.cells rfl 0 _ rfl; have e16 : h11.cell? ⟨w.heap.size, 1, none⟩ = some (.int .i64 y_day) := k11.out.cells rfl 1 _ rfl; have c16 : h11.cell? ⟨w.heap.size, 2, none⟩ = some (.int .i64 y_zone) := k11.out.cells rfl 2 _ rfl; have h16 : h11.cell? ⟨w.heap.size, 3, none⟩ = some (.int .i64 y_grams) := k11.out.cells rfl 3 _ rfl; have b16 : h11.cell? ⟨w.heap.size, 4, none⟩ = some (.int .i64 y_paid) := k11.out.cells rfl 4 _ rfl; have t14 : h11.cell? ⟨w.heap.size, 5, none⟩ = some (.int .i64 x_from_) := k11.out.cells rfl 5 _ rfl; have q14 : h11.cell? ⟨w.heap.size, 6, none⟩ = some (.int .i64 x_to_) := k11.out.cells rfl 6 _ rfl; have l14 : h11.cell? ⟨w.heap.size, 7, none⟩ = some (.int .i64 x_leave) := k11.out.cells rfl 7 _ rfl; have n14 : h11.cell? ⟨w.heap.size, 8, none⟩ = some (.int .i64 x_arrive) := k11.out.cells rfl 8 _ rfl
       (try simp only [List.getElem_toArray, List.getElem_cons_zero, List.getElem_cons_succ])
       go_simp
       first | refine hK_.out _ _ ⟨b14, t14, q14, l14, n14, k14, s14, v14, g14, v13, j14, w14, f14, z13, Lib.hid (Nat.zero_le _)⟩ (fun hHeld => ?_) | (go_wp2_with fail; refine hK_.out _ _ ⟨b14, t14, q14, l14, n14, k14, s14, v14, g14, v13, j14, w14, f14, z13, Lib.hid (Nat.zero_le _)⟩ (fun hHeld => ?_))
       clear hK_ K_
       try simp only [Act.put, List.getElem_toArray, List.getElem_cons_zero, List.getElem_cons_succ, List.setIfInBounds_toArray, List.set_cons_zero, List.set_cons_succ]
       refine wpAnyH_done (by kernel_rfl) ?_ _
       try clear l15
       try clear h10
       try clear f10
       try clear g10
       try clear c10
       try clear i10
       try clear k10
       try clear e10
       try clear j10
       try clear d10
       try clear o10
       try clear s10
       try clear t10
       try clear q10
       try clear r10
       try clear m10
       try clear l10
       try clear n10
       try clear p10
       try clear i15
       try clear g12
       try clear l11
       try clear b12
       try clear o11
       try clear e12
       try clear c12
       try clear x11
       try clear z11
       try clear q11
       try clear l13
       try clear s15
       try clear k15
       try clear h15
       try clear q15
       try clear g13
       try clear r12
       try clear c13
       try clear x12
       try clear d15
       try clear k12
       try clear a12
       try clear f12
       try clear i12
       try clear y11
       try clear o12
       try clear m11
       try clear h12
       try clear s11
       try clear b13
       try clear r15
       try clear j15
       try clear c15
       try clear m15
       try clear q12
       try clear e13
       try clear a13
       try clear n13
       try clear v15
       try clear j12
       try clear m12
       try clear w11
       try clear n12
       try clear r11
       try clear d12
       try clear p11
       try clear n11
       try clear t11
       try clear d13
       try clear e15
       try clear f15
       try clear o15
       try clear t15
       try clear t12
       try clear w12
       try clear h13
       try clear v12
       replace H := let_hid H; obtain ⟨t_65, p15, H⟩ := H; have j16 : ∀ W, (binOp .neq 30 (.agg #[.int .i64 x_id, .int .i64 y_day, .int .i64 y_zone, .int .i64 y_grams, .int .i64 y_paid, .int .i64 x_from_, .int .i64 x_to_, .int .i64 x_leave, .int .i64 x_arrive]) (.agg #[.int .i64 y_id, .int .i64 y_day, .int .i64 y_zone, .int .i64 y_grams, .int .i64 y_paid, .int .i64 y_from_, .int .i64 y_to_, .int .i64 y_leave, .int .i64 y_arrive])).run Try.prog W = .ok (.bool t_65) W := fun W => (by rw [neqa_30, p15])
       cases t_65 with
       | false =>
        replace H := ite_f H; cases ret_hid H; go_wp2_with fail; go_ret2; exact ⟨rfl, m14.out⟩
       | true =>
        replace H := ite_t H; cases ret_hid H; go_wp2_with fail; go_ret2; exact ⟨rfl, m14.out⟩
  | true =>
   replace H := ite_t H; cases ret_hid H; go_wp2_with fail; go_ret2; exact ⟨rfl, i13.out⟩
end Go.Proofs.Ytihibckijdfidaa.GiChangeOf

