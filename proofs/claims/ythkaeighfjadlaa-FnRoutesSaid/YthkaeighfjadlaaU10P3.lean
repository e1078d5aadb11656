/- Texts on which the proofs of several laws stand, one behind the other (3 of 11). No condition of their own. -/
import Derived.Test.YthkaeighfjadlaaChecked
import Derived.Test.YthkaeighfjadlaaU10P1
import Derived.Test.YthkaeighfjadlaaU10P2
import Derived.WalkKit
import Derived.Laws.StructEq
import Derived.ChangeKeysEq
import Derived.WalkSpells
import Derived.WalkLawsBesides
import Derived.BigQuiet
import Derived.OwnWalk
import Derived.Deep.LoopGhost
import Derived.Deep.QuietTactic
import Derived.IntWalk
import Derived.Lib.QuietBelow
import Derived.Deep.DeepCutAuto
import Derived.Deep.RegionHeld3
/- (*loop.example/g01062/spec.l1Cur).timetable as a plain function, and the contract of the program's: where the plain one has an answer, the program has it. Conditions: slices read as lists. -/
namespace Go.Proofs.Ythkaeighfjadlaa.GsL1CurTimetable
set_option linter.unusedVariables false
set_option linter.unusedSimpArgs false
open Go.RowKit
open Go.Proofs.Ythkaeighfjadlaa.Rowed Go.Proofs.Ythkaeighfjadlaa.Turn Go.Proofs.Ythkaeighfjadlaa.Aid Go.Proofs.Ythkaeighfjadlaa.GoP Go.Proofs.Ythkaeighfjadlaa.GoM

def q1 (nx1 : (Int) → Option ((List Go.Proofs.Ythkaeighfjadlaa.PMail.Mail) × Go.Proofs.Ythkaeighfjadlaa.GoC.Tape)) (bk1 : (Int) → Option ((List Go.Proofs.Ythkaeighfjadlaa.PMail.Mail) × Go.Proofs.Ythkaeighfjadlaa.GoC.Tape)) (k_6l1 : Int) (s : Bool) : Option ((List Go.Proofs.Ythkaeighfjadlaa.PMail.Mail) × Go.Proofs.Ythkaeighfjadlaa.GoC.Tape) :=
  letK s fun t_38q1 =>
  iteK t_38q1
  (letK (IntKind.i64.wrap (k_6l1 - 1)) fun (t_37 : Int) =>
  appK nx1 (t_37))
  (appK bk1 (k_6l1))

def l1 (list_3l0 : (List Go.Proofs.Ythkaeighfjadlaa.PMail.Mail)) (t_9_leave : Int) (t_9_from_ : Int) (t_9_to_ : Int) (t_9_arrive : Int) (s : Int) (nx1 bk1 : Int → Option ((List Go.Proofs.Ythkaeighfjadlaa.PMail.Mail) × Go.Proofs.Ythkaeighfjadlaa.GoC.Tape)) : Option ((List Go.Proofs.Ythkaeighfjadlaa.PMail.Mail) × Go.Proofs.Ythkaeighfjadlaa.GoC.Tape) :=
  letK s fun k_6l1 =>
  letK (decide (0 < k_6l1)) fun (t_24 : Bool) =>
  joinK (fun (t_35 : Bool) =>
  q1 nx1 bk1 k_6l1 (t_35)) fun jt_35 => iteK t_24 (letK (IntKind.i64.wrap (k_6l1 - 1)) fun (t_28 : Int) =>
  Option.bind (idx list_3l0 t_28) fun (yt_29 : Go.Proofs.Ythkaeighfjadlaa.PMail.Mail) =>
  unMail yt_29 fun (t_29_leave : Int) (t_29_from_ : Int) (t_29_to_ : Int) (t_29_arrive : Int) =>
  Option.bind (Go.Proofs.Ythkaeighfjadlaa.GsL9Code.P (Go.Proofs.Ythkaeighfjadlaa.PMail.Mail.mk t_29_leave t_29_from_ t_29_to_ t_29_arrive)) fun (t_31 : Int) =>
  Option.bind (Go.Proofs.Ythkaeighfjadlaa.GsL9Code.P (Go.Proofs.Ythkaeighfjadlaa.PMail.Mail.mk t_9_leave t_9_from_ t_9_to_ t_9_arrive)) fun (t_33 : Int) =>
  letK (decide (t_33 < t_31)) fun (t_34 : Bool) =>
  appK jt_35 t_34) (appK jt_35 false)

def q2 (nx0 : ((List Go.Proofs.Ythkaeighfjadlaa.PMail.Mail) × Int × Go.Proofs.Ythkaeighfjadlaa.GoC.Tape) → Option ((List Go.Proofs.Ythkaeighfjadlaa.PMail.Mail) × Go.Proofs.Ythkaeighfjadlaa.GoC.Tape)) (list_3l0 : (List Go.Proofs.Ythkaeighfjadlaa.PMail.Mail)) (n_4l0 : Int) (t_9_leave : Int) (t_9_from_ : Int) (t_9_to_ : Int) (t_9_arrive : Int) (c0_c0q0 : Go.Proofs.Ythkaeighfjadlaa.GoC.Tape) (k_6l1 : Int) (s : Bool) : Option ((List Go.Proofs.Ythkaeighfjadlaa.PMail.Mail) × Go.Proofs.Ythkaeighfjadlaa.GoC.Tape) :=
  letK s fun t_51q2 =>
  iteK t_51q2
  (guardK ((0 : Int) ≤ k_6l1 ∧ (k_6l1 : Int) ≤ (list_3l0.length : Int)) <|
  letK (List.take (Int.toNat k_6l1) list_3l0) fun (t_53 : (List Go.Proofs.Ythkaeighfjadlaa.PMail.Mail)) =>
  guardK (([] : List Go.Proofs.Ythkaeighfjadlaa.PMail.Mail).length + t_53.length ≤ 1099511627776) <|
  letK (([] : List Go.Proofs.Ythkaeighfjadlaa.PMail.Mail) ++ t_53) fun (t_54 : (List Go.Proofs.Ythkaeighfjadlaa.PMail.Mail)) =>
  guardK (t_54.length ≤ 1099511627776) <|
  letK (t_54 ++ [(Go.Proofs.Ythkaeighfjadlaa.PMail.Mail.mk t_9_leave t_9_from_ t_9_to_ t_9_arrive)]) fun (t_57 : (List Go.Proofs.Ythkaeighfjadlaa.PMail.Mail)) =>
  guardK ((0 : Int) ≤ k_6l1 ∧ (k_6l1 : Int) ≤ (list_3l0.length : Int)) <|
  letK (List.drop (Int.toNat k_6l1) list_3l0) fun (t_60 : (List Go.Proofs.Ythkaeighfjadlaa.PMail.Mail)) =>
  guardK (t_57.length + t_60.length ≤ 1099511627776) <|
  letK (t_57 ++ t_60) fun (t_61 : (List Go.Proofs.Ythkaeighfjadlaa.PMail.Mail)) =>
  letK (IntKind.i64.wrap (n_4l0 - 1)) fun (t_64 : Int) =>
  appK nx0 (t_61, t_64, c0_c0q0))
  (letK (IntKind.i64.wrap (n_4l0 - 1)) fun (t_64 : Int) =>
  appK nx0 (list_3l0, t_64, c0_c0q0))

def e1 (nx0 : ((List Go.Proofs.Ythkaeighfjadlaa.PMail.Mail) × Int × Go.Proofs.Ythkaeighfjadlaa.GoC.Tape) → Option ((List Go.Proofs.Ythkaeighfjadlaa.PMail.Mail) × Go.Proofs.Ythkaeighfjadlaa.GoC.Tape)) (list_3l0 : (List Go.Proofs.Ythkaeighfjadlaa.PMail.Mail)) (n_4l0 : Int) (t_9_leave : Int) (t_9_from_ : Int) (t_9_to_ : Int) (t_9_arrive : Int) (c0_c0q0 : Go.Proofs.Ythkaeighfjadlaa.GoC.Tape) (s : Int) : Option ((List Go.Proofs.Ythkaeighfjadlaa.PMail.Mail) × Go.Proofs.Ythkaeighfjadlaa.GoC.Tape) :=
  letK s fun k_6l1 =>
  letK (k_6l1 == 0) fun (t_40 : Bool) =>
  joinK (fun (t_49 : Bool) =>
  q2 nx0 list_3l0 n_4l0 t_9_leave t_9_from_ t_9_to_ t_9_arrive c0_c0q0 k_6l1 (t_49)) fun jt_49 => iteK t_40 (appK jt_49 true) (letK (IntKind.i64.wrap (k_6l1 - 1)) fun (t_44 : Int) =>
  Option.bind (idx list_3l0 t_44) fun (yt_45 : Go.Proofs.Ythkaeighfjadlaa.PMail.Mail) =>
  unMail yt_45 fun (t_45_leave : Int) (t_45_from_ : Int) (t_45_to_ : Int) (t_45_arrive : Int) =>
  letK (!(t_45_leave == t_9_leave && t_45_from_ == t_9_from_ && t_45_to_ == t_9_to_ && t_45_arrive == t_9_arrive)) fun (t_48 : Bool) =>
  appK jt_49 t_48)

def q0 (fuel : Nat) (nx0 : ((List Go.Proofs.Ythkaeighfjadlaa.PMail.Mail) × Int × Go.Proofs.Ythkaeighfjadlaa.GoC.Tape) → Option ((List Go.Proofs.Ythkaeighfjadlaa.PMail.Mail) × Go.Proofs.Ythkaeighfjadlaa.GoC.Tape)) (list_3l0 : (List Go.Proofs.Ythkaeighfjadlaa.PMail.Mail)) (n_4l0 : Int) (t_9_leave : Int) (t_9_from_ : Int) (t_9_to_ : Int) (t_9_arrive : Int) (s : Bool × Go.Proofs.Ythkaeighfjadlaa.GoC.Tape) : Option ((List Go.Proofs.Ythkaeighfjadlaa.PMail.Mail) × Go.Proofs.Ythkaeighfjadlaa.GoC.Tape) :=
  unp2 s fun t_23q0 c0_c0q0 =>
  iteK t_23q0
  (letK (IntKind.i64.wrap (n_4l0 - 1)) fun (t_64 : Int) =>
  appK nx0 (list_3l0, t_64, c0_c0q0))
  (loopK (l1 list_3l0 t_9_leave t_9_from_ t_9_to_ t_9_arrive) fuel ((list_3l0.length : Int)) (e1 nx0 list_3l0 n_4l0 t_9_leave t_9_from_ t_9_to_ t_9_arrive c0_c0q0))

def l0 (fuel : Nat) (s : (List Go.Proofs.Ythkaeighfjadlaa.PMail.Mail) × Int × Go.Proofs.Ythkaeighfjadlaa.GoC.Tape) (nx0 bk0 : (List Go.Proofs.Ythkaeighfjadlaa.PMail.Mail) × Int × Go.Proofs.Ythkaeighfjadlaa.GoC.Tape → Option ((List Go.Proofs.Ythkaeighfjadlaa.PMail.Mail) × Go.Proofs.Ythkaeighfjadlaa.GoC.Tape)) : Option ((List Go.Proofs.Ythkaeighfjadlaa.PMail.Mail) × Go.Proofs.Ythkaeighfjadlaa.GoC.Tape) :=
  unp3 s fun list_3l0 n_4l0 c0_c0l0 =>
  letK (decide (0 < n_4l0)) fun (t_7 : Bool) =>
  iteK t_7
  (bind2 (Go.Proofs.Ythkaeighfjadlaa.GsL1CurMail.P c0_c0l0) fun (t_9 : Go.Proofs.Ythkaeighfjadlaa.PMail.Mail) (t_9_tp : Go.Proofs.Ythkaeighfjadlaa.GoC.Tape) =>
  unMail t_9 fun (t_9_leave : Int) (t_9_from_ : Int) (t_9_to_ : Int) (t_9_arrive : Int) =>
  Option.bind (Go.Proofs.Ythkaeighfjadlaa.GsL9One.P (Go.Proofs.Ythkaeighfjadlaa.PMail.Mail.mk t_9_leave t_9_from_ t_9_to_ t_9_arrive)) fun (t_13 : Bool) =>
  letK (!t_13) fun (t_14 : Bool) =>
  joinK (fun (st_19 : Bool × Go.Proofs.Ythkaeighfjadlaa.GoC.Tape) => unp2 st_19 fun t_19 t_19_tp =>
  q0 fuel nx0 list_3l0 n_4l0 t_9_leave t_9_from_ t_9_to_ t_9_arrive (t_19, t_19_tp)) fun jt_19 => iteK t_14 (bind2 (Go.Proofs.Ythkaeighfjadlaa.GsL1CurOne.P t_9_tp 30) fun (t_17 : Bool) (t_17_tp : Go.Proofs.Ythkaeighfjadlaa.GoC.Tape) =>
  letK (!t_17) fun (t_18 : Bool) =>
  appK jt_19 (t_18, t_17_tp)) (appK jt_19 (false, t_9_tp)))
  (appK bk0 (list_3l0, n_4l0, c0_c0l0))

def l2  (s : (List Go.Proofs.Ythkaeighfjadlaa.PMail.Mail) × Go.Proofs.Ythkaeighfjadlaa.GoC.Tape) (nx2 bk2 : (List Go.Proofs.Ythkaeighfjadlaa.PMail.Mail) × Go.Proofs.Ythkaeighfjadlaa.GoC.Tape → Option ((List Go.Proofs.Ythkaeighfjadlaa.PMail.Mail) × Go.Proofs.Ythkaeighfjadlaa.GoC.Tape)) : Option ((List Go.Proofs.Ythkaeighfjadlaa.PMail.Mail) × Go.Proofs.Ythkaeighfjadlaa.GoC.Tape) :=
  unp2 s fun list_3l2 c0_c0l2 =>
  bind2 (Go.Proofs.Ythkaeighfjadlaa.GsL1CurPick.P c0_c0l2 2) fun (t_81 : Int) (t_81_tp : Go.Proofs.Ythkaeighfjadlaa.GoC.Tape) =>
  letK (IntKind.i64.wrap (20 + t_81)) fun (t_82 : Int) =>
  letK (decide ((list_3l2.length : Int) < t_82)) fun (t_83 : Bool) =>
  iteK t_83
  (letK (IntKind.i64.wrap (100 + (list_3l2.length : Int))) fun (t_87 : Int) =>
  letK (Int.tmod (list_3l2.length : Int) 3) fun (t_90 : Int) =>
  guardK (list_3l2.length ≤ 1099511627776) <|
  letK (list_3l2 ++ [(Go.Proofs.Ythkaeighfjadlaa.PMail.Mail.mk t_87 t_90 3 200)]) fun (t_93 : (List Go.Proofs.Ythkaeighfjadlaa.PMail.Mail)) =>
  appK nx2 (t_93, t_81_tp))
  (appK bk2 (list_3l2, t_81_tp))

def e2  (s : (List Go.Proofs.Ythkaeighfjadlaa.PMail.Mail) × Go.Proofs.Ythkaeighfjadlaa.GoC.Tape) : Option ((List Go.Proofs.Ythkaeighfjadlaa.PMail.Mail) × Go.Proofs.Ythkaeighfjadlaa.GoC.Tape) :=
  unp2 s fun list_3l2 c0_c0l2 =>
  some (list_3l2, c0_c0l2)

def e0 (fuel : Nat) (s : (List Go.Proofs.Ythkaeighfjadlaa.PMail.Mail) × Int × Go.Proofs.Ythkaeighfjadlaa.GoC.Tape) : Option ((List Go.Proofs.Ythkaeighfjadlaa.PMail.Mail) × Go.Proofs.Ythkaeighfjadlaa.GoC.Tape) :=
  unp3 s fun list_3l0 n_4l0 c0_c0l0 =>
  bind2 (Go.Proofs.Ythkaeighfjadlaa.GsL1CurPick.P c0_c0l0 32) fun (t_67 : Int) (t_67_tp : Go.Proofs.Ythkaeighfjadlaa.GoC.Tape) =>
  letK (t_67 == 0) fun (t_68 : Bool) =>
  iteK t_68
  (bind2 (Go.Proofs.Ythkaeighfjadlaa.GsL1CurMail.P t_67_tp) fun (t_72 : Go.Proofs.Ythkaeighfjadlaa.PMail.Mail) (t_72_tp : Go.Proofs.Ythkaeighfjadlaa.GoC.Tape) =>
  unMail t_72 fun (t_72_leave : Int) (t_72_from_ : Int) (t_72_to_ : Int) (t_72_arrive : Int) =>
  guardK (list_3l0.length ≤ 1099511627776) <|
  letK (list_3l0 ++ [(Go.Proofs.Ythkaeighfjadlaa.PMail.Mail.mk t_72_leave t_72_from_ t_72_to_ t_72_arrive)]) fun (t_74 : (List Go.Proofs.Ythkaeighfjadlaa.PMail.Mail)) =>
  some (t_74, t_72_tp))
  (letK (t_67 == 1) fun (t_76 : Bool) =>
  iteK t_76
  (loopK (l2 ) fuel (list_3l0, t_67_tp) (e2 ))
  (some (list_3l0, t_67_tp)))

def P (fuel : Nat) (c : Go.Proofs.Ythkaeighfjadlaa.GoC.Tape) : Option ((List Go.Proofs.Ythkaeighfjadlaa.PMail.Mail) × Go.Proofs.Ythkaeighfjadlaa.GoC.Tape) :=
  bind2 (Go.Proofs.Ythkaeighfjadlaa.GsL1CurPick.P c 10) fun (t_4 : Int) (t_4_tp : Go.Proofs.Ythkaeighfjadlaa.GoC.Tape) =>
  loopK (l0 fuel) fuel (([] : List Go.Proofs.Ythkaeighfjadlaa.PMail.Mail), t_4, t_4_tp) (e0 fuel)

set_option maxRecDepth 100000
theorem eqr_93 (x0 x1 x2 x3 y0 y1 y2 y3 : Int) : ∀ W, (Op.equalIn 10000 93 (.agg #[Value.int IntKind.i64 x0, Value.int IntKind.i64 x1, Value.int IntKind.i64 x2, Value.int IntKind.i64 x3]) (.agg #[Value.int IntKind.i64 y0, Value.int IntKind.i64 y1, Value.int IntKind.i64 y2, Value.int IntKind.i64 y3])).run Try.prog W = .ok (x0 == y0 && x1 == y1 && x2 == y2 && x3 == y3) W := by
  intro W
  rw [run_equalIn_agg W _ _ _ _ (by kernel_rfl) (by kernel_rfl)]
  obtain ⟨f, hf⟩ : ∃ f, (Try.prog.fieldsOf 93).toList = f := ⟨_, rfl⟩
  have : (Try.prog.fieldsOf 93).toList.map (fun f => (f.name, f.type, f.offset)) = [("Leave", 3, 0), ("From", 3, 1), ("To", 3, 2), ("Arrive", 3, 3)] := by kernel_rfl
  rw [hf] at this ⊢
  match f, this with
  | [f0, f1, f2, f3], h =>
    simp only [List.map_cons, List.map_nil, List.cons.injEq, Prod.mk.injEq, and_true] at h
    obtain ⟨⟨a0, b0, d0⟩, ⟨a1, b1, d1⟩, ⟨a2, b2, d2⟩, a3, b3, d3⟩ := h
    simp only [Op.eqFields, a0, b0, d0, a1, b1, d1, a2, b2, d2, a3, b3, d3]
    have p0 : ∀ (w : World) (x0 x1 x2 x3 : Int), (part 3 #[Value.int IntKind.i64 x0, Value.int IntKind.i64 x1, Value.int IntKind.i64 x2, Value.int IntKind.i64 x3] 0).run Try.prog w = .ok (.int .i64 x0) w := fun w x0 x1 x2 x3 => run_part_plain w (by kernel_rfl) rfl
    have p1 : ∀ (w : World) (x0 x1 x2 x3 : Int), (part 3 #[Value.int IntKind.i64 x0, Value.int IntKind.i64 x1, Value.int IntKind.i64 x2, Value.int IntKind.i64 x3] 1).run Try.prog w = .ok (.int .i64 x1) w := fun w x0 x1 x2 x3 => run_part_plain w (by kernel_rfl) rfl
    have p2 : ∀ (w : World) (x0 x1 x2 x3 : Int), (part 3 #[Value.int IntKind.i64 x0, Value.int IntKind.i64 x1, Value.int IntKind.i64 x2, Value.int IntKind.i64 x3] 2).run Try.prog w = .ok (.int .i64 x2) w := fun w x0 x1 x2 x3 => run_part_plain w (by kernel_rfl) rfl
    have p3 : ∀ (w : World) (x0 x1 x2 x3 : Int), (part 3 #[Value.int IntKind.i64 x0, Value.int IntKind.i64 x1, Value.int IntKind.i64 x2, Value.int IntKind.i64 x3] 3).run Try.prog w = .ok (.int .i64 x3) w := fun w x0 x1 x2 x3 => run_part_plain w (by kernel_rfl) rfl
    have e0 : ∀ (w : World) (d : Nat) (x y : Int), (Op.equalIn (d + 1) 3 (.int .i64 x) (.int .i64 y)).run Try.prog w = .ok (x == y) w := fun w d x y => run_equalIn_int w d 3 .i64 .i64 x y Try.underlying3
    have e1 : ∀ (w : World) (x y : Int), (Op.equalIn 9999 3 (.int .i64 x) (.int .i64 y)).run Try.prog w = .ok (x == y) w := fun w x y => e0 w 9998 x y
    rw [if_pos (by decide)]; rw [if_pos (by decide)]; rw [if_pos (by decide)]; rw [if_pos (by decide)]
    simp only [Sem.run_bind, p0, p1, p2, p3, e1, Result.andThen_ok, Sem.run_ite, Sem.run_pure]
    cases x0 == y0 <;> cases x1 == y1 <;> cases x2 == y2 <;> cases x3 == y3 <;> rfl
theorem eqla_93 (x0 x1 x2 x3 y0 y1 y2 y3 : Int) : ∀ W, (binOp .eql 93 (.agg #[Value.int IntKind.i64 x0, Value.int IntKind.i64 x1, Value.int IntKind.i64 x2, Value.int IntKind.i64 x3]) (.agg #[Value.int IntKind.i64 y0, Value.int IntKind.i64 y1, Value.int IntKind.i64 y2, Value.int IntKind.i64 y3])).run Try.prog W = .ok (.bool (x0 == y0 && x1 == y1 && x2 == y2 && x3 == y3)) W := by
  intro W
  rw [run_eql_struct, eqr_93]; rfl
theorem neqa_93 (x0 x1 x2 x3 y0 y1 y2 y3 : Int) : ∀ W, (binOp .neq 93 (.agg #[Value.int IntKind.i64 x0, Value.int IntKind.i64 x1, Value.int IntKind.i64 x2, Value.int IntKind.i64 x3]) (.agg #[Value.int IntKind.i64 y0, Value.int IntKind.i64 y1, Value.int IntKind.i64 y2, Value.int IntKind.i64 y3])).run Try.prog W = .ok (.bool (!(x0 == y0 && x1 == y1 && x2 == y2 && x3 == y3))) W := by
  intro W
  rw [run_neq_struct, eqr_93]; rfl

set_option maxRecDepth 100000 in
set_option maxHeartbeats 20000000 in
theorem C (fuel : Nat) (c : Go.Proofs.Ythkaeighfjadlaa.GoC.Tape)   (g0 : Nat) (Ac0 : Option Addr) (cc0 : Nat) (bc0 : Nat) (w : World)   (K0 : Hid (Go.Proofs.Ythkaeighfjadlaa.GoC.CurIs w bc0 g0 Ac0 cc0 c)) {r : (List Go.Proofs.Ythkaeighfjadlaa.PMail.Mail)} {t_ : Go.Proofs.Ythkaeighfjadlaa.GoC.Tape} (H : Hid (P fuel c = some (r, t_))) :
    Calls Try.prog 74 #[.pointer (some ⟨g0, 0, none⟩)] w (fun e w' => ∃ A_r c_r, e = .returned (.slice A_r r.length c_r) ∧ w'.ownsRow w.heap.size 93 4 (.slice A_r r.length c_r) r.length (Go.Proofs.Ythkaeighfjadlaa.PMail.flat r) ∧ Go.Proofs.Ythkaeighfjadlaa.GoC.CurIs w' bc0 g0 Ac0 cc0 t_ ∧ w.grownBy w' (Value.slice (some ⟨g0, 0, none⟩) 1 1).ownBlock) := by
  have HB := Lib.hid (Aid.grown_refl w (Value.slice (some ⟨g0, 0, none⟩) 1 1).ownBlock)
  unfold P at H
  have L0 : bc0 ≤ w.heap.size := by have := Go.Proofs.Ythkaeighfjadlaa.GoC.cur_lt K0.out; omega
  obtain ⟨i0_93, hi_93, hz0_93, hz1_93, hz2_93⟩ := Aid.info_parts (P := Try.prog) (T := 93) (z := .agg #[.int .i64 0, .int .i64 0, .int .i64 0, .int .i64 0]) (s := 4) (b := 32) (by kernel_rfl)
  go_enter Try.func74, Try.ntmps74
  obtain ⟨w_t_1, hw_t_1⟩ : ∃ x, w.alloc (.cells #[] 93) = x := ⟨_, rfl⟩
  have bw_t_1 : Below w.heap.size w w_t_1 := by rw [← hw_t_1]; exact (Below.refl _ _).alloc (Nat.le_refl _) _
  have Ot_1 : Hid (w_t_1.ownsRow w.heap.size 93 4 (.slice (some ⟨w.heap.size, 0, none⟩) 0 0) 0 []) := Lib.hid (by rw [← hw_t_1]; exact own_empty HB.out.size)
  have Dt_1_c0 := Lib.hid (Go.Proofs.Ythkaeighfjadlaa.GoC.apart_cur K0.out)
  have HBw_t_1 := Lib.hid (grown_below HB.out bw_t_1)
  replace K0 := Lib.hid (Go.Proofs.Ythkaeighfjadlaa.GoC.cur_below K0.out bw_t_1)
  clear bw_t_1
  replace H := bind2_hid H
  obtain ⟨t_4, t_4_tp, qt_4, H⟩ := H
  go_wp2_with fail
  go_at_call 122
  refine (Go.Proofs.Ythkaeighfjadlaa.GsL1CurPick.C (c) (10) (g0) (Ac0) (cc0) (bc0) _   K0 qt_4).mono ?_
  rintro e_t_4 wt_4 ⟨rfl, kt_4, gt_4⟩
  have Kt_4 := Lib.hid kt_4
  have Gt_4 : Hid (w_t_1.grownBy wt_4 (Value.slice (some ⟨g0, 0, none⟩) 1 1).ownBlock) := Lib.hid gt_4
  clear kt_4 gt_4
  have HBwt_4 := Lib.hid (Aid.grown_tr HBw_t_1.out Gt_4.out)
  replace Ot_1 := Lib.hid (own_other Ot_1.out Gt_4.out (Apart.symm Dt_1_c0.out))
  clear K0 Gt_4
  go_wp2_with fail
  go_loopg [3, 4] (fuel) (fun m_ v3_ v4_ wr => ∃ (list_3l0 : (List Go.Proofs.Ythkaeighfjadlaa.PMail.Mail)) (n_4l0 : Int) (c0_c0l0 : Go.Proofs.Ythkaeighfjadlaa.GoC.Tape) (Alist_3l0 : Option Addr) (clist_3l0 : Nat), v3_ = .slice Alist_3l0 list_3l0.length clist_3l0 ∧ v4_ = .int .i64 n_4l0 ∧ Hid (loopK (l0 fuel) m_ (list_3l0, n_4l0, c0_c0l0) (e0 fuel) = some (r, t_)) ∧ Hid (w.grownBy wr (Value.slice (some ⟨g0, 0, none⟩) 1 1).ownBlock) ∧ Hid (wr.ownsRow w.heap.size 93 4 (.slice Alist_3l0 list_3l0.length clist_3l0) list_3l0.length (Go.Proofs.Ythkaeighfjadlaa.PMail.flat list_3l0)) ∧ Hid (Apart Alist_3l0 (some ⟨g0, 0, none⟩)) ∧ Hid (Go.Proofs.Ythkaeighfjadlaa.GoC.CurIs wr bc0 g0 Ac0 cc0 c0_c0l0))
  case atStart => exact ⟨_, _, _, _, _, rfl, rfl, H, HBwt_4, Ot_1, Lib.hid Dt_1_c0.out, Kt_4⟩
  case round =>
    obtain ⟨list_3l0, n_4l0, c0_c0l0, Alist_3l0, clist_3l0, rfl, rfl, H, HBwr0, Olist_3l0, Dlist_3l0_c0, Kl0_0⟩ := hrel
    rename World => wr0
    cases gk with
    | zero => exact (loop_zero H).elim
    | succ m0 =>
      replace H := loop_succ H
      unfold l0 at H
      replace H := unp3_hid H
      replace H := let_hid H
      obtain ⟨t_7, ht_7, H⟩ := H
      cases t_7 with
      | false =>
        replace H := ite_f H
        replace H := app_hid H
        unfold e0 at H
        replace H := unp3_hid H
        replace H := bind2_hid H
        obtain ⟨t_67, t_67_tp, qt_67, H⟩ := H
        go_wp2_with fail
        go_at_call 122
        refine (Go.Proofs.Ythkaeighfjadlaa.GsL1CurPick.C (c0_c0l0) (32) (g0) (Ac0) (cc0) (bc0) _   Kl0_0 qt_67).mono ?_
        rintro e_t_67 wt_67 ⟨rfl, kt_67, gt_67⟩
        have Kt_67 := Lib.hid kt_67
        have Gt_67 : Hid (wr0.grownBy wt_67 (Value.slice (some ⟨g0, 0, none⟩) 1 1).ownBlock) := Lib.hid gt_67
        clear kt_67 gt_67
        have HBwt_67 := Lib.hid (Aid.grown_tr HBwr0.out Gt_67.out)
        replace Olist_3l0 := Lib.hid (own_other Olist_3l0.out Gt_67.out (Apart.symm Dlist_3l0_c0.out))
        clear Kl0_0 Gt_67
        replace H := let_hid H
        obtain ⟨t_68, ht_68, H⟩ := H
        cases t_68 with
        | false =>
          replace H := ite_f H
          replace H := let_hid H
          obtain ⟨t_76, ht_76, H⟩ := H
          cases t_76 with
          | false =>
            replace H := ite_f H
            cases ret_hid H
            go_wp2_with fail
            go_ret
            exact ⟨Alist_3l0, clist_3l0, rfl, Olist_3l0.out, Kt_67.out, HBwt_67.out⟩
          | true =>
            replace H := ite_t H
            go_wp2_with fail
            go_loopg [3] (fuel) (fun m_ v3_ wr => ∃ (list_3l2 : (List Go.Proofs.Ythkaeighfjadlaa.PMail.Mail)) (c0_c0l2 : Go.Proofs.Ythkaeighfjadlaa.GoC.Tape) (Alist_3l2 : Option Addr) (clist_3l2 : Nat), v3_ = .slice Alist_3l2 list_3l2.length clist_3l2 ∧ Hid (loopK (l2 ) m_ (list_3l2, c0_c0l2) (e2 ) = some (r, t_)) ∧ Hid (w.grownBy wr (Value.slice (some ⟨g0, 0, none⟩) 1 1).ownBlock) ∧ Hid (wr.ownsRow w.heap.size 93 4 (.slice Alist_3l2 list_3l2.length clist_3l2) list_3l2.length (Go.Proofs.Ythkaeighfjadlaa.PMail.flat list_3l2)) ∧ Hid (Apart Alist_3l2 (some ⟨g0, 0, none⟩)) ∧ Hid (Go.Proofs.Ythkaeighfjadlaa.GoC.CurIs wr bc0 g0 Ac0 cc0 c0_c0l2))
            case atStart => exact ⟨_, _, _, _, rfl, H, HBwt_67, Olist_3l0, Lib.hid Dlist_3l0_c0.out, Kt_67⟩
            case round =>
              obtain ⟨list_3l2, c0_c0l2, Alist_3l2, clist_3l2, rfl, H, HBwr2, Olist_3l2, Dlist_3l2_c0, Kl2_0⟩ := hrel
              rename World => wr2
              cases gk with
              | zero => exact (loop_zero H).elim
              | succ m2 =>
                replace H := loop_succ H
                unfold l2 at H
                replace H := unp2_hid H
                replace H := bind2_hid H
                obtain ⟨t_81, t_81_tp, qt_81, H⟩ := H
                go_wp2_with fail
                go_at_call 122
                refine (Go.Proofs.Ythkaeighfjadlaa.GsL1CurPick.C (c0_c0l2) (2) (g0) (Ac0) (cc0) (bc0) _   Kl2_0 qt_81).mono ?_
                rintro e_t_81 wt_81 ⟨rfl, kt_81, gt_81⟩
                have Kt_81 := Lib.hid kt_81
                have Gt_81 : Hid (wr2.grownBy wt_81 (Value.slice (some ⟨g0, 0, none⟩) 1 1).ownBlock) := Lib.hid gt_81
                clear kt_81 gt_81
                have HBwt_81 := Lib.hid (Aid.grown_tr HBwr2.out Gt_81.out)
                replace Olist_3l2 := Lib.hid (own_other Olist_3l2.out Gt_81.out (Apart.symm Dlist_3l2_c0.out))
                clear Kl2_0 Gt_81
                replace H := let_hid H
                obtain ⟨t_82, ht_82, H⟩ := H
                replace H := let_hid H
                obtain ⟨t_83, ht_83, H⟩ := H
                cases t_83 with
                | false =>
                  replace H := ite_f H
                  replace H := app_hid H
                  unfold e2 at H
                  replace H := unp2_hid H
                  cases ret_hid H
                  go_wp2_with fail
                  go_ret
                  exact ⟨Alist_3l2, clist_3l2, rfl, Olist_3l2.out, Kt_81.out, HBwt_81.out⟩
                | true =>
                  replace H := ite_t H
                  replace H := let_hid H
                  obtain ⟨t_87, ht_87, H⟩ := H
                  replace H := let_hid H
                  obtain ⟨t_90, ht_90, H⟩ := H
                  obtain ⟨w_t_92, hw_t_92⟩ : ∃ x, wt_81.alloc (.cells #[.int .i64 t_87, .int .i64 t_90, .int .i64 3, .int .i64 200] 93) = x := ⟨_, rfl⟩
                  have bw_t_92 : Below wt_81.heap.size wt_81 w_t_92 := by rw [← hw_t_92]; exact (Below.refl _ _).alloc (Nat.le_refl _) _
                  have HBw_t_92 := Lib.hid (grown_below HBwt_81.out bw_t_92)
                  replace Olist_3l2 := Lib.hid (own_below Olist_3l2.out bw_t_92)
                  replace Kt_81 := Lib.hid (Go.Proofs.Ythkaeighfjadlaa.GoC.cur_below Kt_81.out bw_t_92)
                  clear bw_t_92
                  replace H := guard_hid H
                  obtain ⟨hlt_93, H⟩ := H
                  replace H := let_hid H
                  obtain ⟨t_93, ht_93, H⟩ := H
                  have hht_93 := Lib.hid ht_93
                  clear ht_93
                  have hst_93 := HBw_t_92.out.size
                  go_wp2_with (at_builtin; refine wpList_append_own_at _ rfl _ _ 24 rfl w.heap.size 93 i0_93 (.agg #[.int .i64 0, .int .i64 0, .int .i64 0, .int .i64 0]) 4 32 Try.underlying24 hi_93 hz0_93 hz1_93 hz2_93 rfl (by decide) _ _ _ rfl Olist_3l2.out ⟨wt_81.heap.size, 0, none⟩ 1 1 [.int .i64 t_87, .int .i64 t_90, .int .i64 3, .int .i64 200] rfl rfl (news_new hw_t_92) (one_cells rfl) (by unfold maxLen; omega) (by omega) hst_93 ?_; intro vt_93 wt_93 ot_93 gt_93 zt_93 yt_93; clear zt_93; obtain ⟨qt_93, ct_93, rfl, pt_93⟩ := own_push hht_93.out (Go.Proofs.Ythkaeighfjadlaa.PMail.flat_snoc _ _) rfl ot_93; have Pt_93 := Lib.hid pt_93; have Yt_93 := Lib.hid yt_93; have Gt_93 := Lib.hid gt_93; clear ot_93 gt_93 pt_93 yt_93; refine stop_in ?_)
                  refine stop_out ?_
                  have HBwt_93 := Lib.hid (Go.Proofs.Ythkaeighfjadlaa.GoC.grown_new HBw_t_92.out Gt_93.out (Go.Proofs.Ythkaeighfjadlaa.GoC.own_ge Olist_3l2.out))
                  clear hst_93
                  have Dt_93_c0 : Hid (Apart (some ⟨qt_93, 0, none⟩) _) := Lib.hid (apart_app Dlist_3l2_c0.out (fun a_ ha_ => by cases ha_; exact (Go.Proofs.Ythkaeighfjadlaa.GoC.cur_lt Kt_81.out).2) Yt_93.out)
                  replace Kt_81 := Lib.hid (Go.Proofs.Ythkaeighfjadlaa.GoC.cur_otherO Kt_81.out Gt_93.out Dlist_3l2_c0.out L0 Olist_3l2.out)
                  clear Olist_3l2 Yt_93 Gt_93
                  replace H := app_hid H
                  go_wp2_with fail
                  go_roundg m2
                  case measure => omega
                  case rel => exact ⟨_, _, _, _, rfl, H, HBwt_93, Pt_93, Lib.hid Dt_93_c0.out, Kt_81⟩
        | true =>
          replace H := ite_t H
          replace H := bind2_hid H
          obtain ⟨t_72, t_72_tp, qt_72, H⟩ := H
          obtain ⟨t_72_leave, t_72_from_, t_72_to_, t_72_arrive⟩ := t_72
          replace H := unMail_hid H
          go_wp2_with fail
          go_at_call 123
          refine (Go.Proofs.Ythkaeighfjadlaa.GsL1CurMail.C (t_67_tp) (g0) (Ac0) (cc0) (bc0) _   Kt_67 qt_72).mono ?_
          rintro e_t_72 wt_72 ⟨rfl, kt_72, gt_72⟩
          unfold Go.Proofs.Ythkaeighfjadlaa.PMail.Mail.val
          have Kt_72 := Lib.hid kt_72
          have Gt_72 : Hid (wt_67.grownBy wt_72 (Value.slice (some ⟨g0, 0, none⟩) 1 1).ownBlock) := Lib.hid gt_72
          clear kt_72 gt_72
          have HBwt_72 := Lib.hid (Aid.grown_tr HBwt_67.out Gt_72.out)
          replace Olist_3l0 := Lib.hid (own_other Olist_3l0.out Gt_72.out (Apart.symm Dlist_3l0_c0.out))
          clear Kt_67 Gt_72
          obtain ⟨w_t_73, hw_t_73⟩ : ∃ x, wt_72.alloc (.cells #[.int .i64 t_72_leave, .int .i64 t_72_from_, .int .i64 t_72_to_, .int .i64 t_72_arrive] 93) = x := ⟨_, rfl⟩
          have bw_t_73 : Below wt_72.heap.size wt_72 w_t_73 := by rw [← hw_t_73]; exact (Below.refl _ _).alloc (Nat.le_refl _) _
          have HBw_t_73 := Lib.hid (grown_below HBwt_72.out bw_t_73)
          replace Olist_3l0 := Lib.hid (own_below Olist_3l0.out bw_t_73)
          replace Kt_72 := Lib.hid (Go.Proofs.Ythkaeighfjadlaa.GoC.cur_below Kt_72.out bw_t_73)
          clear bw_t_73
          replace H := guard_hid H
          obtain ⟨hlt_74, H⟩ := H
          replace H := let_hid H
          obtain ⟨t_74, ht_74, H⟩ := H
          have hht_74 := Lib.hid ht_74
          clear ht_74
          have hst_74 := HBw_t_73.out.size
          go_wp2_with (at_builtin; refine wpList_append_own_at _ rfl _ _ 24 rfl w.heap.size 93 i0_93 (.agg #[.int .i64 0, .int .i64 0, .int .i64 0, .int .i64 0]) 4 32 Try.underlying24 hi_93 hz0_93 hz1_93 hz2_93 rfl (by decide) _ _ _ rfl Olist_3l0.out ⟨wt_72.heap.size, 0, none⟩ 1 1 [.int .i64 t_72_leave, .int .i64 t_72_from_, .int .i64 t_72_to_, .int .i64 t_72_arrive] rfl rfl (news_new hw_t_73) (one_cells rfl) (by unfold maxLen; omega) (by omega) hst_74 ?_; intro vt_74 wt_74 ot_74 gt_74 zt_74 yt_74; clear zt_74; obtain ⟨qt_74, ct_74, rfl, pt_74⟩ := own_push hht_74.out (Go.Proofs.Ythkaeighfjadlaa.PMail.flat_snoc _ _) rfl ot_74; have Pt_74 := Lib.hid pt_74; have Yt_74 := Lib.hid yt_74; have Gt_74 := Lib.hid gt_74; clear ot_74 gt_74 pt_74 yt_74; refine stop_in ?_)
          refine stop_out ?_
          have HBwt_74 := Lib.hid (Go.Proofs.Ythkaeighfjadlaa.GoC.grown_new HBw_t_73.out Gt_74.out (Go.Proofs.Ythkaeighfjadlaa.GoC.own_ge Olist_3l0.out))
          clear hst_74
          have Dt_74_c0 : Hid (Apart (some ⟨qt_74, 0, none⟩) _) := Lib.hid (apart_app Dlist_3l0_c0.out (fun a_ ha_ => by cases ha_; exact (Go.Proofs.Ythkaeighfjadlaa.GoC.cur_lt Kt_72.out).2) Yt_74.out)
          replace Kt_72 := Lib.hid (Go.Proofs.Ythkaeighfjadlaa.GoC.cur_otherO Kt_72.out Gt_74.out Dlist_3l0_c0.out L0 Olist_3l0.out)
          clear Olist_3l0 Yt_74 Gt_74
          cases ret_hid H
          go_wp2_with fail
          go_ret
          exact ⟨(some ⟨qt_74, 0, none⟩), ct_74, rfl, Pt_74.out, Kt_72.out, HBwt_74.out⟩
      | true =>
        replace H := ite_t H
        replace H := bind2_hid H
        obtain ⟨t_9, t_9_tp, qt_9, H⟩ := H
        obtain ⟨t_9_leave, t_9_from_, t_9_to_, t_9_arrive⟩ := t_9
        replace H := unMail_hid H
        go_wp2_with fail
        go_at_call 123
        refine (Go.Proofs.Ythkaeighfjadlaa.GsL1CurMail.C (c0_c0l0) (g0) (Ac0) (cc0) (bc0) _   Kl0_0 qt_9).mono ?_
        rintro e_t_9 wt_9 ⟨rfl, kt_9, gt_9⟩
        unfold Go.Proofs.Ythkaeighfjadlaa.PMail.Mail.val
        have Kt_9 := Lib.hid kt_9
        have Gt_9 : Hid (wr0.grownBy wt_9 (Value.slice (some ⟨g0, 0, none⟩) 1 1).ownBlock) := Lib.hid gt_9
        clear kt_9 gt_9
        have HBwt_9 := Lib.hid (Aid.grown_tr HBwr0.out Gt_9.out)
        replace Olist_3l0 := Lib.hid (own_other Olist_3l0.out Gt_9.out (Apart.symm Dlist_3l0_c0.out))
        clear Kl0_0 Gt_9
        obtain ⟨w_x_10, hw_x_10⟩ : ∃ x, wt_9.alloc (.cells #[.int .i64 t_9_leave, .int .i64 t_9_from_, .int .i64 t_9_to_, .int .i64 t_9_arrive] 93) = x := ⟨_, rfl⟩
        have bw_x_10 : Below wt_9.heap.size wt_9 w_x_10 := by rw [← hw_x_10]; exact (Below.refl _ _).alloc (Nat.le_refl _) _
        have Dx_10_list_3l0 := Lib.hid (apart_fresh Olist_3l0.out)
        have Dx_10_c0 := Lib.hid (Go.Proofs.Ythkaeighfjadlaa.GoC.apart_cur Kt_9.out)
        have HBw_x_10 := Lib.hid (grown_below HBwt_9.out bw_x_10)
        replace Olist_3l0 := Lib.hid (own_below Olist_3l0.out bw_x_10)
        replace Kt_9 := Lib.hid (Go.Proofs.Ythkaeighfjadlaa.GoC.cur_below Kt_9.out bw_x_10)
        clear bw_x_10
        have kx_10_0 : w_x_10.cell? ⟨wt_9.heap.size, 0, none⟩ = some (.int .i64 t_9_leave) := by rw [← hw_x_10]; exact box_new _ _ _ 0 _ rfl
        have kx_10_1 : w_x_10.cell? ⟨wt_9.heap.size, 1, none⟩ = some (.int .i64 t_9_from_) := by rw [← hw_x_10]; exact box_new _ _ _ 1 _ rfl
        have kx_10_2 : w_x_10.cell? ⟨wt_9.heap.size, 2, none⟩ = some (.int .i64 t_9_to_) := by rw [← hw_x_10]; exact box_new _ _ _ 2 _ rfl
        have kx_10_3 : w_x_10.cell? ⟨wt_9.heap.size, 3, none⟩ = some (.int .i64 t_9_arrive) := by rw [← hw_x_10]; exact box_new _ _ _ 3 _ rfl
        go_upto_region 6 with fail
        go_cut [23] (fun v23_ wr => ∃ (t_23q0 : Bool) (c0_c0q0 : Go.Proofs.Ythkaeighfjadlaa.GoC.Tape), v23_ = .bool t_23q0 ∧ Hid (q0 fuel (fun s' => loopK (l0 fuel) m0 s' (e0 fuel)) list_3l0 n_4l0 t_9_leave t_9_from_ t_9_to_ t_9_arrive (t_23q0, c0_c0q0) = some (r, t_)) ∧ Hid (w.grownBy wr (Value.slice (some ⟨g0, 0, none⟩) 1 1).ownBlock) ∧ wr.cell? ⟨wt_9.heap.size, 0, none⟩ = some (.int .i64 t_9_leave) ∧ wr.cell? ⟨wt_9.heap.size, 1, none⟩ = some (.int .i64 t_9_from_) ∧ wr.cell? ⟨wt_9.heap.size, 2, none⟩ = some (.int .i64 t_9_to_) ∧ wr.cell? ⟨wt_9.heap.size, 3, none⟩ = some (.int .i64 t_9_arrive) ∧ Hid (wr.ownsRow w.heap.size 93 4 (.slice Alist_3l0 list_3l0.length clist_3l0) list_3l0.length (Go.Proofs.Ythkaeighfjadlaa.PMail.flat list_3l0)) ∧ Hid (Go.Proofs.Ythkaeighfjadlaa.GoC.CurIs wr bc0 g0 Ac0 cc0 c0_c0q0))
        case first =>
          replace H := bind_hid H
          obtain ⟨t_13, qt_13, H⟩ := H
          go_wp2_with fail
          go_at_call 119
          refine (Go.Proofs.Ythkaeighfjadlaa.GsL9One.C ((Go.Proofs.Ythkaeighfjadlaa.PMail.Mail.mk t_9_leave t_9_from_ t_9_to_ t_9_arrive))  _    qt_13).mono ?_
          rintro e_t_13 wt_13 ⟨rfl, bt_13⟩
          have HBwt_13 := Lib.hid (grown_below HBw_x_10.out bt_13)
          replace kx_10_0 := cell_below bt_13 kx_10_0
          replace kx_10_1 := cell_below bt_13 kx_10_1
          replace kx_10_2 := cell_below bt_13 kx_10_2
          replace kx_10_3 := cell_below bt_13 kx_10_3
          replace Olist_3l0 := Lib.hid (own_below Olist_3l0.out bt_13)
          replace Kt_9 := Lib.hid (Go.Proofs.Ythkaeighfjadlaa.GoC.cur_below Kt_9.out bt_13)
          clear bt_13
          cases t_13 with
          | false =>
            replace H := let_hid H
            obtain ⟨t_14, ht_14, H⟩ := H
            obtain rfl : t_14 = true := ht_14.symm
            replace H := join_hid H
            replace H := ite_t H
            replace H := bind2_hid H
            obtain ⟨t_17, t_17_tp, qt_17, H⟩ := H
            go_wp2_with fail
            go_at_call 124
            refine (Go.Proofs.Ythkaeighfjadlaa.GsL1CurOne.C (t_9_tp) (30) (g0) (Ac0) (cc0) (bc0) _   Kt_9 qt_17).mono ?_
            rintro e_t_17 wt_17 ⟨rfl, kt_17, gt_17⟩
            have Kt_17 := Lib.hid kt_17
            have Gt_17 : Hid (wt_13.grownBy wt_17 (Value.slice (some ⟨g0, 0, none⟩) 1 1).ownBlock) := Lib.hid gt_17
            clear kt_17 gt_17
            have HBwt_17 := Lib.hid (Aid.grown_tr HBwt_13.out Gt_17.out)
            replace kx_10_0 := cell_other kx_10_0 Gt_17.out (Apart.symm Dx_10_c0.out)
            replace kx_10_1 := cell_other kx_10_1 Gt_17.out (Apart.symm Dx_10_c0.out)
            replace kx_10_2 := cell_other kx_10_2 Gt_17.out (Apart.symm Dx_10_c0.out)
            replace kx_10_3 := cell_other kx_10_3 Gt_17.out (Apart.symm Dx_10_c0.out)
            replace Olist_3l0 := Lib.hid (own_other Olist_3l0.out Gt_17.out (Apart.symm Dlist_3l0_c0.out))
            clear Kt_9 Gt_17
            cases t_17 with
            | false =>
              replace H := let_hid H
              obtain ⟨t_18, ht_18, H⟩ := H
              obtain rfl : t_18 = true := ht_18.symm
              replace H := app_hid H
              replace H := unp2_hid H
              go_wp2_with fail
              go_meet
              case rel => exact ⟨_, _, rfl, H, HBwt_17, kx_10_0, kx_10_1, kx_10_2, kx_10_3, Olist_3l0, Kt_17⟩
            | true =>
              replace H := let_hid H
              obtain ⟨t_18, ht_18, H⟩ := H
              obtain rfl : t_18 = false := ht_18.symm
              replace H := app_hid H
              replace H := unp2_hid H
              go_wp2_with fail
              go_meet
              case rel => exact ⟨_, _, rfl, H, HBwt_17, kx_10_0, kx_10_1, kx_10_2, kx_10_3, Olist_3l0, Kt_17⟩
          | true =>
            replace H := let_hid H
            obtain ⟨t_14, ht_14, H⟩ := H
            obtain rfl : t_14 = false := ht_14.symm
            replace H := join_hid H
            replace H := ite_f H
            replace H := app_hid H
            replace H := unp2_hid H
            go_wp2_with fail
            go_meet
            case rel => exact ⟨_, _, rfl, H, HBwt_13, kx_10_0, kx_10_1, kx_10_2, kx_10_3, Olist_3l0, Kt_9⟩
        case rest =>
          obtain ⟨t_23q0, c0_c0q0, rfl, H, HBwq0, kx_10_0, kx_10_1, kx_10_2, kx_10_3, Olist_3l0, Kq0_0⟩ := hcut
          rename World => wq0
          unfold q0 at H
          replace H := unp2_hid H
          cases t_23q0 with
          | false =>
            replace H := ite_f H
            go_wp2_with fail
            go_loopg [6] (fuel) (fun m_ v6_ wr => ∃ (k_6l1 : Int), v6_ = .int .i64 k_6l1 ∧ Hid (loopK (l1 list_3l0 t_9_leave t_9_from_ t_9_to_ t_9_arrive) m_ (k_6l1) (e1 (fun s' => loopK (l0 fuel) m0 s' (e0 fuel)) list_3l0 n_4l0 t_9_leave t_9_from_ t_9_to_ t_9_arrive c0_c0q0) = some (r, t_)) ∧ Hid (w.grownBy wr (Value.slice (some ⟨g0, 0, none⟩) 1 1).ownBlock) ∧ wr.cell? ⟨wt_9.heap.size, 0, none⟩ = some (.int .i64 t_9_leave) ∧ wr.cell? ⟨wt_9.heap.size, 1, none⟩ = some (.int .i64 t_9_from_) ∧ wr.cell? ⟨wt_9.heap.size, 2, none⟩ = some (.int .i64 t_9_to_) ∧ wr.cell? ⟨wt_9.heap.size, 3, none⟩ = some (.int .i64 t_9_arrive) ∧ Hid (wr.ownsRow w.heap.size 93 4 (.slice Alist_3l0 list_3l0.length clist_3l0) list_3l0.length (Go.Proofs.Ythkaeighfjadlaa.PMail.flat list_3l0)) ∧ Hid (Go.Proofs.Ythkaeighfjadlaa.GoC.CurIs wr bc0 g0 Ac0 cc0 c0_c0q0))
            case atStart => exact ⟨_, rfl, H, HBwq0, kx_10_0, kx_10_1, kx_10_2, kx_10_3, Olist_3l0, Kq0_0⟩
            case round =>
              obtain ⟨k_6l1, rfl, H, HBwr1, kx_10_0, kx_10_1, kx_10_2, kx_10_3, Olist_3l0, Kl1_0⟩ := hrel
              rename World => wr1
              cases gk with
              | zero => exact (loop_zero H).elim
              | succ m1 =>
                replace H := loop_succ H
                unfold l1 at H
                replace H := let_hid H
                obtain ⟨_, rfl, H⟩ := H
                go_upto_region 8 with fail
                go_cut [38] (fun v38_ wr => ∃ (t_38q1 : Bool), v38_ = .bool t_38q1 ∧ Hid (q1 (fun s' => loopK (l1 list_3l0 t_9_leave t_9_from_ t_9_to_ t_9_arrive) m1 s' (e1 (fun s' => loopK (l0 fuel) m0 s' (e0 fuel)) list_3l0 n_4l0 t_9_leave t_9_from_ t_9_to_ t_9_arrive c0_c0q0)) (e1 (fun s' => loopK (l0 fuel) m0 s' (e0 fuel)) list_3l0 n_4l0 t_9_leave t_9_from_ t_9_to_ t_9_arrive c0_c0q0) k_6l1 (t_38q1) = some (r, t_)) ∧ Hid (w.grownBy wr (Value.slice (some ⟨g0, 0, none⟩) 1 1).ownBlock) ∧ wr.cell? ⟨wt_9.heap.size, 0, none⟩ = some (.int .i64 t_9_leave) ∧ wr.cell? ⟨wt_9.heap.size, 1, none⟩ = some (.int .i64 t_9_from_) ∧ wr.cell? ⟨wt_9.heap.size, 2, none⟩ = some (.int .i64 t_9_to_) ∧ wr.cell? ⟨wt_9.heap.size, 3, none⟩ = some (.int .i64 t_9_arrive) ∧ Hid (wr.ownsRow w.heap.size 93 4 (.slice Alist_3l0 list_3l0.length clist_3l0) list_3l0.length (Go.Proofs.Ythkaeighfjadlaa.PMail.flat list_3l0)) ∧ Hid (Go.Proofs.Ythkaeighfjadlaa.GoC.CurIs wr bc0 g0 Ac0 cc0 c0_c0q0))
                case first =>
                  go_wp2_with fail
                  have Hkx_10_0 := Lib.hid kx_10_0
                  replace kx_10_0 := cell_regrown kx_10_0
                  have Hkx_10_1 := Lib.hid kx_10_1
                  replace kx_10_1 := cell_regrown kx_10_1
                  have Hkx_10_2 := Lib.hid kx_10_2
                  replace kx_10_2 := cell_regrown kx_10_2
                  have Hkx_10_3 := Lib.hid kx_10_3
                  replace kx_10_3 := cell_regrown kx_10_3
                  replace H := let_hid H
                  obtain ⟨t_24, ht_24, H⟩ := H
                  replace H := join_hid H
                  cases t_24 with
                  | false =>
                    replace H := ite_f H
                    replace H := app_hid H
                    refine wp_region_quiet_below (by kernel_rfl) (by kernel_rfl) ?_
                    repeat (go_big_quiet_step (fail))
                    refine wpQuiet_nil ?_
                    intro Y8 hY8
                    replace hY8 := below_class hY8
                    replace kx_10_0 := Hkx_10_0.out
                    clear Hkx_10_0
                    replace kx_10_1 := Hkx_10_1.out
                    clear Hkx_10_1
                    replace kx_10_2 := Hkx_10_2.out
                    clear Hkx_10_2
                    replace kx_10_3 := Hkx_10_3.out
                    clear Hkx_10_3
                    have HBY8 := Lib.hid (grown_below HBwr1.out hY8)
                    replace kx_10_0 := cell_below hY8 kx_10_0
                    replace kx_10_1 := cell_below hY8 kx_10_1
                    replace kx_10_2 := cell_below hY8 kx_10_2
                    replace kx_10_3 := cell_below hY8 kx_10_3
                    replace Olist_3l0 := Lib.hid (own_below Olist_3l0.out hY8)
                    replace Kl1_0 := Lib.hid (Go.Proofs.Ythkaeighfjadlaa.GoC.cur_below Kl1_0.out hY8)
                    clear hY8
                    go_wp2_with fail
                    go_meet
                    case rel => exact ⟨_, rfl, H, HBY8, kx_10_0, kx_10_1, kx_10_2, kx_10_3, Olist_3l0, Kl1_0⟩
                  | true =>
                    replace H := ite_t H
                    replace H := let_hid H
                    obtain ⟨t_28, ht_28, H⟩ := H
                    replace H := idx_hid H
                    obtain ⟨nt_29, yt_29, et_29, lt_29, gt_29, H⟩ := H
                    subst et_29
                    obtain ⟨t_29_leave, t_29_from_, t_29_to_, t_29_arrive⟩ := yt_29
                    replace H := unMail_hid H
                    obtain ⟨qt_29, Qt_29⟩ := own_some Olist_3l0.out (by omega)
                    subst Qt_29
                    obtain ⟨ab_t_29, ao_t_29, zt_29, At_29, z_t_29, ct_29_0, ct_29_1, ct_29_2, ct_29_3⟩ := Go.Proofs.Ythkaeighfjadlaa.OMail.at_ (own_cells Olist_3l0.out) (k := nt_29) (by omega)
                    obtain rfl := Option.some.inj (gt_29.out.symm.trans z_t_29)
                    simp only [Option.some.injEq, Addr.mk.injEq] at At_29
                    obtain ⟨rfl, rfl, _⟩ := At_29
                    clear z_t_29
                    simp only [Nat.zero_add] at ct_29_0 ct_29_1 ct_29_2 ct_29_3
                    have b0t_29 : (0 : Int) ≤ (nt_29 : Int) := by omega
                    have b1t_29 : (nt_29 : Int) < ((list_3l0.length : Nat) : Int) := by omega
                    have b2t_29 : ((nt_29 : Int)).toNat = nt_29 := by omega
                    have Hct_29_0 := Lib.hid ct_29_0
                    replace ct_29_0 := cell_regrown ct_29_0
                    have Hct_29_1 := Lib.hid ct_29_1
                    replace ct_29_1 := cell_regrown ct_29_1
                    have Hct_29_2 := Lib.hid ct_29_2
                    replace ct_29_2 := cell_regrown ct_29_2
                    have Hct_29_3 := Lib.hid ct_29_3
                    replace ct_29_3 := cell_regrown ct_29_3
                    replace H := bind_hid H
                    obtain ⟨t_31, qt_31, H⟩ := H
                    have nt_31 : ∀ d os, Calls Try.prog 120 #[.agg #[.int .i64 t_29_leave, .int .i64 t_29_from_, .int .i64 t_29_to_, .int .i64 t_29_arrive]] (Go.Sort.grow (redrawn wr1 d) os) fun e w'' => e = .returned (.int .i64 t_31) ∧ ∃ p : Regrown, w'' = Go.Sort.grow (redrawn wr1 p.d) p.os := fun d os => Calls.regrown_of (Go.Proofs.Ythkaeighfjadlaa.GsL9Code.C ((Go.Proofs.Ythkaeighfjadlaa.PMail.Mail.mk t_29_leave t_29_from_ t_29_to_ t_29_arrive))  _    qt_31)
                    replace H := bind_hid H
                    obtain ⟨t_33, qt_33, H⟩ := H
                    have nt_33 : ∀ d os, Calls Try.prog 120 #[.agg #[.int .i64 t_9_leave, .int .i64 t_9_from_, .int .i64 t_9_to_, .int .i64 t_9_arrive]] (Go.Sort.grow (redrawn wr1 d) os) fun e w'' => e = .returned (.int .i64 t_33) ∧ ∃ p : Regrown, w'' = Go.Sort.grow (redrawn wr1 p.d) p.os := fun d os => Calls.regrown_of (Go.Proofs.Ythkaeighfjadlaa.GsL9Code.C ((Go.Proofs.Ythkaeighfjadlaa.PMail.Mail.mk t_9_leave t_9_from_ t_9_to_ t_9_arrive))  _    qt_33)
                    replace H := let_hid H
                    obtain ⟨t_34, ht_34, H⟩ := H
                    replace H := app_hid H
                    refine wp_region_quiet_below (by kernel_rfl) (by kernel_rfl) ?_
                    repeat (go_big_quiet_step (first | (go_at_call 120; with_reducible exact nt_31 _ _) | (go_at_call 120; with_reducible exact nt_33 _ _) | (go_at_call 120; exact nt_31 _ _) | (go_at_call 120; exact nt_33 _ _)))
                    refine wpQuiet_nil ?_
                    intro Y8 hY8
                    replace hY8 := below_class hY8
                    clear nt_31 nt_33
                    replace kx_10_0 := Hkx_10_0.out
                    clear Hkx_10_0
                    replace kx_10_1 := Hkx_10_1.out
                    clear Hkx_10_1
                    replace kx_10_2 := Hkx_10_2.out
                    clear Hkx_10_2
                    replace kx_10_3 := Hkx_10_3.out
                    clear Hkx_10_3
                    replace ct_29_0 := Hct_29_0.out
                    clear Hct_29_0
                    replace ct_29_1 := Hct_29_1.out
                    clear Hct_29_1
                    replace ct_29_2 := Hct_29_2.out
                    clear Hct_29_2
                    replace ct_29_3 := Hct_29_3.out
                    clear Hct_29_3
                    have HBY8 := Lib.hid (grown_below HBwr1.out hY8)
                    replace kx_10_0 := cell_below hY8 kx_10_0
                    replace kx_10_1 := cell_below hY8 kx_10_1
                    replace kx_10_2 := cell_below hY8 kx_10_2
                    replace kx_10_3 := cell_below hY8 kx_10_3
                    replace ct_29_0 := cell_below hY8 ct_29_0
                    replace ct_29_1 := cell_below hY8 ct_29_1
                    replace ct_29_2 := cell_below hY8 ct_29_2
                    replace ct_29_3 := cell_below hY8 ct_29_3
                    replace Olist_3l0 := Lib.hid (own_below Olist_3l0.out hY8)
                    replace Kl1_0 := Lib.hid (Go.Proofs.Ythkaeighfjadlaa.GoC.cur_below Kl1_0.out hY8)
                    clear hY8
                    go_wp2_with fail
                    go_meet
                    case rel => exact ⟨_, rfl, H, HBY8, kx_10_0, kx_10_1, kx_10_2, kx_10_3, Olist_3l0, Kl1_0⟩
                case rest =>
                  obtain ⟨t_38q1, rfl, H, HBwq1, kx_10_0, kx_10_1, kx_10_2, kx_10_3, Olist_3l0, Kq1_0⟩ := hcut
                  rename World => wq1
                  unfold q1 at H
                  replace H := let_hid H
                  obtain ⟨_, rfl, H⟩ := H
                  cases t_38q1 with
                  | false =>
                    replace H := ite_f H
                    replace H := app_hid H
                    unfold e1 at H
                    replace H := let_hid H
                    obtain ⟨_, rfl, H⟩ := H
                    go_upto_region 10 with fail
                    go_cut [51] (fun v51_ wr => ∃ (t_51q2 : Bool), v51_ = .bool t_51q2 ∧ Hid (q2 (fun s' => loopK (l0 fuel) m0 s' (e0 fuel)) list_3l0 n_4l0 t_9_leave t_9_from_ t_9_to_ t_9_arrive c0_c0q0 k_6l1 (t_51q2) = some (r, t_)) ∧ Hid (w.grownBy wr (Value.slice (some ⟨g0, 0, none⟩) 1 1).ownBlock) ∧ wr.cell? ⟨wt_9.heap.size, 0, none⟩ = some (.int .i64 t_9_leave) ∧ wr.cell? ⟨wt_9.heap.size, 1, none⟩ = some (.int .i64 t_9_from_) ∧ wr.cell? ⟨wt_9.heap.size, 2, none⟩ = some (.int .i64 t_9_to_) ∧ wr.cell? ⟨wt_9.heap.size, 3, none⟩ = some (.int .i64 t_9_arrive) ∧ Hid (wr.ownsRow w.heap.size 93 4 (.slice Alist_3l0 list_3l0.length clist_3l0) list_3l0.length (Go.Proofs.Ythkaeighfjadlaa.PMail.flat list_3l0)) ∧ Hid (Go.Proofs.Ythkaeighfjadlaa.GoC.CurIs wr bc0 g0 Ac0 cc0 c0_c0q0))
                    case first =>
                      go_wp2_with fail
                      have Hkx_10_0 := Lib.hid kx_10_0
                      replace kx_10_0 := cell_regrown kx_10_0
                      have Hkx_10_1 := Lib.hid kx_10_1
                      replace kx_10_1 := cell_regrown kx_10_1
                      have Hkx_10_2 := Lib.hid kx_10_2
                      replace kx_10_2 := cell_regrown kx_10_2
                      have Hkx_10_3 := Lib.hid kx_10_3
                      replace kx_10_3 := cell_regrown kx_10_3
                      replace H := let_hid H
                      obtain ⟨t_40, ht_40, H⟩ := H
                      replace H := join_hid H
                      cases t_40 with
                      | false =>
                        replace H := ite_f H
                        replace H := let_hid H
                        obtain ⟨t_44, ht_44, H⟩ := H
                        replace H := idx_hid H
                        obtain ⟨nt_45, yt_45, et_45, lt_45, gt_45, H⟩ := H
                        subst et_45
                        obtain ⟨t_45_leave, t_45_from_, t_45_to_, t_45_arrive⟩ := yt_45
                        replace H := unMail_hid H
                        obtain ⟨qt_45, Qt_45⟩ := own_some Olist_3l0.out (by omega)
                        subst Qt_45
                        obtain ⟨ab_t_45, ao_t_45, zt_45, At_45, z_t_45, ct_45_0, ct_45_1, ct_45_2, ct_45_3⟩ := Go.Proofs.Ythkaeighfjadlaa.OMail.at_ (own_cells Olist_3l0.out) (k := nt_45) (by omega)
                        obtain rfl := Option.some.inj (gt_45.out.symm.trans z_t_45)
                        simp only [Option.some.injEq, Addr.mk.injEq] at At_45
                        obtain ⟨rfl, rfl, _⟩ := At_45
                        clear z_t_45
                        simp only [Nat.zero_add] at ct_45_0 ct_45_1 ct_45_2 ct_45_3
                        have b0t_45 : (0 : Int) ≤ (nt_45 : Int) := by omega
                        have b1t_45 : (nt_45 : Int) < ((list_3l0.length : Nat) : Int) := by omega
                        have b2t_45 : ((nt_45 : Int)).toNat = nt_45 := by omega
                        have Hct_45_0 := Lib.hid ct_45_0
                        replace ct_45_0 := cell_regrown ct_45_0
                        have Hct_45_1 := Lib.hid ct_45_1
                        replace ct_45_1 := cell_regrown ct_45_1
                        have Hct_45_2 := Lib.hid ct_45_2
                        replace ct_45_2 := cell_regrown ct_45_2
                        have Hct_45_3 := Lib.hid ct_45_3
                        replace ct_45_3 := cell_regrown ct_45_3
                        replace H := let_hid H
                        obtain ⟨t_48, ht_48, H⟩ := H
                        have ct_48 : ∀ W, (binOp .neq 93 (.agg #[.int .i64 t_45_leave, .int .i64 t_45_from_, .int .i64 t_45_to_, .int .i64 t_45_arrive]) (.agg #[.int .i64 t_9_leave, .int .i64 t_9_from_, .int .i64 t_9_to_, .int .i64 t_9_arrive])).run Try.prog W = .ok (.bool t_48) W := fun W => by rw [neqa_93, ht_48]
                        replace H := app_hid H
                        refine wp_region_quiet_below (by kernel_rfl) (by kernel_rfl) ?_
                        repeat (go_big_quiet_step (fail))
                        refine wpQuiet_nil ?_
                        intro Y10 hY10
                        replace hY10 := below_class hY10
                        replace kx_10_0 := Hkx_10_0.out
                        clear Hkx_10_0
                        replace kx_10_1 := Hkx_10_1.out
                        clear Hkx_10_1
                        replace kx_10_2 := Hkx_10_2.out
                        clear Hkx_10_2
                        replace kx_10_3 := Hkx_10_3.out
                        clear Hkx_10_3
                        replace ct_45_0 := Hct_45_0.out
                        clear Hct_45_0
                        replace ct_45_1 := Hct_45_1.out
                        clear Hct_45_1
                        replace ct_45_2 := Hct_45_2.out
                        clear Hct_45_2
                        replace ct_45_3 := Hct_45_3.out
                        clear Hct_45_3
                        have HBY10 := Lib.hid (grown_below HBwq1.out hY10)
                        replace kx_10_0 := cell_below hY10 kx_10_0
                        replace kx_10_1 := cell_below hY10 kx_10_1
                        replace kx_10_2 := cell_below hY10 kx_10_2
                        replace kx_10_3 := cell_below hY10 kx_10_3
                        replace ct_45_0 := cell_below hY10 ct_45_0
                        replace ct_45_1 := cell_below hY10 ct_45_1
                        replace ct_45_2 := cell_below hY10 ct_45_2
                        replace ct_45_3 := cell_below hY10 ct_45_3
                        replace Olist_3l0 := Lib.hid (own_below Olist_3l0.out hY10)
                        replace Kq1_0 := Lib.hid (Go.Proofs.Ythkaeighfjadlaa.GoC.cur_below Kq1_0.out hY10)
                        clear hY10
                        go_wp2_with fail
                        go_meet
                        case rel => exact ⟨_, rfl, H, HBY10, kx_10_0, kx_10_1, kx_10_2, kx_10_3, Olist_3l0, Kq1_0⟩
                      | true =>
                        replace H := ite_t H
                        replace H := app_hid H
                        refine wp_region_quiet_below (by kernel_rfl) (by kernel_rfl) ?_
                        repeat (go_big_quiet_step (fail))
                        refine wpQuiet_nil ?_
                        intro Y10 hY10
                        replace hY10 := below_class hY10
                        replace kx_10_0 := Hkx_10_0.out
                        clear Hkx_10_0
                        replace kx_10_1 := Hkx_10_1.out
                        clear Hkx_10_1
                        replace kx_10_2 := Hkx_10_2.out
                        clear Hkx_10_2
                        replace kx_10_3 := Hkx_10_3.out
                        clear Hkx_10_3
                        have HBY10 := Lib.hid (grown_below HBwq1.out hY10)
                        replace kx_10_0 := cell_below hY10 kx_10_0
                        replace kx_10_1 := cell_below hY10 kx_10_1
                        replace kx_10_2 := cell_below hY10 kx_10_2
                        replace kx_10_3 := cell_below hY10 kx_10_3
                        replace Olist_3l0 := Lib.hid (own_below Olist_3l0.out hY10)
                        replace Kq1_0 := Lib.hid (Go.Proofs.Ythkaeighfjadlaa.GoC.cur_below Kq1_0.out hY10)
                        clear hY10
                        go_wp2_with fail
                        go_meet
                        case rel => exact ⟨_, rfl, H, HBY10, kx_10_0, kx_10_1, kx_10_2, kx_10_3, Olist_3l0, Kq1_0⟩
                    case rest =>
                      obtain ⟨t_51q2, rfl, H, HBwq2, kx_10_0, kx_10_1, kx_10_2, kx_10_3, Olist_3l0, Kq2_0⟩ := hcut
                      rename World => wq2
                      unfold q2 at H
                      replace H := let_hid H
                      obtain ⟨_, rfl, H⟩ := H
                      cases t_51q2 with
                      | false =>
                        replace H := ite_f H
                        replace H := let_hid H
                        obtain ⟨t_64, ht_64, H⟩ := H
                        replace H := app_hid H
                        go_wp2_with fail
                        go_roundg m0
                        case measure => omega
                        case rel => exact ⟨_, _, _, _, _, rfl, rfl, H, HBwq2, Olist_3l0, Lib.hid Dlist_3l0_c0.out, Kq2_0⟩
                      | true =>
                        replace H := ite_t H
                        go_wp2_with fail
                        have bd11 : Below wq2.heap.size wq2 wq2.drew := (Below.refl _ _).drew
                        have HBwq2.drew := Lib.hid (grown_below HBwq2.out bd11)
                        replace kx_10_0 := cell_below bd11 kx_10_0
                        replace kx_10_1 := cell_below bd11 kx_10_1
                        replace kx_10_2 := cell_below bd11 kx_10_2
                        replace kx_10_3 := cell_below bd11 kx_10_3
                        replace Olist_3l0 := Lib.hid (own_below Olist_3l0.out bd11)
                        replace Kq2_0 := Lib.hid (Go.Proofs.Ythkaeighfjadlaa.GoC.cur_below Kq2_0.out bd11)
                        clear bd11
                        replace H := guard_hid H
                        obtain ⟨hl_t_53, H⟩ := H
                        replace H := let_hid H
                        obtain ⟨t_53, ht_53, H⟩ := H
                        have hht_53 := Lib.hid ht_53
                        have hgt_53 := Lib.hid hl_t_53
                        clear ht_53
                        clear hl_t_53
                        replace H := guard_hid H
                        obtain ⟨hlt_54, H⟩ := H
                        replace H := let_hid H
                        obtain ⟨t_54, ht_54, H⟩ := H
                        have hht_54 := Lib.hid ht_54
                        clear ht_54
                        replace H := guard_hid H
                        obtain ⟨hlt_57, H⟩ := H
                        replace H := let_hid H
                        obtain ⟨t_57, ht_57, H⟩ := H
                        have hht_57 := Lib.hid ht_57
                        clear ht_57
                        replace H := guard_hid H
                        obtain ⟨hl_t_60, H⟩ := H
                        replace H := let_hid H
                        obtain ⟨t_60, ht_60, H⟩ := H
                        have hht_60 := Lib.hid ht_60
                        have hgt_60 := Lib.hid hl_t_60
                        clear ht_60
                        clear hl_t_60
                        replace H := guard_hid H
                        obtain ⟨hlt_61, H⟩ := H
                        replace H := let_hid H
                        obtain ⟨t_61, ht_61, H⟩ := H
                        have hht_61 := Lib.hid ht_61
                        clear ht_61
                        obtain ⟨At_53_p77, ct_53_p77, rt_53_p77, mt_53_p77, qt_53_p77⟩ := Go.Proofs.Ythkaeighfjadlaa.GoD.slice_viewH (P := Try.prog) (t := 24) (e := 93) (k := .i64) (ys := (Go.Proofs.Ythkaeighfjadlaa.PMail.flat t_53)) (m := t_53.length) (by kernel_rfl) (by kernel_rfl) hi_93 hz1_93 Olist_3l0.out (by have h_ := hgt_53.out; omega) (by have h_ := hgt_53.out; rw [← hht_53.out, List.length_take] <;> omega) (by rw [← hht_53.out]; exact flat_take Go.Proofs.Ythkaeighfjadlaa.PMail.Mail.cells 4 (fun _ => rfl) _ _)
                        have Mt_53_p77 := Lib.hid mt_53_p77
                        have Qt_53_p77 := Lib.hid qt_53_p77
                        have Nt_53_p77 : Hid (t_53.length ≤ 9223372036854775807) := Lib.hid (by have h_ := own_max Olist_3l0.out; rw [← hht_53.out, List.length_take] <;> omega)
                        obtain ⟨At_60_p78, ct_60_p78, rt_60_p78, mt_60_p78, qt_60_p78⟩ := Go.Proofs.Ythkaeighfjadlaa.GoD.slice_view (P := Try.prog) (t := 24) (e := 93) (k := .i64) (ys := (Go.Proofs.Ythkaeighfjadlaa.PMail.flat t_60)) (m := t_60.length) (by kernel_rfl) (by kernel_rfl) hi_93 hz1_93 Olist_3l0.out (by have h_ := hgt_60.out; omega) (by rw [← hht_60.out, List.length_drop] <;> omega) (by rw [← hht_60.out]; exact flat_drop Go.Proofs.Ythkaeighfjadlaa.PMail.Mail.cells 4 (fun _ => rfl) _ _)
                        have Mt_60_p78 := Lib.hid mt_60_p78
                        have Qt_60_p78 := Lib.hid qt_60_p78
                        have Nt_60_p78 : Hid (t_60.length ≤ 9223372036854775807) := Lib.hid (by have h_ := own_max Olist_3l0.out; rw [← hht_60.out, List.length_drop] <;> omega)
                        obtain ⟨w_t_50_p83, hw_t_50_p83⟩ : ∃ x, wq2.drew.alloc (.cells #[] 93) = x := ⟨_, rfl⟩
                        have bw_t_50_p83 : Below wq2.drew.heap.size wq2.drew w_t_50_p83 := by rw [← hw_t_50_p83]; exact (Below.refl _ _).alloc (Nat.le_refl _) _
                        have Ot_50_p83 : Hid (w_t_50_p83.ownsRow w.heap.size 93 4 (.slice (some ⟨wq2.heap.size, 0, none⟩) 0 0) 0 []) := Lib.hid (by rw [← hw_t_50_p83]; exact own_empty HBwq2.drew.out.size)
                        have Dt_50_list_3l0_p83 := Lib.hid (apart_fresh Olist_3l0.out)
                        have Dt_50_c0_p83 := Lib.hid (Go.Proofs.Ythkaeighfjadlaa.GoC.apart_cur Kq2_0.out)
                        have Dt_50_x_10_p83 := Lib.hid (apart_box kx_10_0)
                        have HBw_t_50_p83 := Lib.hid (grown_below HBwq2.drew.out bw_t_50_p83)
                        have kx_10_0__79_p83 := cell_below bw_t_50_p83 kx_10_0
                        have kx_10_1__80_p83 := cell_below bw_t_50_p83 kx_10_1
                        have kx_10_2__81_p83 := cell_below bw_t_50_p83 kx_10_2
                        have kx_10_3__82_p83 := cell_below bw_t_50_p83 kx_10_3
                        have Olist_3l0_p83 := Lib.hid (own_below Olist_3l0.out bw_t_50_p83)
                        have Kq2_0_p83 := Lib.hid (Go.Proofs.Ythkaeighfjadlaa.GoC.cur_below Kq2_0.out bw_t_50_p83)
                        obtain ⟨w_t_56_p96, hw_t_56_p96⟩ : ∃ x, w_t_50_p83.alloc (.cells #[.int .i64 t_9_leave, .int .i64 t_9_from_, .int .i64 t_9_to_, .int .i64 t_9_arrive] 93) = x := ⟨_, rfl⟩
                        have bw_t_56_p96 : Below w_t_50_p83.heap.size w_t_50_p83 w_t_56_p96 := by rw [← hw_t_56_p96]; exact (Below.refl _ _).alloc (Nat.le_refl _) _
                        have Ot_56_p96 : Hid (w_t_56_p96.ownsRow w.heap.size 93 4 (.slice (some ⟨w_t_50_p83.heap.size, 0, none⟩) 1 1) 1 [.int .i64 t_9_leave, .int .i64 t_9_from_, .int .i64 t_9_to_, .int .i64 t_9_arrive]) := Lib.hid (by rw [← hw_t_56_p96]; exact own_laid (n := 1) HBw_t_50_p83.out.size (rfl : ([.int .i64 t_9_leave, .int .i64 t_9_from_, .int .i64 t_9_to_, .int .i64 t_9_arrive] : List Value) = [.int .i64 t_9_leave, .int .i64 t_9_from_, .int .i64 t_9_to_, .int .i64 t_9_arrive]) rfl (by unfold maxLen; omega))
                        have Dt_56_list_3l0_p96 := Lib.hid (apart_fresh Olist_3l0_p83.out)
                        have Dt_56_t_50_p96 := Lib.hid (apart_fresh Ot_50_p83.out)
                        have Dt_56_c0_p96 := Lib.hid (Go.Proofs.Ythkaeighfjadlaa.GoC.apart_cur Kq2_0_p83.out)
                        have Dt_56_x_10_p96 := Lib.hid (apart_box kx_10_0__79_p83)
                        have HBw_t_56_p96 := Lib.hid (grown_below HBw_t_50_p83.out bw_t_56_p96)
                        have kx_10_0__92_p96 := cell_below bw_t_56_p96 kx_10_0__79_p83
                        have kx_10_1__93_p96 := cell_below bw_t_56_p96 kx_10_1__80_p83
                        have kx_10_2__94_p96 := cell_below bw_t_56_p96 kx_10_2__81_p83
                        have kx_10_3__95_p96 := cell_below bw_t_56_p96 kx_10_3__82_p83
                        have Olist_3l0_p83_p96 := Lib.hid (own_below Olist_3l0_p83.out bw_t_56_p96)
                        have Ot_50_p83_p96 := Lib.hid (own_below Ot_50_p83.out bw_t_56_p96)
                        have Kq2_0_p83_p96 := Lib.hid (Go.Proofs.Ythkaeighfjadlaa.GoC.cur_below Kq2_0_p83.out bw_t_56_p96)
                        obtain ⟨w_t_56_p104, hw_t_56_p104⟩ : ∃ x, wq2.drew.alloc (.cells #[.int .i64 t_9_leave, .int .i64 t_9_from_, .int .i64 t_9_to_, .int .i64 t_9_arrive] 93) = x := ⟨_, rfl⟩
                        have bw_t_56_p104 : Below wq2.drew.heap.size wq2.drew w_t_56_p104 := by rw [← hw_t_56_p104]; exact (Below.refl _ _).alloc (Nat.le_refl _) _
                        have Ot_56_p104 : Hid (w_t_56_p104.ownsRow w.heap.size 93 4 (.slice (some ⟨wq2.heap.size, 0, none⟩) 1 1) 1 [.int .i64 t_9_leave, .int .i64 t_9_from_, .int .i64 t_9_to_, .int .i64 t_9_arrive]) := Lib.hid (by rw [← hw_t_56_p104]; exact own_laid (n := 1) HBwq2.drew.out.size (rfl : ([.int .i64 t_9_leave, .int .i64 t_9_from_, .int .i64 t_9_to_, .int .i64 t_9_arrive] : List Value) = [.int .i64 t_9_leave, .int .i64 t_9_from_, .int .i64 t_9_to_, .int .i64 t_9_arrive]) rfl (by unfold maxLen; omega))
                        have Dt_56_list_3l0_p104 := Lib.hid (apart_fresh Olist_3l0.out)
                        have Dt_56_c0_p104 := Lib.hid (Go.Proofs.Ythkaeighfjadlaa.GoC.apart_cur Kq2_0.out)
                        have Dt_56_x_10_p104 := Lib.hid (apart_box kx_10_0)
                        have HBw_t_56_p104 := Lib.hid (grown_below HBwq2.drew.out bw_t_56_p104)
                        have kx_10_0__100_p104 := cell_below bw_t_56_p104 kx_10_0
                        have kx_10_1__101_p104 := cell_below bw_t_56_p104 kx_10_1
                        have kx_10_2__102_p104 := cell_below bw_t_56_p104 kx_10_2
                        have kx_10_3__103_p104 := cell_below bw_t_56_p104 kx_10_3
                        have Olist_3l0_p104 := Lib.hid (own_below Olist_3l0.out bw_t_56_p104)
                        have Kq2_0_p104 := Lib.hid (Go.Proofs.Ythkaeighfjadlaa.GoC.cur_below Kq2_0.out bw_t_56_p104)
                        obtain ⟨w_t_50_p109, hw_t_50_p109⟩ : ∃ x, w_t_56_p104.alloc (.cells #[] 93) = x := ⟨_, rfl⟩
                        have bw_t_50_p109 : Below w_t_56_p104.heap.size w_t_56_p104 w_t_50_p109 := by rw [← hw_t_50_p109]; exact (Below.refl _ _).alloc (Nat.le_refl _) _
                        have Ot_50_p109 : Hid (w_t_50_p109.ownsRow w.heap.size 93 4 (.slice (some ⟨w_t_56_p104.heap.size, 0, none⟩) 0 0) 0 []) := Lib.hid (by rw [← hw_t_50_p109]; exact own_empty HBw_t_56_p104.out.size)
                        have Dt_50_list_3l0_p109 := Lib.hid (apart_fresh Olist_3l0_p104.out)
                        have Dt_50_t_56_p109 := Lib.hid (apart_fresh Ot_56_p104.out)
                        have Dt_50_c0_p109 := Lib.hid (Go.Proofs.Ythkaeighfjadlaa.GoC.apart_cur Kq2_0_p104.out)
                        have Dt_50_x_10_p109 := Lib.hid (apart_box kx_10_0__100_p104)
                        have HBw_t_50_p109 := Lib.hid (grown_below HBw_t_56_p104.out bw_t_50_p109)
                        have kx_10_0__105_p109 := cell_below bw_t_50_p109 kx_10_0__100_p104
                        have kx_10_1__106_p109 := cell_below bw_t_50_p109 kx_10_1__101_p104
                        have kx_10_2__107_p109 := cell_below bw_t_50_p109 kx_10_2__102_p104
                        have kx_10_3__108_p109 := cell_below bw_t_50_p109 kx_10_3__103_p104
                        have Olist_3l0_p104_p109 := Lib.hid (own_below Olist_3l0_p104.out bw_t_50_p109)
                        have Ot_56_p104_p109 := Lib.hid (own_below Ot_56_p104.out bw_t_50_p109)
                        have Kq2_0_p104_p109 := Lib.hid (Go.Proofs.Ythkaeighfjadlaa.GoC.cur_below Kq2_0_p104.out bw_t_50_p109)
                        go_region_held3 (fun w' => w'.cell? ⟨wt_9.heap.size, 0, none⟩ = some (.int .i64 t_9_leave) ∧ w'.cell? ⟨wt_9.heap.size, 1, none⟩ = some (.int .i64 t_9_from_) ∧ w'.cell? ⟨wt_9.heap.size, 2, none⟩ = some (.int .i64 t_9_to_) ∧ w'.cell? ⟨wt_9.heap.size, 3, none⟩ = some (.int .i64 t_9_arrive)) (first | exact ⟨kx_10_0, kx_10_1, kx_10_2, kx_10_3⟩ | exact ⟨kx_10_0__79_p83, kx_10_1__80_p83, kx_10_2__81_p83, kx_10_3__82_p83⟩ | exact ⟨kx_10_0__79_p83_p84, kx_10_1__80_p83_p84, kx_10_2__81_p83_p84, kx_10_3__82_p83_p84⟩ | exact ⟨kx_10_0__85_p89, kx_10_1__86_p89, kx_10_2__87_p89, kx_10_3__88_p89⟩ | exact ⟨kx_10_0__85_p89_p90, kx_10_1__86_p89_p90, kx_10_2__87_p89_p90, kx_10_3__88_p89_p90⟩ | exact ⟨kx_10_0__85_p89_p90_p91, kx_10_1__86_p89_p90_p91, kx_10_2__87_p89_p90_p91, kx_10_3__88_p89_p90_p91⟩ | exact ⟨kx_10_0__92_p96, kx_10_1__93_p96, kx_10_2__94_p96, kx_10_3__95_p96⟩ | exact ⟨kx_10_0__92_p96_p97, kx_10_1__93_p96_p97, kx_10_2__94_p96_p97, kx_10_3__95_p96_p97⟩ | exact ⟨kx_10_0__92_p96_p97_p98, kx_10_1__93_p96_p97_p98, kx_10_2__94_p96_p97_p98, kx_10_3__95_p96_p97_p98⟩ | exact ⟨kx_10_0__92_p96_p97_p98_p99, kx_10_1__93_p96_p97_p98_p99, kx_10_2__94_p96_p97_p98_p99, kx_10_3__95_p96_p97_p98_p99⟩ | exact ⟨kx_10_0__100_p104, kx_10_1__101_p104, kx_10_2__102_p104, kx_10_3__103_p104⟩ | exact ⟨kx_10_0__105_p109, kx_10_1__106_p109, kx_10_2__107_p109, kx_10_3__108_p109⟩ | exact ⟨kx_10_0__105_p109_p110, kx_10_1__106_p109_p110, kx_10_2__107_p109_p110, kx_10_3__108_p109_p110⟩ | exact ⟨kx_10_0__105_p109_p110_p111, kx_10_1__106_p109_p110_p111, kx_10_2__107_p109_p110_p111, kx_10_3__108_p109_p110_p111⟩ | exact ⟨kx_10_0__105_p109_p110_p111_p112, kx_10_1__106_p109_p110_p111_p112, kx_10_2__107_p109_p110_p111_p112, kx_10_3__108_p109_p110_p111_p112⟩)
                            (first
                              | (have hst_54_p84 := HBw_t_50_p83.out.size
                                 have Ct_54_p84 := Lib.hid ((Mt_53_p77.out _ Olist_3l0_p83.out))
                                 have h1t_54_p84 : 0 + t_53.length ≤ maxLen := by have h_ := hlt_54; simp only [List.length_nil] at h_; unfold maxLen; omega
                                 have h2t_54_p84 : (0 + t_53.length) * 32 ≤ 140737488355328 := by have h_ := hlt_54; simp only [List.length_nil] at h_; omega
                                 refine Go.Proofs.Ythkaeighfjadlaa.GoH.step_spread_own (w := w_t_50_p83) rfl (.tmp 52) (.tmp 55) 24 rfl w.heap.size 93 i0_93 (.agg #[.int .i64 0, .int .i64 0, .int .i64 0, .int .i64 0]) 4 32 Try.underlying24 hi_93 hz0_93 hz1_93 hz2_93 rfl (by decide) (some ⟨wq2.heap.size, 0, none⟩) 0 0 _ rfl Ot_50_p83.out At_53_p77 t_53.length ct_53_p77 (Go.Proofs.Ythkaeighfjadlaa.PMail.flat t_53) rfl Qt_53_p77.out Ct_54_p84.out (fun u hu => by obtain ⟨y_, _, hy_⟩ := List.mem_flatMap.1 hu; simp only [Go.Proofs.Ythkaeighfjadlaa.PMail.Mail.cells, List.mem_cons, List.not_mem_nil, or_false] at hy_; rcases hy_ with rfl | rfl | rfl | rfl <;> rfl) h1t_54_p84 h2t_54_p84 hst_54_p84 ?_
                                 intro vt_54_p84 wt_54_p84 ot_54_p84 gt_54_p84 yt_54_p84
                                 obtain ⟨At_54_p84, ct_54_p84, rfl, pt_54_p84⟩ := own_pushS (f := Go.Proofs.Ythkaeighfjadlaa.PMail.flat) hht_54.out (by simp [Go.Proofs.Ythkaeighfjadlaa.PMail.flat]) rfl ot_54_p84
                                 have Pt_54_p84 := Lib.hid pt_54_p84
                                 have Yt_54_p84 := Lib.hid yt_54_p84
                                 have Gt_54_p84 := Lib.hid gt_54_p84
                                 have HBwt_54_p84 := Lib.hid (Go.Proofs.Ythkaeighfjadlaa.GoC.grown_new HBw_t_50_p83.out Gt_54_p84.out (Go.Proofs.Ythkaeighfjadlaa.GoC.own_ge Ot_50_p83.out))
                                 have Dt_54_list_3l0_p84 : Hid (Apart At_54_p84 _) := Lib.hid (apart_app Dt_50_list_3l0_p83.out (fun a_ ha_ => (own_lt Olist_3l0_p83.out a_ ha_).2) Yt_54_p84.out)
                                 have Dt_54_c0_p84 : Hid (Apart At_54_p84 _) := Lib.hid (apart_app Dt_50_c0_p83.out (fun a_ ha_ => by cases ha_; exact (Go.Proofs.Ythkaeighfjadlaa.GoC.cur_lt Kq2_0_p83.out).2) Yt_54_p84.out)
                                 have Dt_54_x_10_p84 : Hid (Apart At_54_p84 _) := Lib.hid (apart_app Dt_50_x_10_p83.out (fun a_ ha_ => by cases ha_; exact cell_lt kx_10_0__79_p83) Yt_54_p84.out)
                                 have kx_10_0__79_p83_p84 := cell_other kx_10_0__79_p83 Gt_54_p84.out Dt_50_x_10_p83.out
                                 have kx_10_1__80_p83_p84 := cell_other kx_10_1__80_p83 Gt_54_p84.out Dt_50_x_10_p83.out
                                 have kx_10_2__81_p83_p84 := cell_other kx_10_2__81_p83 Gt_54_p84.out Dt_50_x_10_p83.out
                                 have kx_10_3__82_p83_p84 := cell_other kx_10_3__82_p83 Gt_54_p84.out Dt_50_x_10_p83.out
                                 have Olist_3l0_p83_p84 := Lib.hid (own_other Olist_3l0_p83.out Gt_54_p84.out Dt_50_list_3l0_p83.out)
                                 have Kq2_0_p83_p84 := Lib.hid (Go.Proofs.Ythkaeighfjadlaa.GoC.cur_otherO Kq2_0_p83.out Gt_54_p84.out Dt_50_c0_p83.out L0 Ot_50_p83.out)
                                 obtain ⟨w_t_56_p89, hw_t_56_p89⟩ : ∃ x, wt_54_p84.alloc (.cells #[.int .i64 t_9_leave, .int .i64 t_9_from_, .int .i64 t_9_to_, .int .i64 t_9_arrive] 93) = x := ⟨_, rfl⟩
                                 have bw_t_56_p89 : Below wt_54_p84.heap.size wt_54_p84 w_t_56_p89 := by rw [← hw_t_56_p89]; exact (Below.refl _ _).alloc (Nat.le_refl _) _
                                 have Ot_56_p89 : Hid (w_t_56_p89.ownsRow w.heap.size 93 4 (.slice (some ⟨wt_54_p84.heap.size, 0, none⟩) 1 1) 1 [.int .i64 t_9_leave, .int .i64 t_9_from_, .int .i64 t_9_to_, .int .i64 t_9_arrive]) := Lib.hid (by rw [← hw_t_56_p89]; exact own_laid (n := 1) HBwt_54_p84.out.size (rfl : ([.int .i64 t_9_leave, .int .i64 t_9_from_, .int .i64 t_9_to_, .int .i64 t_9_arrive] : List Value) = [.int .i64 t_9_leave, .int .i64 t_9_from_, .int .i64 t_9_to_, .int .i64 t_9_arrive]) rfl (by unfold maxLen; omega))
                                 have Dt_56_list_3l0_p89 := Lib.hid (apart_fresh Olist_3l0_p83_p84.out)
                                 have Dt_56_t_54_p89 := Lib.hid (apart_fresh Pt_54_p84.out)
                                 have Dt_56_c0_p89 := Lib.hid (Go.Proofs.Ythkaeighfjadlaa.GoC.apart_cur Kq2_0_p83_p84.out)
                                 have Dt_56_x_10_p89 := Lib.hid (apart_box kx_10_0__79_p83_p84)
                                 have HBw_t_56_p89 := Lib.hid (grown_below HBwt_54_p84.out bw_t_56_p89)
                                 have kx_10_0__85_p89 := cell_below bw_t_56_p89 kx_10_0__79_p83_p84
                                 have kx_10_1__86_p89 := cell_below bw_t_56_p89 kx_10_1__80_p83_p84
                                 have kx_10_2__87_p89 := cell_below bw_t_56_p89 kx_10_2__81_p83_p84
                                 have kx_10_3__88_p89 := cell_below bw_t_56_p89 kx_10_3__82_p83_p84
                                 have Olist_3l0_p83_p84_p89 := Lib.hid (own_below Olist_3l0_p83_p84.out bw_t_56_p89)
                                 have Pt_54_p84_p89 := Lib.hid (own_below Pt_54_p84.out bw_t_56_p89)
                                 have Kq2_0_p83_p84_p89 := Lib.hid (Go.Proofs.Ythkaeighfjadlaa.GoC.cur_below Kq2_0_p83_p84.out bw_t_56_p89))
                              | (have hst_57_p90 := HBw_t_56_p89.out.size
                                 have h1t_57_p90 : t_54.length + 1 ≤ maxLen := by unfold maxLen; omega
                                 have h2t_57_p90 : (t_54.length + 1) * 32 ≤ 140737488355328 := by omega
                                 have h3t_57_p90 := Ot_56_p89.out.cells rfl
                                 refine Go.Proofs.Ythkaeighfjadlaa.GoH.step_append_own (w := w_t_56_p89) rfl (.tmp 56) (.tmp 58) 24 rfl w.heap.size 93 i0_93 (.agg #[.int .i64 0, .int .i64 0, .int .i64 0, .int .i64 0]) 4 32 Try.underlying24 hi_93 hz0_93 hz1_93 hz2_93 rfl (by decide) At_54_p84 ct_54_p84 t_54.length _ rfl Pt_54_p84_p89.out ⟨wt_54_p84.heap.size, 0, none⟩ 1 [.int .i64 t_9_leave, .int .i64 t_9_from_, .int .i64 t_9_to_, .int .i64 t_9_arrive] rfl rfl h3t_57_p90 (one_cells rfl) h1t_57_p90 h2t_57_p90 hst_57_p90 ?_
                                 intro vt_57_p90 wt_57_p90 ot_57_p90 gt_57_p90 yt_57_p90
                                 obtain ⟨qt_57_p90, ct_57_p90, rfl, pt_57_p90⟩ := own_push hht_57.out (Go.Proofs.Ythkaeighfjadlaa.PMail.flat_snoc _ _) rfl ot_57_p90
                                 have Pt_57_p90 := Lib.hid pt_57_p90
                                 have Yt_57_p90 := Lib.hid yt_57_p90
                                 have Gt_57_p90 := Lib.hid gt_57_p90
                                 have HBwt_57_p90 := Lib.hid (Go.Proofs.Ythkaeighfjadlaa.GoC.grown_new HBw_t_56_p89.out Gt_57_p90.out (Go.Proofs.Ythkaeighfjadlaa.GoC.own_ge Pt_54_p84_p89.out))
                                 have Dt_57_list_3l0_p90 : Hid (Apart (some ⟨qt_57_p90, 0, none⟩) _) := Lib.hid (apart_app Dt_54_list_3l0_p84.out (fun a_ ha_ => (own_lt Olist_3l0_p83_p84_p89.out a_ ha_).2) Yt_57_p90.out)
                                 have Dt_57_c0_p90 : Hid (Apart (some ⟨qt_57_p90, 0, none⟩) _) := Lib.hid (apart_app Dt_54_c0_p84.out (fun a_ ha_ => by cases ha_; exact (Go.Proofs.Ythkaeighfjadlaa.GoC.cur_lt Kq2_0_p83_p84_p89.out).2) Yt_57_p90.out)
                                 have Dt_57_x_10_p90 : Hid (Apart (some ⟨qt_57_p90, 0, none⟩) _) := Lib.hid (apart_app Dt_54_x_10_p84.out (fun a_ ha_ => by cases ha_; exact cell_lt kx_10_0__85_p89) Yt_57_p90.out)
                                 have Dt_57_t_56_p90 : Hid (Apart (some ⟨qt_57_p90, 0, none⟩) _) := Lib.hid (apart_app (Apart.symm Dt_56_t_54_p89.out) (fun a_ ha_ => (own_lt Ot_56_p89.out a_ ha_).2) Yt_57_p90.out)
                                 have kx_10_0__85_p89_p90 := cell_other kx_10_0__85_p89 Gt_57_p90.out Dt_54_x_10_p84.out
                                 have kx_10_1__86_p89_p90 := cell_other kx_10_1__86_p89 Gt_57_p90.out Dt_54_x_10_p84.out
                                 have kx_10_2__87_p89_p90 := cell_other kx_10_2__87_p89 Gt_57_p90.out Dt_54_x_10_p84.out
                                 have kx_10_3__88_p89_p90 := cell_other kx_10_3__88_p89 Gt_57_p90.out Dt_54_x_10_p84.out
                                 have Olist_3l0_p83_p84_p89_p90 := Lib.hid (own_other Olist_3l0_p83_p84_p89.out Gt_57_p90.out Dt_54_list_3l0_p84.out)
                                 have Ot_56_p89_p90 := Lib.hid (own_other Ot_56_p89.out Gt_57_p90.out (Apart.symm Dt_56_t_54_p89.out))
                                 have Kq2_0_p83_p84_p89_p90 := Lib.hid (Go.Proofs.Ythkaeighfjadlaa.GoC.cur_otherO Kq2_0_p83_p84_p89.out Gt_57_p90.out Dt_54_c0_p84.out L0 Pt_54_p84_p89.out))
                              | (have hst_61_p91 := HBwt_57_p90.out.size
                                 have Ct_61_p91 := Lib.hid ((Mt_60_p78.out _ Olist_3l0_p83_p84_p89_p90.out))
                                 have h1t_61_p91 : t_57.length + t_60.length ≤ maxLen := by have h_ := hlt_61; unfold maxLen; omega
                                 have h2t_61_p91 : (t_57.length + t_60.length) * 32 ≤ 140737488355328 := by have h_ := hlt_61; omega
                                 refine Go.Proofs.Ythkaeighfjadlaa.GoH.step_spread_own (w := wt_57_p90) rfl (.tmp 59) (.tmp 62) 24 rfl w.heap.size 93 i0_93 (.agg #[.int .i64 0, .int .i64 0, .int .i64 0, .int .i64 0]) 4 32 Try.underlying24 hi_93 hz0_93 hz1_93 hz2_93 rfl (by decide) (some ⟨qt_57_p90, 0, none⟩) ct_57_p90 t_57.length _ rfl Pt_57_p90.out At_60_p78 t_60.length ct_60_p78 (Go.Proofs.Ythkaeighfjadlaa.PMail.flat t_60) rfl Qt_60_p78.out Ct_61_p91.out (fun u hu => by obtain ⟨y_, _, hy_⟩ := List.mem_flatMap.1 hu; simp only [Go.Proofs.Ythkaeighfjadlaa.PMail.Mail.cells, List.mem_cons, List.not_mem_nil, or_false] at hy_; rcases hy_ with rfl | rfl | rfl | rfl <;> rfl) h1t_61_p91 h2t_61_p91 hst_61_p91 ?_
                                 intro vt_61_p91 wt_61_p91 ot_61_p91 gt_61_p91 yt_61_p91
                                 obtain ⟨At_61_p91, ct_61_p91, rfl, pt_61_p91⟩ := own_pushS (f := Go.Proofs.Ythkaeighfjadlaa.PMail.flat) hht_61.out (by simp [Go.Proofs.Ythkaeighfjadlaa.PMail.flat]) rfl ot_61_p91
                                 have Pt_61_p91 := Lib.hid pt_61_p91
                                 have Yt_61_p91 := Lib.hid yt_61_p91
                                 have Gt_61_p91 := Lib.hid gt_61_p91
                                 have HBwt_61_p91 := Lib.hid (Go.Proofs.Ythkaeighfjadlaa.GoC.grown_new HBwt_57_p90.out Gt_61_p91.out (Go.Proofs.Ythkaeighfjadlaa.GoC.own_ge Pt_57_p90.out))
                                 have Dt_61_list_3l0_p91 : Hid (Apart At_61_p91 _) := Lib.hid (apart_app Dt_57_list_3l0_p90.out (fun a_ ha_ => (own_lt Olist_3l0_p83_p84_p89_p90.out a_ ha_).2) Yt_61_p91.out)
                                 have Dt_61_c0_p91 : Hid (Apart At_61_p91 _) := Lib.hid (apart_app Dt_57_c0_p90.out (fun a_ ha_ => by cases ha_; exact (Go.Proofs.Ythkaeighfjadlaa.GoC.cur_lt Kq2_0_p83_p84_p89_p90.out).2) Yt_61_p91.out)
                                 have Dt_61_x_10_p91 : Hid (Apart At_61_p91 _) := Lib.hid (apart_app Dt_57_x_10_p90.out (fun a_ ha_ => by cases ha_; exact cell_lt kx_10_0__85_p89_p90) Yt_61_p91.out)
                                 have kx_10_0__85_p89_p90_p91 := cell_other kx_10_0__85_p89_p90 Gt_61_p91.out Dt_57_x_10_p90.out
                                 have kx_10_1__86_p89_p90_p91 := cell_other kx_10_1__86_p89_p90 Gt_61_p91.out Dt_57_x_10_p90.out
                                 have kx_10_2__87_p89_p90_p91 := cell_other kx_10_2__87_p89_p90 Gt_61_p91.out Dt_57_x_10_p90.out
                                 have kx_10_3__88_p89_p90_p91 := cell_other kx_10_3__88_p89_p90 Gt_61_p91.out Dt_57_x_10_p90.out
                                 have Olist_3l0_p83_p84_p89_p90_p91 := Lib.hid (own_other Olist_3l0_p83_p84_p89_p90.out Gt_61_p91.out Dt_57_list_3l0_p90.out)
                                 have Kq2_0_p83_p84_p89_p90_p91 := Lib.hid (Go.Proofs.Ythkaeighfjadlaa.GoC.cur_otherO Kq2_0_p83_p84_p89_p90.out Gt_61_p91.out Dt_57_c0_p90.out L0 Pt_57_p90.out))
                              | (have hst_54_p97 := HBw_t_56_p96.out.size
                                 have Ct_54_p97 := Lib.hid ((Mt_53_p77.out _ Olist_3l0_p83_p96.out))
                                 have h1t_54_p97 : 0 + t_53.length ≤ maxLen := by have h_ := hlt_54; simp only [List.length_nil] at h_; unfold maxLen; omega
                                 have h2t_54_p97 : (0 + t_53.length) * 32 ≤ 140737488355328 := by have h_ := hlt_54; simp only [List.length_nil] at h_; omega
                                 refine Go.Proofs.Ythkaeighfjadlaa.GoH.step_spread_own (w := w_t_56_p96) rfl (.tmp 52) (.tmp 55) 24 rfl w.heap.size 93 i0_93 (.agg #[.int .i64 0, .int .i64 0, .int .i64 0, .int .i64 0]) 4 32 Try.underlying24 hi_93 hz0_93 hz1_93 hz2_93 rfl (by decide) (some ⟨wq2.heap.size, 0, none⟩) 0 0 _ rfl Ot_50_p83_p96.out At_53_p77 t_53.length ct_53_p77 (Go.Proofs.Ythkaeighfjadlaa.PMail.flat t_53) rfl Qt_53_p77.out Ct_54_p97.out (fun u hu => by obtain ⟨y_, _, hy_⟩ := List.mem_flatMap.1 hu; simp only [Go.Proofs.Ythkaeighfjadlaa.PMail.Mail.cells, List.mem_cons, List.not_mem_nil, or_false] at hy_; rcases hy_ with rfl | rfl | rfl | rfl <;> rfl) h1t_54_p97 h2t_54_p97 hst_54_p97 ?_
                                 intro vt_54_p97 wt_54_p97 ot_54_p97 gt_54_p97 yt_54_p97
                                 obtain ⟨At_54_p97, ct_54_p97, rfl, pt_54_p97⟩ := own_pushS (f := Go.Proofs.Ythkaeighfjadlaa.PMail.flat) hht_54.out (by simp [Go.Proofs.Ythkaeighfjadlaa.PMail.flat]) rfl ot_54_p97
                                 have Pt_54_p97 := Lib.hid pt_54_p97
                                 have Yt_54_p97 := Lib.hid yt_54_p97
                                 have Gt_54_p97 := Lib.hid gt_54_p97
                                 have HBwt_54_p97 := Lib.hid (Go.Proofs.Ythkaeighfjadlaa.GoC.grown_new HBw_t_56_p96.out Gt_54_p97.out (Go.Proofs.Ythkaeighfjadlaa.GoC.own_ge Ot_50_p83_p96.out))
                                 have Dt_54_list_3l0_p97 : Hid (Apart At_54_p97 _) := Lib.hid (apart_app Dt_50_list_3l0_p83.out (fun a_ ha_ => (own_lt Olist_3l0_p83_p96.out a_ ha_).2) Yt_54_p97.out)
                                 have Dt_54_c0_p97 : Hid (Apart At_54_p97 _) := Lib.hid (apart_app Dt_50_c0_p83.out (fun a_ ha_ => by cases ha_; exact (Go.Proofs.Ythkaeighfjadlaa.GoC.cur_lt Kq2_0_p83_p96.out).2) Yt_54_p97.out)
                                 have Dt_54_x_10_p97 : Hid (Apart At_54_p97 _) := Lib.hid (apart_app Dt_50_x_10_p83.out (fun a_ ha_ => by cases ha_; exact cell_lt kx_10_0__92_p96) Yt_54_p97.out)
                                 have Dt_54_t_56_p97 : Hid (Apart At_54_p97 _) := Lib.hid (apart_app (Apart.symm Dt_56_t_50_p96.out) (fun a_ ha_ => (own_lt Ot_56_p96.out a_ ha_).2) Yt_54_p97.out)
                                 have kx_10_0__92_p96_p97 := cell_other kx_10_0__92_p96 Gt_54_p97.out Dt_50_x_10_p83.out
                                 have kx_10_1__93_p96_p97 := cell_other kx_10_1__93_p96 Gt_54_p97.out Dt_50_x_10_p83.out
                                 have kx_10_2__94_p96_p97 := cell_other kx_10_2__94_p96 Gt_54_p97.out Dt_50_x_10_p83.out
                                 have kx_10_3__95_p96_p97 := cell_other kx_10_3__95_p96 Gt_54_p97.out Dt_50_x_10_p83.out
                                 have Olist_3l0_p83_p96_p97 := Lib.hid (own_other Olist_3l0_p83_p96.out Gt_54_p97.out Dt_50_list_3l0_p83.out)
                                 have Ot_56_p96_p97 := Lib.hid (own_other Ot_56_p96.out Gt_54_p97.out (Apart.symm Dt_56_t_50_p96.out))
                                 have Kq2_0_p83_p96_p97 := Lib.hid (Go.Proofs.Ythkaeighfjadlaa.GoC.cur_otherO Kq2_0_p83_p96.out Gt_54_p97.out Dt_50_c0_p83.out L0 Ot_50_p83_p96.out))
                              | (have hst_57_p98 := HBwt_54_p97.out.size
                                 have h1t_57_p98 : t_54.length + 1 ≤ maxLen := by unfold maxLen; omega
                                 have h2t_57_p98 : (t_54.length + 1) * 32 ≤ 140737488355328 := by omega
                                 have h3t_57_p98 := Ot_56_p96_p97.out.cells rfl
                                 refine Go.Proofs.Ythkaeighfjadlaa.GoH.step_append_own (w := wt_54_p97) rfl (.tmp 56) (.tmp 58) 24 rfl w.heap.size 93 i0_93 (.agg #[.int .i64 0, .int .i64 0, .int .i64 0, .int .i64 0]) 4 32 Try.underlying24 hi_93 hz0_93 hz1_93 hz2_93 rfl (by decide) At_54_p97 ct_54_p97 t_54.length _ rfl Pt_54_p97.out ⟨w_t_50_p83.heap.size, 0, none⟩ 1 [.int .i64 t_9_leave, .int .i64 t_9_from_, .int .i64 t_9_to_, .int .i64 t_9_arrive] rfl rfl h3t_57_p98 (one_cells rfl) h1t_57_p98 h2t_57_p98 hst_57_p98 ?_
                                 intro vt_57_p98 wt_57_p98 ot_57_p98 gt_57_p98 yt_57_p98
                                 obtain ⟨qt_57_p98, ct_57_p98, rfl, pt_57_p98⟩ := own_push hht_57.out (Go.Proofs.Ythkaeighfjadlaa.PMail.flat_snoc _ _) rfl ot_57_p98
                                 have Pt_57_p98 := Lib.hid pt_57_p98
                                 have Yt_57_p98 := Lib.hid yt_57_p98
                                 have Gt_57_p98 := Lib.hid gt_57_p98
                                 have HBwt_57_p98 := Lib.hid (Go.Proofs.Ythkaeighfjadlaa.GoC.grown_new HBwt_54_p97.out Gt_57_p98.out (Go.Proofs.Ythkaeighfjadlaa.GoC.own_ge Pt_54_p97.out))
                                 have Dt_57_list_3l0_p98 : Hid (Apart (some ⟨qt_57_p98, 0, none⟩) _) := Lib.hid (apart_app Dt_54_list_3l0_p97.out (fun a_ ha_ => (own_lt Olist_3l0_p83_p96_p97.out a_ ha_).2) Yt_57_p98.out)
                                 have Dt_57_c0_p98 : Hid (Apart (some ⟨qt_57_p98, 0, none⟩) _) := Lib.hid (apart_app Dt_54_c0_p97.out (fun a_ ha_ => by cases ha_; exact (Go.Proofs.Ythkaeighfjadlaa.GoC.cur_lt Kq2_0_p83_p96_p97.out).2) Yt_57_p98.out)
                                 have Dt_57_x_10_p98 : Hid (Apart (some ⟨qt_57_p98, 0, none⟩) _) := Lib.hid (apart_app Dt_54_x_10_p97.out (fun a_ ha_ => by cases ha_; exact cell_lt kx_10_0__92_p96_p97) Yt_57_p98.out)
                                 have Dt_57_t_56_p98 : Hid (Apart (some ⟨qt_57_p98, 0, none⟩) _) := Lib.hid (apart_app Dt_54_t_56_p97.out (fun a_ ha_ => (own_lt Ot_56_p96_p97.out a_ ha_).2) Yt_57_p98.out)
                                 have kx_10_0__92_p96_p97_p98 := cell_other kx_10_0__92_p96_p97 Gt_57_p98.out Dt_54_x_10_p97.out
                                 have kx_10_1__93_p96_p97_p98 := cell_other kx_10_1__93_p96_p97 Gt_57_p98.out Dt_54_x_10_p97.out
                                 have kx_10_2__94_p96_p97_p98 := cell_other kx_10_2__94_p96_p97 Gt_57_p98.out Dt_54_x_10_p97.out
                                 have kx_10_3__95_p96_p97_p98 := cell_other kx_10_3__95_p96_p97 Gt_57_p98.out Dt_54_x_10_p97.out
                                 have Olist_3l0_p83_p96_p97_p98 := Lib.hid (own_other Olist_3l0_p83_p96_p97.out Gt_57_p98.out Dt_54_list_3l0_p97.out)
                                 have Ot_56_p96_p97_p98 := Lib.hid (own_other Ot_56_p96_p97.out Gt_57_p98.out Dt_54_t_56_p97.out)
                                 have Kq2_0_p83_p96_p97_p98 := Lib.hid (Go.Proofs.Ythkaeighfjadlaa.GoC.cur_otherO Kq2_0_p83_p96_p97.out Gt_57_p98.out Dt_54_c0_p97.out L0 Pt_54_p97.out))
                              | (have hst_61_p99 := HBwt_57_p98.out.size
                                 have Ct_61_p99 := Lib.hid ((Mt_60_p78.out _ Olist_3l0_p83_p96_p97_p98.out))
                                 have h1t_61_p99 : t_57.length + t_60.length ≤ maxLen := by have h_ := hlt_61; unfold maxLen; omega
                                 have h2t_61_p99 : (t_57.length + t_60.length) * 32 ≤ 140737488355328 := by have h_ := hlt_61; omega
                                 refine Go.Proofs.Ythkaeighfjadlaa.GoH.step_spread_own (w := wt_57_p98) rfl (.tmp 59) (.tmp 62) 24 rfl w.heap.size 93 i0_93 (.agg #[.int .i64 0, .int .i64 0, .int .i64 0, .int .i64 0]) 4 32 Try.underlying24 hi_93 hz0_93 hz1_93 hz2_93 rfl (by decide) (some ⟨qt_57_p98, 0, none⟩) ct_57_p98 t_57.length _ rfl Pt_57_p98.out At_60_p78 t_60.length ct_60_p78 (Go.Proofs.Ythkaeighfjadlaa.PMail.flat t_60) rfl Qt_60_p78.out Ct_61_p99.out (fun u hu => by obtain ⟨y_, _, hy_⟩ := List.mem_flatMap.1 hu; simp only [Go.Proofs.Ythkaeighfjadlaa.PMail.Mail.cells, List.mem_cons, List.not_mem_nil, or_false] at hy_; rcases hy_ with rfl | rfl | rfl | rfl <;> rfl) h1t_61_p99 h2t_61_p99 hst_61_p99 ?_
                                 intro vt_61_p99 wt_61_p99 ot_61_p99 gt_61_p99 yt_61_p99
                                 obtain ⟨At_61_p99, ct_61_p99, rfl, pt_61_p99⟩ := own_pushS (f := Go.Proofs.Ythkaeighfjadlaa.PMail.flat) hht_61.out (by simp [Go.Proofs.Ythkaeighfjadlaa.PMail.flat]) rfl ot_61_p99
                                 have Pt_61_p99 := Lib.hid pt_61_p99
                                 have Yt_61_p99 := Lib.hid yt_61_p99
                                 have Gt_61_p99 := Lib.hid gt_61_p99
                                 have HBwt_61_p99 := Lib.hid (Go.Proofs.Ythkaeighfjadlaa.GoC.grown_new HBwt_57_p98.out Gt_61_p99.out (Go.Proofs.Ythkaeighfjadlaa.GoC.own_ge Pt_57_p98.out))
                                 have Dt_61_list_3l0_p99 : Hid (Apart At_61_p99 _) := Lib.hid (apart_app Dt_57_list_3l0_p98.out (fun a_ ha_ => (own_lt Olist_3l0_p83_p96_p97_p98.out a_ ha_).2) Yt_61_p99.out)
                                 have Dt_61_c0_p99 : Hid (Apart At_61_p99 _) := Lib.hid (apart_app Dt_57_c0_p98.out (fun a_ ha_ => by cases ha_; exact (Go.Proofs.Ythkaeighfjadlaa.GoC.cur_lt Kq2_0_p83_p96_p97_p98.out).2) Yt_61_p99.out)
                                 have Dt_61_x_10_p99 : Hid (Apart At_61_p99 _) := Lib.hid (apart_app Dt_57_x_10_p98.out (fun a_ ha_ => by cases ha_; exact cell_lt kx_10_0__92_p96_p97_p98) Yt_61_p99.out)
                                 have kx_10_0__92_p96_p97_p98_p99 := cell_other kx_10_0__92_p96_p97_p98 Gt_61_p99.out Dt_57_x_10_p98.out
                                 have kx_10_1__93_p96_p97_p98_p99 := cell_other kx_10_1__93_p96_p97_p98 Gt_61_p99.out Dt_57_x_10_p98.out
                                 have kx_10_2__94_p96_p97_p98_p99 := cell_other kx_10_2__94_p96_p97_p98 Gt_61_p99.out Dt_57_x_10_p98.out
                                 have kx_10_3__95_p96_p97_p98_p99 := cell_other kx_10_3__95_p96_p97_p98 Gt_61_p99.out Dt_57_x_10_p98.out
                                 have Olist_3l0_p83_p96_p97_p98_p99 := Lib.hid (own_other Olist_3l0_p83_p96_p97_p98.out Gt_61_p99.out Dt_57_list_3l0_p98.out)
                                 have Kq2_0_p83_p96_p97_p98_p99 := Lib.hid (Go.Proofs.Ythkaeighfjadlaa.GoC.cur_otherO Kq2_0_p83_p96_p97_p98.out Gt_61_p99.out Dt_57_c0_p98.out L0 Pt_57_p98.out))
                              | (have hst_54_p110 := HBw_t_50_p109.out.size
                                 have Ct_54_p110 := Lib.hid ((Mt_53_p77.out _ Olist_3l0_p104_p109.out))
                                 have h1t_54_p110 : 0 + t_53.length ≤ maxLen := by have h_ := hlt_54; simp only [List.length_nil] at h_; unfold maxLen; omega
                                 have h2t_54_p110 : (0 + t_53.length) * 32 ≤ 140737488355328 := by have h_ := hlt_54; simp only [List.length_nil] at h_; omega
                                 refine Go.Proofs.Ythkaeighfjadlaa.GoH.step_spread_own (w := w_t_50_p109) rfl (.tmp 52) (.tmp 55) 24 rfl w.heap.size 93 i0_93 (.agg #[.int .i64 0, .int .i64 0, .int .i64 0, .int .i64 0]) 4 32 Try.underlying24 hi_93 hz0_93 hz1_93 hz2_93 rfl (by decide) (some ⟨w_t_56_p104.heap.size, 0, none⟩) 0 0 _ rfl Ot_50_p109.out At_53_p77 t_53.length ct_53_p77 (Go.Proofs.Ythkaeighfjadlaa.PMail.flat t_53) rfl Qt_53_p77.out Ct_54_p110.out (fun u hu => by obtain ⟨y_, _, hy_⟩ := List.mem_flatMap.1 hu; simp only [Go.Proofs.Ythkaeighfjadlaa.PMail.Mail.cells, List.mem_cons, List.not_mem_nil, or_false] at hy_; rcases hy_ with rfl | rfl | rfl | rfl <;> rfl) h1t_54_p110 h2t_54_p110 hst_54_p110 ?_
                                 intro vt_54_p110 wt_54_p110 ot_54_p110 gt_54_p110 yt_54_p110
                                 obtain ⟨At_54_p110, ct_54_p110, rfl, pt_54_p110⟩ := own_pushS (f := Go.Proofs.Ythkaeighfjadlaa.PMail.flat) hht_54.out (by simp [Go.Proofs.Ythkaeighfjadlaa.PMail.flat]) rfl ot_54_p110
                                 have Pt_54_p110 := Lib.hid pt_54_p110
                                 have Yt_54_p110 := Lib.hid yt_54_p110
                                 have Gt_54_p110 := Lib.hid gt_54_p110
                                 have HBwt_54_p110 := Lib.hid (Go.Proofs.Ythkaeighfjadlaa.GoC.grown_new HBw_t_50_p109.out Gt_54_p110.out (Go.Proofs.Ythkaeighfjadlaa.GoC.own_ge Ot_50_p109.out))
                                 have Dt_54_list_3l0_p110 : Hid (Apart At_54_p110 _) := Lib.hid (apart_app Dt_50_list_3l0_p109.out (fun a_ ha_ => (own_lt Olist_3l0_p104_p109.out a_ ha_).2) Yt_54_p110.out)
                                 have Dt_54_t_56_p110 : Hid (Apart At_54_p110 _) := Lib.hid (apart_app Dt_50_t_56_p109.out (fun a_ ha_ => (own_lt Ot_56_p104_p109.out a_ ha_).2) Yt_54_p110.out)
                                 have Dt_54_c0_p110 : Hid (Apart At_54_p110 _) := Lib.hid (apart_app Dt_50_c0_p109.out (fun a_ ha_ => by cases ha_; exact (Go.Proofs.Ythkaeighfjadlaa.GoC.cur_lt Kq2_0_p104_p109.out).2) Yt_54_p110.out)
                                 have Dt_54_x_10_p110 : Hid (Apart At_54_p110 _) := Lib.hid (apart_app Dt_50_x_10_p109.out (fun a_ ha_ => by cases ha_; exact cell_lt kx_10_0__105_p109) Yt_54_p110.out)
                                 have kx_10_0__105_p109_p110 := cell_other kx_10_0__105_p109 Gt_54_p110.out Dt_50_x_10_p109.out
                                 have kx_10_1__106_p109_p110 := cell_other kx_10_1__106_p109 Gt_54_p110.out Dt_50_x_10_p109.out
                                 have kx_10_2__107_p109_p110 := cell_other kx_10_2__107_p109 Gt_54_p110.out Dt_50_x_10_p109.out
                                 have kx_10_3__108_p109_p110 := cell_other kx_10_3__108_p109 Gt_54_p110.out Dt_50_x_10_p109.out
                                 have Olist_3l0_p104_p109_p110 := Lib.hid (own_other Olist_3l0_p104_p109.out Gt_54_p110.out Dt_50_list_3l0_p109.out)
                                 have Ot_56_p104_p109_p110 := Lib.hid (own_other Ot_56_p104_p109.out Gt_54_p110.out Dt_50_t_56_p109.out)
                                 have Kq2_0_p104_p109_p110 := Lib.hid (Go.Proofs.Ythkaeighfjadlaa.GoC.cur_otherO Kq2_0_p104_p109.out Gt_54_p110.out Dt_50_c0_p109.out L0 Ot_50_p109.out))
                              | (have hst_57_p111 := HBwt_54_p110.out.size
                                 have h1t_57_p111 : t_54.length + 1 ≤ maxLen := by unfold maxLen; omega
                                 have h2t_57_p111 : (t_54.length + 1) * 32 ≤ 140737488355328 := by omega
                                 have h3t_57_p111 := Ot_56_p104_p109_p110.out.cells rfl
                                 refine Go.Proofs.Ythkaeighfjadlaa.GoH.step_append_own (w := wt_54_p110) rfl (.tmp 56) (.tmp 58) 24 rfl w.heap.size 93 i0_93 (.agg #[.int .i64 0, .int .i64 0, .int .i64 0, .int .i64 0]) 4 32 Try.underlying24 hi_93 hz0_93 hz1_93 hz2_93 rfl (by decide) At_54_p110 ct_54_p110 t_54.length _ rfl Pt_54_p110.out ⟨wq2.heap.size, 0, none⟩ 1 [.int .i64 t_9_leave, .int .i64 t_9_from_, .int .i64 t_9_to_, .int .i64 t_9_arrive] rfl rfl h3t_57_p111 (one_cells rfl) h1t_57_p111 h2t_57_p111 hst_57_p111 ?_
                                 intro vt_57_p111 wt_57_p111 ot_57_p111 gt_57_p111 yt_57_p111
                                 obtain ⟨qt_57_p111, ct_57_p111, rfl, pt_57_p111⟩ := own_push hht_57.out (Go.Proofs.Ythkaeighfjadlaa.PMail.flat_snoc _ _) rfl ot_57_p111
                                 have Pt_57_p111 := Lib.hid pt_57_p111
                                 have Yt_57_p111 := Lib.hid yt_57_p111
                                 have Gt_57_p111 := Lib.hid gt_57_p111
                                 have HBwt_57_p111 := Lib.hid (Go.Proofs.Ythkaeighfjadlaa.GoC.grown_new HBwt_54_p110.out Gt_57_p111.out (Go.Proofs.Ythkaeighfjadlaa.GoC.own_ge Pt_54_p110.out))
                                 have Dt_57_list_3l0_p111 : Hid (Apart (some ⟨qt_57_p111, 0, none⟩) _) := Lib.hid (apart_app Dt_54_list_3l0_p110.out (fun a_ ha_ => (own_lt Olist_3l0_p104_p109_p110.out a_ ha_).2) Yt_57_p111.out)
                                 have Dt_57_t_56_p111 : Hid (Apart (some ⟨qt_57_p111, 0, none⟩) _) := Lib.hid (apart_app Dt_54_t_56_p110.out (fun a_ ha_ => (own_lt Ot_56_p104_p109_p110.out a_ ha_).2) Yt_57_p111.out)
                                 have Dt_57_c0_p111 : Hid (Apart (some ⟨qt_57_p111, 0, none⟩) _) := Lib.hid (apart_app Dt_54_c0_p110.out (fun a_ ha_ => by cases ha_; exact (Go.Proofs.Ythkaeighfjadlaa.GoC.cur_lt Kq2_0_p104_p109_p110.out).2) Yt_57_p111.out)
                                 have Dt_57_x_10_p111 : Hid (Apart (some ⟨qt_57_p111, 0, none⟩) _) := Lib.hid (apart_app Dt_54_x_10_p110.out (fun a_ ha_ => by cases ha_; exact cell_lt kx_10_0__105_p109_p110) Yt_57_p111.out)
                                 have kx_10_0__105_p109_p110_p111 := cell_other kx_10_0__105_p109_p110 Gt_57_p111.out Dt_54_x_10_p110.out
                                 have kx_10_1__106_p109_p110_p111 := cell_other kx_10_1__106_p109_p110 Gt_57_p111.out Dt_54_x_10_p110.out
                                 have kx_10_2__107_p109_p110_p111 := cell_other kx_10_2__107_p109_p110 Gt_57_p111.out Dt_54_x_10_p110.out
                                 have kx_10_3__108_p109_p110_p111 := cell_other kx_10_3__108_p109_p110 Gt_57_p111.out Dt_54_x_10_p110.out
                                 have Olist_3l0_p104_p109_p110_p111 := Lib.hid (own_other Olist_3l0_p104_p109_p110.out Gt_57_p111.out Dt_54_list_3l0_p110.out)
                                 have Ot_56_p104_p109_p110_p111 := Lib.hid (own_other Ot_56_p104_p109_p110.out Gt_57_p111.out Dt_54_t_56_p110.out)
                                 have Kq2_0_p104_p109_p110_p111 := Lib.hid (Go.Proofs.Ythkaeighfjadlaa.GoC.cur_otherO Kq2_0_p104_p109_p110.out Gt_57_p111.out Dt_54_c0_p110.out L0 Pt_54_p110.out))
                              | (have hst_61_p112 := HBwt_57_p111.out.size
                                 have Ct_61_p112 := Lib.hid ((Mt_60_p78.out _ Olist_3l0_p104_p109_p110_p111.out))
                                 have h1t_61_p112 : t_57.length + t_60.length ≤ maxLen := by have h_ := hlt_61; unfold maxLen; omega
                                 have h2t_61_p112 : (t_57.length + t_60.length) * 32 ≤ 140737488355328 := by have h_ := hlt_61; omega
                                 refine Go.Proofs.Ythkaeighfjadlaa.GoH.step_spread_own (w := wt_57_p111) rfl (.tmp 59) (.tmp 62) 24 rfl w.heap.size 93 i0_93 (.agg #[.int .i64 0, .int .i64 0, .int .i64 0, .int .i64 0]) 4 32 Try.underlying24 hi_93 hz0_93 hz1_93 hz2_93 rfl (by decide) (some ⟨qt_57_p111, 0, none⟩) ct_57_p111 t_57.length _ rfl Pt_57_p111.out At_60_p78 t_60.length ct_60_p78 (Go.Proofs.Ythkaeighfjadlaa.PMail.flat t_60) rfl Qt_60_p78.out Ct_61_p112.out (fun u hu => by obtain ⟨y_, _, hy_⟩ := List.mem_flatMap.1 hu; simp only [Go.Proofs.Ythkaeighfjadlaa.PMail.Mail.cells, List.mem_cons, List.not_mem_nil, or_false] at hy_; rcases hy_ with rfl | rfl | rfl | rfl <;> rfl) h1t_61_p112 h2t_61_p112 hst_61_p112 ?_
                                 intro vt_61_p112 wt_61_p112 ot_61_p112 gt_61_p112 yt_61_p112
                                 obtain ⟨At_61_p112, ct_61_p112, rfl, pt_61_p112⟩ := own_pushS (f := Go.Proofs.Ythkaeighfjadlaa.PMail.flat) hht_61.out (by simp [Go.Proofs.Ythkaeighfjadlaa.PMail.flat]) rfl ot_61_p112
                                 have Pt_61_p112 := Lib.hid pt_61_p112
                                 have Yt_61_p112 := Lib.hid yt_61_p112
                                 have Gt_61_p112 := Lib.hid gt_61_p112
                                 have HBwt_61_p112 := Lib.hid (Go.Proofs.Ythkaeighfjadlaa.GoC.grown_new HBwt_57_p111.out Gt_61_p112.out (Go.Proofs.Ythkaeighfjadlaa.GoC.own_ge Pt_57_p111.out))
                                 have Dt_61_list_3l0_p112 : Hid (Apart At_61_p112 _) := Lib.hid (apart_app Dt_57_list_3l0_p111.out (fun a_ ha_ => (own_lt Olist_3l0_p104_p109_p110_p111.out a_ ha_).2) Yt_61_p112.out)
                                 have Dt_61_c0_p112 : Hid (Apart At_61_p112 _) := Lib.hid (apart_app Dt_57_c0_p111.out (fun a_ ha_ => by cases ha_; exact (Go.Proofs.Ythkaeighfjadlaa.GoC.cur_lt Kq2_0_p104_p109_p110_p111.out).2) Yt_61_p112.out)
                                 have Dt_61_x_10_p112 : Hid (Apart At_61_p112 _) := Lib.hid (apart_app Dt_57_x_10_p111.out (fun a_ ha_ => by cases ha_; exact cell_lt kx_10_0__105_p109_p110_p111) Yt_61_p112.out)
                                 have kx_10_0__105_p109_p110_p111_p112 := cell_other kx_10_0__105_p109_p110_p111 Gt_61_p112.out Dt_57_x_10_p111.out
                                 have kx_10_1__106_p109_p110_p111_p112 := cell_other kx_10_1__106_p109_p110_p111 Gt_61_p112.out Dt_57_x_10_p111.out
                                 have kx_10_2__107_p109_p110_p111_p112 := cell_other kx_10_2__107_p109_p110_p111 Gt_61_p112.out Dt_57_x_10_p111.out
                                 have kx_10_3__108_p109_p110_p111_p112 := cell_other kx_10_3__108_p109_p110_p111 Gt_61_p112.out Dt_57_x_10_p111.out
                                 have Olist_3l0_p104_p109_p110_p111_p112 := Lib.hid (own_other Olist_3l0_p104_p109_p110_p111.out Gt_61_p112.out Dt_57_list_3l0_p111.out)
                                 have Kq2_0_p104_p109_p110_p111_p112 := Lib.hid (Go.Proofs.Ythkaeighfjadlaa.GoC.cur_otherO Kq2_0_p104_p109_p110_p111.out Gt_61_p112.out Dt_57_c0_p111.out L0 Pt_57_p111.out)))
                        · skip
                          replace H := let_hid H
                          obtain ⟨t_64, ht_64, H⟩ := H
                          replace H := app_hid H
                          go_wp2_with fail
                          go_roundg m0
                          case measure => omega
                          case rel => exact ⟨_, _, _, _, _, rfl, rfl, H, HBwt_61_p91, Pt_61_p91, Lib.hid Dt_61_c0_p91.out, Kq2_0_p83_p84_p89_p90_p91⟩
                        · skip
                          replace H := let_hid H
                          obtain ⟨t_64, ht_64, H⟩ := H
                          replace H := app_hid H
                          go_wp2_with fail
                          go_roundg m0
                          case measure => omega
                          case rel => exact ⟨_, _, _, _, _, rfl, rfl, H, HBwt_61_p99, Pt_61_p99, Lib.hid Dt_61_c0_p99.out, Kq2_0_p83_p96_p97_p98_p99⟩
                        · skip
                          replace H := let_hid H
                          obtain ⟨t_64, ht_64, H⟩ := H
                          replace H := app_hid H
                          go_wp2_with fail
                          go_roundg m0
                          case measure => omega
                          case rel => exact ⟨_, _, _, _, _, rfl, rfl, H, HBwt_61_p112, Pt_61_p112, Lib.hid Dt_61_c0_p112.out, Kq2_0_p104_p109_p110_p111_p112⟩
                  | true =>
                    replace H := ite_t H
                    replace H := let_hid H
                    obtain ⟨t_37, ht_37, H⟩ := H
                    replace H := app_hid H
                    go_wp2_with fail
                    go_roundg m1
                    case measure => omega
                    case rel => exact ⟨_, rfl, H, HBwq1, kx_10_0, kx_10_1, kx_10_2, kx_10_3, Olist_3l0, Kq1_0⟩
          | true =>
            replace H := ite_t H
            replace H := let_hid H
            obtain ⟨t_64, ht_64, H⟩ := H
            replace H := app_hid H
            go_wp2_with fail
            go_roundg m0
            case measure => omega
            case rel => exact ⟨_, _, _, _, _, rfl, rfl, H, HBwq0, Olist_3l0, Lib.hid Dlist_3l0_c0.out, Kq0_0⟩
end Go.Proofs.Ythkaeighfjadlaa.GsL1CurTimetable

