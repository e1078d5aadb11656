/- The texts on which the proof of FnMails stands, one behind the other (2 of 5). No condition of their own. -/
import Derived.Test.YtfjcibkgbalkaaaDoorChecked
import Derived.Test.YtfjcibkgbalkaaaDoorFnMailsP1
import Derived.WalkKit
import Derived.Laws.StructEq
import Derived.ChangeKeysEq
import Derived.WalkSpells
import Derived.WalkLawsBesides
import Derived.BigQuiet
import Derived.OwnWalk
import Derived.Deep.LoopGhost
import Derived.Deep.QuietTactic
import Derived.IntWalk
import Derived.Lib.QuietBelow
import Derived.Deep.DeepCutAuto
import Derived.Deep.RegionHeld3
import Derived.ScopeJumps
import Derived.StillTailTactics
/- (*loop.example/g01062/spec.l1Cur).timetable as a plain function, and the contract of the program's: where the plain one has an answer, the program has it. Conditions: slices read as lists. -/
namespace Go.Proofs.YtfjcibkgbalkaaaDoor.GsL1CurTimetable
set_option linter.unusedVariables false
set_option linter.unusedSimpArgs false
open Go.RowKit
open Go.Proofs.YtfjcibkgbalkaaaDoor.Rowed Go.Proofs.YtfjcibkgbalkaaaDoor.Turn Go.Proofs.YtfjcibkgbalkaaaDoor.Aid Go.Proofs.YtfjcibkgbalkaaaDoor.GoP Go.Proofs.YtfjcibkgbalkaaaDoor.GoM

def q1 (nx1 : (Int) → Option ((List Go.Proofs.YtfjcibkgbalkaaaDoor.PMail.Mail) × Go.Proofs.YtfjcibkgbalkaaaDoor.GoC.Tape)) (bk1 : (Int) → Option ((List Go.Proofs.YtfjcibkgbalkaaaDoor.PMail.Mail) × Go.Proofs.YtfjcibkgbalkaaaDoor.GoC.Tape)) (k_6l1 : Int) (s : Bool) : Option ((List Go.Proofs.YtfjcibkgbalkaaaDoor.PMail.Mail) × Go.Proofs.YtfjcibkgbalkaaaDoor.GoC.Tape) :=
  letK s fun t_38q1 =>
  iteK t_38q1
  (letK (IntKind.i64.wrap (k_6l1 - 1)) fun (t_37 : Int) =>
  appK nx1 (t_37))
  (appK bk1 (k_6l1))

def l1 (list_3l0 : (List Go.Proofs.YtfjcibkgbalkaaaDoor.PMail.Mail)) (t_9_leave : Int) (t_9_from_ : Int) (t_9_to_ : Int) (t_9_arrive : Int) (s : Int) (nx1 bk1 : Int → Option ((List Go.Proofs.YtfjcibkgbalkaaaDoor.PMail.Mail) × Go.Proofs.YtfjcibkgbalkaaaDoor.GoC.Tape)) : Option ((List Go.Proofs.YtfjcibkgbalkaaaDoor.PMail.Mail) × Go.Proofs.YtfjcibkgbalkaaaDoor.GoC.Tape) :=
  letK s fun k_6l1 =>
  letK (decide (0 < k_6l1)) fun (t_24 : Bool) =>
  joinK (fun (t_35 : Bool) =>
  q1 nx1 bk1 k_6l1 (t_35)) fun jt_35 => iteK t_24 (letK (IntKind.i64.wrap (k_6l1 - 1)) fun (t_28 : Int) =>
  Option.bind (idx list_3l0 t_28) fun (yt_29 : Go.Proofs.YtfjcibkgbalkaaaDoor.PMail.Mail) =>
  unMail yt_29 fun (t_29_leave : Int) (t_29_from_ : Int) (t_29_to_ : Int) (t_29_arrive : Int) =>
  Option.bind (Go.Proofs.YtfjcibkgbalkaaaDoor.GsL9Code.P (Go.Proofs.YtfjcibkgbalkaaaDoor.PMail.Mail.mk t_29_leave t_29_from_ t_29_to_ t_29_arrive)) fun (t_31 : Int) =>
  Option.bind (Go.Proofs.YtfjcibkgbalkaaaDoor.GsL9Code.P (Go.Proofs.YtfjcibkgbalkaaaDoor.PMail.Mail.mk t_9_leave t_9_from_ t_9_to_ t_9_arrive)) fun (t_33 : Int) =>
  letK (decide (t_33 < t_31)) fun (t_34 : Bool) =>
  appK jt_35 t_34) (appK jt_35 false)

def q2 (nx0 : ((List Go.Proofs.YtfjcibkgbalkaaaDoor.PMail.Mail) × Int × Go.Proofs.YtfjcibkgbalkaaaDoor.GoC.Tape) → Option ((List Go.Proofs.YtfjcibkgbalkaaaDoor.PMail.Mail) × Go.Proofs.YtfjcibkgbalkaaaDoor.GoC.Tape)) (list_3l0 : (List Go.Proofs.YtfjcibkgbalkaaaDoor.PMail.Mail)) (n_4l0 : Int) (t_9_leave : Int) (t_9_from_ : Int) (t_9_to_ : Int) (t_9_arrive : Int) (c0_c0q0 : Go.Proofs.YtfjcibkgbalkaaaDoor.GoC.Tape) (k_6l1 : Int) (s : Bool) : Option ((List Go.Proofs.YtfjcibkgbalkaaaDoor.PMail.Mail) × Go.Proofs.YtfjcibkgbalkaaaDoor.GoC.Tape) :=
  letK s fun t_51q2 =>
  iteK t_51q2
  (guardK ((0 : Int) ≤ k_6l1 ∧ (k_6l1 : Int) ≤ (list_3l0.length : Int)) <|
  letK (List.take (Int.toNat k_6l1) list_3l0) fun (t_53 : (List Go.Proofs.YtfjcibkgbalkaaaDoor.PMail.Mail)) =>
  guardK (([] : List Go.Proofs.YtfjcibkgbalkaaaDoor.PMail.Mail).length + t_53.length ≤ 1099511627776) <|
  letK (([] : List Go.Proofs.YtfjcibkgbalkaaaDoor.PMail.Mail) ++ t_53) fun (t_54 : (List Go.Proofs.YtfjcibkgbalkaaaDoor.PMail.Mail)) =>
  guardK (t_54.length ≤ 1099511627776) <|
  letK (t_54 ++ [(Go.Proofs.YtfjcibkgbalkaaaDoor.PMail.Mail.mk t_9_leave t_9_from_ t_9_to_ t_9_arrive)]) fun (t_57 : (List Go.Proofs.YtfjcibkgbalkaaaDoor.PMail.Mail)) =>
  guardK ((0 : Int) ≤ k_6l1 ∧ (k_6l1 : Int) ≤ (list_3l0.length : Int)) <|
  letK (List.drop (Int.toNat k_6l1) list_3l0) fun (t_60 : (List Go.Proofs.YtfjcibkgbalkaaaDoor.PMail.Mail)) =>
  guardK (t_57.length + t_60.length ≤ 1099511627776) <|
  letK (t_57 ++ t_60) fun (t_61 : (List Go.Proofs.YtfjcibkgbalkaaaDoor.PMail.Mail)) =>
  letK (IntKind.i64.wrap (n_4l0 - 1)) fun (t_64 : Int) =>
  appK nx0 (t_61, t_64, c0_c0q0))
  (letK (IntKind.i64.wrap (n_4l0 - 1)) fun (t_64 : Int) =>
  appK nx0 (list_3l0, t_64, c0_c0q0))

def e1 (nx0 : ((List Go.Proofs.YtfjcibkgbalkaaaDoor.PMail.Mail) × Int × Go.Proofs.YtfjcibkgbalkaaaDoor.GoC.Tape) → Option ((List Go.Proofs.YtfjcibkgbalkaaaDoor.PMail.Mail) × Go.Proofs.YtfjcibkgbalkaaaDoor.GoC.Tape)) (list_3l0 : (List Go.Proofs.YtfjcibkgbalkaaaDoor.PMail.Mail)) (n_4l0 : Int) (t_9_leave : Int) (t_9_from_ : Int) (t_9_to_ : Int) (t_9_arrive : Int) (c0_c0q0 : Go.Proofs.YtfjcibkgbalkaaaDoor.GoC.Tape) (s : Int) : Option ((List Go.Proofs.YtfjcibkgbalkaaaDoor.PMail.Mail) × Go.Proofs.YtfjcibkgbalkaaaDoor.GoC.Tape) :=
  letK s fun k_6l1 =>
  letK (k_6l1 == 0) fun (t_40 : Bool) =>
  joinK (fun (t_49 : Bool) =>
  q2 nx0 list_3l0 n_4l0 t_9_leave t_9_from_ t_9_to_ t_9_arrive c0_c0q0 k_6l1 (t_49)) fun jt_49 => iteK t_40 (appK jt_49 true) (letK (IntKind.i64.wrap (k_6l1 - 1)) fun (t_44 : Int) =>
  Option.bind (idx list_3l0 t_44) fun (yt_45 : Go.Proofs.YtfjcibkgbalkaaaDoor.PMail.Mail) =>
  unMail yt_45 fun (t_45_leave : Int) (t_45_from_ : Int) (t_45_to_ : Int) (t_45_arrive : Int) =>
  letK (!(t_45_leave == t_9_leave && t_45_from_ == t_9_from_ && t_45_to_ == t_9_to_ && t_45_arrive == t_9_arrive)) fun (t_48 : Bool) =>
  appK jt_49 t_48)

def q0 (fuel : Nat) (nx0 : ((List Go.Proofs.YtfjcibkgbalkaaaDoor.PMail.Mail) × Int × Go.Proofs.YtfjcibkgbalkaaaDoor.GoC.Tape) → Option ((List Go.Proofs.YtfjcibkgbalkaaaDoor.PMail.Mail) × Go.Proofs.YtfjcibkgbalkaaaDoor.GoC.Tape)) (list_3l0 : (List Go.Proofs.YtfjcibkgbalkaaaDoor.PMail.Mail)) (n_4l0 : Int) (t_9_leave : Int) (t_9_from_ : Int) (t_9_to_ : Int) (t_9_arrive : Int) (s : Bool × Go.Proofs.YtfjcibkgbalkaaaDoor.GoC.Tape) : Option ((List Go.Proofs.YtfjcibkgbalkaaaDoor.PMail.Mail) × Go.Proofs.YtfjcibkgbalkaaaDoor.GoC.Tape) :=
  unp2 s fun t_23q0 c0_c0q0 =>
  iteK t_23q0
  (letK (IntKind.i64.wrap (n_4l0 - 1)) fun (t_64 : Int) =>
  appK nx0 (list_3l0, t_64, c0_c0q0))
  (loopK (l1 list_3l0 t_9_leave t_9_from_ t_9_to_ t_9_arrive) fuel ((list_3l0.length : Int)) (e1 nx0 list_3l0 n_4l0 t_9_leave t_9_from_ t_9_to_ t_9_arrive c0_c0q0))

def l0 (fuel : Nat) (s : (List Go.Proofs.YtfjcibkgbalkaaaDoor.PMail.Mail) × Int × Go.Proofs.YtfjcibkgbalkaaaDoor.GoC.Tape) (nx0 bk0 : (List Go.Proofs.YtfjcibkgbalkaaaDoor.PMail.Mail) × Int × Go.Proofs.YtfjcibkgbalkaaaDoor.GoC.Tape → Option ((List Go.Proofs.YtfjcibkgbalkaaaDoor.PMail.Mail) × Go.Proofs.YtfjcibkgbalkaaaDoor.GoC.Tape)) : Option ((List Go.Proofs.YtfjcibkgbalkaaaDoor.PMail.Mail) × Go.Proofs.YtfjcibkgbalkaaaDoor.GoC.Tape) :=
  unp3 s fun list_3l0 n_4l0 c0_c0l0 =>
  letK (decide (0 < n_4l0)) fun (t_7 : Bool) =>
  iteK t_7
  (bind2 (Go.Proofs.YtfjcibkgbalkaaaDoor.GsL1CurMail.P c0_c0l0) fun (t_9 : Go.Proofs.YtfjcibkgbalkaaaDoor.PMail.Mail) (t_9_tp : Go.Proofs.YtfjcibkgbalkaaaDoor.GoC.Tape) =>
  unMail t_9 fun (t_9_leave : Int) (t_9_from_ : Int) (t_9_to_ : Int) (t_9_arrive : Int) =>
  Option.bind (Go.Proofs.YtfjcibkgbalkaaaDoor.GsL9One.P (Go.Proofs.YtfjcibkgbalkaaaDoor.PMail.Mail.mk t_9_leave t_9_from_ t_9_to_ t_9_arrive)) fun (t_13 : Bool) =>
  letK (!t_13) fun (t_14 : Bool) =>
  joinK (fun (st_19 : Bool × Go.Proofs.YtfjcibkgbalkaaaDoor.GoC.Tape) => unp2 st_19 fun t_19 t_19_tp =>
  q0 fuel nx0 list_3l0 n_4l0 t_9_leave t_9_from_ t_9_to_ t_9_arrive (t_19, t_19_tp)) fun jt_19 => iteK t_14 (bind2 (Go.Proofs.YtfjcibkgbalkaaaDoor.GsL1CurOne.P t_9_tp 30) fun (t_17 : Bool) (t_17_tp : Go.Proofs.YtfjcibkgbalkaaaDoor.GoC.Tape) =>
  letK (!t_17) fun (t_18 : Bool) =>
  appK jt_19 (t_18, t_17_tp)) (appK jt_19 (false, t_9_tp)))
  (appK bk0 (list_3l0, n_4l0, c0_c0l0))

def l2  (s : (List Go.Proofs.YtfjcibkgbalkaaaDoor.PMail.Mail) × Go.Proofs.YtfjcibkgbalkaaaDoor.GoC.Tape) (nx2 bk2 : (List Go.Proofs.YtfjcibkgbalkaaaDoor.PMail.Mail) × Go.Proofs.YtfjcibkgbalkaaaDoor.GoC.Tape → Option ((List Go.Proofs.YtfjcibkgbalkaaaDoor.PMail.Mail) × Go.Proofs.YtfjcibkgbalkaaaDoor.GoC.Tape)) : Option ((List Go.Proofs.YtfjcibkgbalkaaaDoor.PMail.Mail) × Go.Proofs.YtfjcibkgbalkaaaDoor.GoC.Tape) :=
  unp2 s fun list_3l2 c0_c0l2 =>
  bind2 (Go.Proofs.YtfjcibkgbalkaaaDoor.GsL1CurPick.P c0_c0l2 2) fun (t_81 : Int) (t_81_tp : Go.Proofs.YtfjcibkgbalkaaaDoor.GoC.Tape) =>
  letK (IntKind.i64.wrap (20 + t_81)) fun (t_82 : Int) =>
  letK (decide ((list_3l2.length : Int) < t_82)) fun (t_83 : Bool) =>
  iteK t_83
  (letK (IntKind.i64.wrap (100 + (list_3l2.length : Int))) fun (t_87 : Int) =>
  letK (Int.tmod (list_3l2.length : Int) 3) fun (t_90 : Int) =>
  guardK (list_3l2.length ≤ 1099511627776) <|
  letK (list_3l2 ++ [(Go.Proofs.YtfjcibkgbalkaaaDoor.PMail.Mail.mk t_87 t_90 3 200)]) fun (t_93 : (List Go.Proofs.YtfjcibkgbalkaaaDoor.PMail.Mail)) =>
  appK nx2 (t_93, t_81_tp))
  (appK bk2 (list_3l2, t_81_tp))

def e2  (s : (List Go.Proofs.YtfjcibkgbalkaaaDoor.PMail.Mail) × Go.Proofs.YtfjcibkgbalkaaaDoor.GoC.Tape) : Option ((List Go.Proofs.YtfjcibkgbalkaaaDoor.PMail.Mail) × Go.Proofs.YtfjcibkgbalkaaaDoor.GoC.Tape) :=
  unp2 s fun list_3l2 c0_c0l2 =>
  some (list_3l2, c0_c0l2)

def e0 (fuel : Nat) (s : (List Go.Proofs.YtfjcibkgbalkaaaDoor.PMail.Mail) × Int × Go.Proofs.YtfjcibkgbalkaaaDoor.GoC.Tape) : Option ((List Go.Proofs.YtfjcibkgbalkaaaDoor.PMail.Mail) × Go.Proofs.YtfjcibkgbalkaaaDoor.GoC.Tape) :=
  unp3 s fun list_3l0 n_4l0 c0_c0l0 =>
  bind2 (Go.Proofs.YtfjcibkgbalkaaaDoor.GsL1CurPick.P c0_c0l0 32) fun (t_67 : Int) (t_67_tp : Go.Proofs.YtfjcibkgbalkaaaDoor.GoC.Tape) =>
  letK (t_67 == 0) fun (t_68 : Bool) =>
  iteK t_68
  (bind2 (Go.Proofs.YtfjcibkgbalkaaaDoor.GsL1CurMail.P t_67_tp) fun (t_72 : Go.Proofs.YtfjcibkgbalkaaaDoor.PMail.Mail) (t_72_tp : Go.Proofs.YtfjcibkgbalkaaaDoor.GoC.Tape) =>
  unMail t_72 fun (t_72_leave : Int) (t_72_from_ : Int) (t_72_to_ : Int) (t_72_arrive : Int) =>
  guardK (list_3l0.length ≤ 1099511627776) <|
  letK (list_3l0 ++ [(Go.Proofs.YtfjcibkgbalkaaaDoor.PMail.Mail.mk t_72_leave t_72_from_ t_72_to_ t_72_arrive)]) fun (t_74 : (List Go.Proofs.YtfjcibkgbalkaaaDoor.PMail.Mail)) =>
  some (t_74, t_72_tp))
  (letK (t_67 == 1) fun (t_76 : Bool) =>
  iteK t_76
  (loopK (l2 ) fuel (list_3l0, t_67_tp) (e2 ))
  (some (list_3l0, t_67_tp)))

def P (fuel : Nat) (c : Go.Proofs.YtfjcibkgbalkaaaDoor.GoC.Tape) : Option ((List Go.Proofs.YtfjcibkgbalkaaaDoor.PMail.Mail) × Go.Proofs.YtfjcibkgbalkaaaDoor.GoC.Tape) :=
  bind2 (Go.Proofs.YtfjcibkgbalkaaaDoor.GsL1CurPick.P c 10) fun (t_4 : Int) (t_4_tp : Go.Proofs.YtfjcibkgbalkaaaDoor.GoC.Tape) =>
  loopK (l0 fuel) fuel (([] : List Go.Proofs.YtfjcibkgbalkaaaDoor.PMail.Mail), t_4, t_4_tp) (e0 fuel)

set_option maxRecDepth 100000
theorem eqr_54 (x0 x1 x2 x3 y0 y1 y2 y3 : Int) : ∀ W, (Op.equalIn 10000 54 (.agg #[Value.int IntKind.i64 x0, Value.int IntKind.i64 x1, Value.int IntKind.i64 x2, Value.int IntKind.i64 x3]) (.agg #[Value.int IntKind.i64 y0, Value.int IntKind.i64 y1, Value.int IntKind.i64 y2, Value.int IntKind.i64 y3])).run Tryd.prog W = .ok (x0 == y0 && x1 == y1 && x2 == y2 && x3 == y3) W := by
  intro W
  rw [run_equalIn_agg W _ _ _ _ (by kernel_rfl) (by kernel_rfl)]
  obtain ⟨f, hf⟩ : ∃ f, (Tryd.prog.fieldsOf 54).toList = f := ⟨_, rfl⟩
  have : (Tryd.prog.fieldsOf 54).toList.map (fun f => (f.name, f.type, f.offset)) = [("Leave", 3, 0), ("From", 3, 1), ("To", 3, 2), ("Arrive", 3, 3)] := by kernel_rfl
  rw [hf] at this ⊢
  match f, this with
  | [f0, f1, f2, f3], h =>
    simp only [List.map_cons, List.map_nil, List.cons.injEq, Prod.mk.injEq, and_true] at h
    obtain ⟨⟨a0, b0, d0⟩, ⟨a1, b1, d1⟩, ⟨a2, b2, d2⟩, a3, b3, d3⟩ := h
    simp only [Op.eqFields, a0, b0, d0, a1, b1, d1, a2, b2, d2, a3, b3, d3]
    have p0 : ∀ (w : World) (x0 x1 x2 x3 : Int), (part 3 #[Value.int IntKind.i64 x0, Value.int IntKind.i64 x1, Value.int IntKind.i64 x2, Value.int IntKind.i64 x3] 0).run Tryd.prog w = .ok (.int .i64 x0) w := fun w x0 x1 x2 x3 => run_part_plain w (by kernel_rfl) rfl
    have p1 : ∀ (w : World) (x0 x1 x2 x3 : Int), (part 3 #[Value.int IntKind.i64 x0, Value.int IntKind.i64 x1, Value.int IntKind.i64 x2, Value.int IntKind.i64 x3] 1).run Tryd.prog w = .ok (.int .i64 x1) w := fun w x0 x1 x2 x3 => run_part_plain w (by kernel_rfl) rfl
    have p2 : ∀ (w : World) (x0 x1 x2 x3 : Int), (part 3 #[Value.int IntKind.i64 x0, Value.int IntKind.i64 x1, Value.int IntKind.i64 x2, Value.int IntKind.i64 x3] 2).run Tryd.prog w = .ok (.int .i64 x2) w := fun w x0 x1 x2 x3 => run_part_plain w (by kernel_rfl) rfl
    have p3 : ∀ (w : World) (x0 x1 x2 x3 : Int), (part 3 #[Value.int IntKind.i64 x0, Value.int IntKind.i64 x1, Value.int IntKind.i64 x2, Value.int IntKind.i64 x3] 3).run Tryd.prog w = .ok (.int .i64 x3) w := fun w x0 x1 x2 x3 => run_part_plain w (by kernel_rfl) rfl
    have e0 : ∀ (w : World) (d : Nat) (x y : Int), (Op.equalIn (d + 1) 3 (.int .i64 x) (.int .i64 y)).run Tryd.prog w = .ok (x == y) w := fun w d x y => run_equalIn_int w d 3 .i64 .i64 x y Tryd.underlying3
    have e1 : ∀ (w : World) (x y : Int), (Op.equalIn 9999 3 (.int .i64 x) (.int .i64 y)).run Tryd.prog w = .ok (x == y) w := fun w x y => e0 w 9998 x y
    rw [if_pos (by decide)]; rw [if_pos (by decide)]; rw [if_pos (by decide)]; rw [if_pos (by decide)]
    simp only [Sem.run_bind, p0, p1, p2, p3, e1, Result.andThen_ok, Sem.run_ite, Sem.run_pure]
    cases x0 == y0 <;> cases x1 == y1 <;> cases x2 == y2 <;> cases x3 == y3 <;> rfl
theorem eqla_54 (x0 x1 x2 x3 y0 y1 y2 y3 : Int) : ∀ W, (binOp .eql 54 (.agg #[Value.int IntKind.i64 x0, Value.int IntKind.i64 x1, Value.int IntKind.i64 x2, Value.int IntKind.i64 x3]) (.agg #[Value.int IntKind.i64 y0, Value.int IntKind.i64 y1, Value.int IntKind.i64 y2, Value.int IntKind.i64 y3])).run Tryd.prog W = .ok (.bool (x0 == y0 && x1 == y1 && x2 == y2 && x3 == y3)) W := by
  intro W
  rw [run_eql_struct, eqr_54]; rfl
theorem neqa_54 (x0 x1 x2 x3 y0 y1 y2 y3 : Int) : ∀ W, (binOp .neq 54 (.agg #[Value.int IntKind.i64 x0, Value.int IntKind.i64 x1, Value.int IntKind.i64 x2, Value.int IntKind.i64 x3]) (.agg #[Value.int IntKind.i64 y0, Value.int IntKind.i64 y1, Value.int IntKind.i64 y2, Value.int IntKind.i64 y3])).run Tryd.prog W = .ok (.bool (!(x0 == y0 && x1 == y1 && x2 == y2 && x3 == y3))) W := by
  intro W
  rw [run_neq_struct, eqr_54]; rfl

set_option maxRecDepth 100000 in
set_option maxHeartbeats 20000000 in
theorem C (fuel : Nat) (c : Go.Proofs.YtfjcibkgbalkaaaDoor.GoC.Tape)   (g0 : Nat) (Ac0 : Option Addr) (cc0 : Nat) (bc0 : Nat) (w : World)   (K0 : Hid (Go.Proofs.YtfjcibkgbalkaaaDoor.GoC.CurIs w bc0 g0 Ac0 cc0 c)) {r : (List Go.Proofs.YtfjcibkgbalkaaaDoor.PMail.Mail)} {t_ : Go.Proofs.YtfjcibkgbalkaaaDoor.GoC.Tape} (H : Hid (P fuel c = some (r, t_))) :
    Calls Tryd.prog 61 #[.pointer (some ⟨g0, 0, none⟩)] w (fun e w' => ∃ A_r c_r, e = .returned (.slice A_r r.length c_r) ∧ w'.ownsRow w.heap.size 54 4 (.slice A_r r.length c_r) r.length (Go.Proofs.YtfjcibkgbalkaaaDoor.PMail.flat r) ∧ Go.Proofs.YtfjcibkgbalkaaaDoor.GoC.CurIs w' bc0 g0 Ac0 cc0 t_ ∧ w.grownBy w' (Value.slice (some ⟨g0, 0, none⟩) 1 1).ownBlock) := by
  have HB := Lib.hid (Aid.grown_refl w (Value.slice (some ⟨g0, 0, none⟩) 1 1).ownBlock)
  unfold P at H
  have L0 : bc0 ≤ w.heap.size := by have := Go.Proofs.YtfjcibkgbalkaaaDoor.GoC.cur_lt K0.out; omega
  obtain ⟨i0_54, hi_54, hz0_54, hz1_54, hz2_54⟩ := Aid.info_parts (P := Tryd.prog) (T := 54) (z := .agg #[.int .i64 0, .int .i64 0, .int .i64 0, .int .i64 0]) (s := 4) (b := 32) (by kernel_rfl)
  go_enter Tryd.func61, Tryd.ntmps61
  obtain ⟨w_t_1, hw_t_1⟩ : ∃ x, w.alloc (.cells #[] 54) = x := ⟨_, rfl⟩
  have bw_t_1 : Below w.heap.size w w_t_1 := by rw [← hw_t_1]; exact (Below.refl _ _).alloc (Nat.le_refl _) _
  have Ot_1 : Hid (w_t_1.ownsRow w.heap.size 54 4 (.slice (some ⟨w.heap.size, 0, none⟩) 0 0) 0 []) := Lib.hid (by rw [← hw_t_1]; exact own_empty HB.out.size)
  have Dt_1_c0 := Lib.hid (Go.Proofs.YtfjcibkgbalkaaaDoor.GoC.apart_cur K0.out)
  have HBw_t_1 := Lib.hid (grown_below HB.out bw_t_1)
  replace K0 := Lib.hid (Go.Proofs.YtfjcibkgbalkaaaDoor.GoC.cur_below K0.out bw_t_1)
  clear bw_t_1
  replace H := bind2_hid H
  obtain ⟨t_4, t_4_tp, qt_4, H⟩ := H
  go_wp2_with fail
  go_at_call 77
  refine (Go.Proofs.YtfjcibkgbalkaaaDoor.GsL1CurPick.C (c) (10) (g0) (Ac0) (cc0) (bc0) _   K0 qt_4).mono ?_
  rintro e_t_4 wt_4 ⟨rfl, kt_4, gt_4⟩
  have Kt_4 := Lib.hid kt_4
  have Gt_4 : Hid (w_t_1.grownBy wt_4 (Value.slice (some ⟨g0, 0, none⟩) 1 1).ownBlock) := Lib.hid gt_4
  clear kt_4 gt_4
  have HBwt_4 := Lib.hid (Aid.grown_tr HBw_t_1.out Gt_4.out)
  replace Ot_1 := Lib.hid (own_other Ot_1.out Gt_4.out (Apart.symm Dt_1_c0.out))
  clear K0 Gt_4
  go_wp2_with fail
  go_loopg [3, 4] (fuel) (fun m_ v3_ v4_ wr => ∃ (list_3l0 : (List Go.Proofs.YtfjcibkgbalkaaaDoor.PMail.Mail)) (n_4l0 : Int) (c0_c0l0 : Go.Proofs.YtfjcibkgbalkaaaDoor.GoC.Tape) (Alist_3l0 : Option Addr) (clist_3l0 : Nat), v3_ = .slice Alist_3l0 list_3l0.length clist_3l0 ∧ v4_ = .int .i64 n_4l0 ∧ Hid (loopK (l0 fuel) m_ (list_3l0, n_4l0, c0_c0l0) (e0 fuel) = some (r, t_)) ∧ Hid (w.grownBy wr (Value.slice (some ⟨g0, 0, none⟩) 1 1).ownBlock) ∧ Hid (wr.ownsRow w.heap.size 54 4 (.slice Alist_3l0 list_3l0.length clist_3l0) list_3l0.length (Go.Proofs.YtfjcibkgbalkaaaDoor.PMail.flat list_3l0)) ∧ Hid (Apart Alist_3l0 (some ⟨g0, 0, none⟩)) ∧ Hid (Go.Proofs.YtfjcibkgbalkaaaDoor.GoC.CurIs wr bc0 g0 Ac0 cc0 c0_c0l0))
  case atStart => exact ⟨_, _, _, _, _, rfl, rfl, H, HBwt_4, Ot_1, Lib.hid Dt_1_c0.out, Kt_4⟩
  case round =>
    obtain ⟨list_3l0, n_4l0, c0_c0l0, Alist_3l0, clist_3l0, rfl, rfl, H, HBwr0, Olist_3l0, Dlist_3l0_c0, Kl0_0⟩ := hrel
    rename World => wr0
    cases gk with
    | zero => exact (loop_zero H).elim
    | succ m0 =>
      replace H := loop_succ H
      unfold l0 at H
      replace H := unp3_hid H
      replace H := let_hid H
      obtain ⟨t_7, ht_7, H⟩ := H
      cases t_7 with
      | false =>
        replace H := ite_f H
        replace H := app_hid H
        unfold e0 at H
        replace H := unp3_hid H
        replace H := bind2_hid H
        obtain ⟨t_67, t_67_tp, qt_67, H⟩ := H
        go_wp2_with fail
        go_at_call 77
        refine (Go.Proofs.YtfjcibkgbalkaaaDoor.GsL1CurPick.C (c0_c0l0) (32) (g0) (Ac0) (cc0) (bc0) _   Kl0_0 qt_67).mono ?_
        rintro e_t_67 wt_67 ⟨rfl, kt_67, gt_67⟩
        have Kt_67 := Lib.hid kt_67
        have Gt_67 : Hid (wr0.grownBy wt_67 (Value.slice (some ⟨g0, 0, none⟩) 1 1).ownBlock) := Lib.hid gt_67
        clear kt_67 gt_67
        have HBwt_67 := Lib.hid (Aid.grown_tr HBwr0.out Gt_67.out)
        replace Olist_3l0 := Lib.hid (own_other Olist_3l0.out Gt_67.out (Apart.symm Dlist_3l0_c0.out))
        clear Kl0_0 Gt_67
        replace H := let_hid H
        obtain ⟨t_68, ht_68, H⟩ := H
        cases t_68 with
        | false =>
          replace H := ite_f H
          replace H := let_hid H
          obtain ⟨t_76, ht_76, H⟩ := H
          cases t_76 with
          | false =>
            replace H := ite_f H
            cases ret_hid H
            go_wp2_with fail
            go_ret
            exact ⟨Alist_3l0, clist_3l0, rfl, Olist_3l0.out, Kt_67.out, HBwt_67.out⟩
          | true =>
            replace H := ite_t H
            go_wp2_with fail
            go_loopg [3] (fuel) (fun m_ v3_ wr => ∃ (list_3l2 : (List Go.Proofs.YtfjcibkgbalkaaaDoor.PMail.Mail)) (c0_c0l2 : Go.Proofs.YtfjcibkgbalkaaaDoor.GoC.Tape) (Alist_3l2 : Option Addr) (clist_3l2 : Nat), v3_ = .slice Alist_3l2 list_3l2.length clist_3l2 ∧ Hid (loopK (l2 ) m_ (list_3l2, c0_c0l2) (e2 ) = some (r, t_)) ∧ Hid (w.grownBy wr (Value.slice (some ⟨g0, 0, none⟩) 1 1).ownBlock) ∧ Hid (wr.ownsRow w.heap.size 54 4 (.slice Alist_3l2 list_3l2.length clist_3l2) list_3l2.length (Go.Proofs.YtfjcibkgbalkaaaDoor.PMail.flat list_3l2)) ∧ Hid (Apart Alist_3l2 (some ⟨g0, 0, none⟩)) ∧ Hid (Go.Proofs.YtfjcibkgbalkaaaDoor.GoC.CurIs wr bc0 g0 Ac0 cc0 c0_c0l2))
            case atStart => exact ⟨_, _, _, _, rfl, H, HBwt_67, Olist_3l0, Lib.hid Dlist_3l0_c0.out, Kt_67⟩
            case round =>
              obtain ⟨list_3l2, c0_c0l2, Alist_3l2, clist_3l2, rfl, H, HBwr2, Olist_3l2, Dlist_3l2_c0, Kl2_0⟩ := hrel
              rename World => wr2
              cases gk with
              | zero => exact (loop_zero H).elim
              | succ m2 =>
                replace H := loop_succ H
                unfold l2 at H
                replace H := unp2_hid H
                replace H := bind2_hid H
                obtain ⟨t_81, t_81_tp, qt_81, H⟩ := H
                go_wp2_with fail
                go_at_call 77
                refine (Go.Proofs.YtfjcibkgbalkaaaDoor.GsL1CurPick.C (c0_c0l2) (2) (g0) (Ac0) (cc0) (bc0) _   Kl2_0 qt_81).mono ?_
                rintro e_t_81 wt_81 ⟨rfl, kt_81, gt_81⟩
                have Kt_81 := Lib.hid kt_81
                have Gt_81 : Hid (wr2.grownBy wt_81 (Value.slice (some ⟨g0, 0, none⟩) 1 1).ownBlock) := Lib.hid gt_81
                clear kt_81 gt_81
                have HBwt_81 := Lib.hid (Aid.grown_tr HBwr2.out Gt_81.out)
                replace Olist_3l2 := Lib.hid (own_other Olist_3l2.out Gt_81.out (Apart.symm Dlist_3l2_c0.out))
                clear Kl2_0 Gt_81
                replace H := let_hid H
                obtain ⟨t_82, ht_82, H⟩ := H
                replace H := let_hid H
                obtain ⟨t_83, ht_83, H⟩ := H
                cases t_83 with
                | false =>
                  replace H := ite_f H
                  replace H := app_hid H
                  unfold e2 at H
                  replace H := unp2_hid H
                  cases ret_hid H
                  go_wp2_with fail
                  go_ret
                  exact ⟨Alist_3l2, clist_3l2, rfl, Olist_3l2.out, Kt_81.out, HBwt_81.out⟩
                | true =>
                  replace H := ite_t H
                  replace H := let_hid H
                  obtain ⟨t_87, ht_87, H⟩ := H
                  replace H := let_hid H
                  obtain ⟨t_90, ht_90, H⟩ := H
                  obtain ⟨w_t_92, hw_t_92⟩ : ∃ x, wt_81.alloc (.cells #[.int .i64 t_87, .int .i64 t_90, .int .i64 3, .int .i64 200] 54) = x := ⟨_, rfl⟩
                  have bw_t_92 : Below wt_81.heap.size wt_81 w_t_92 := by rw [← hw_t_92]; exact (Below.refl _ _).alloc (Nat.le_refl _) _
                  have HBw_t_92 := Lib.hid (grown_below HBwt_81.out bw_t_92)
                  replace Olist_3l2 := Lib.hid (own_below Olist_3l2.out bw_t_92)
                  replace Kt_81 := Lib.hid (Go.Proofs.YtfjcibkgbalkaaaDoor.GoC.cur_below Kt_81.out bw_t_92)
                  clear bw_t_92
                  replace H := guard_hid H
                  obtain ⟨hlt_93, H⟩ := H
                  replace H := let_hid H
                  obtain ⟨t_93, ht_93, H⟩ := H
                  have hht_93 := Lib.hid ht_93
                  clear ht_93
                  have hst_93 := HBw_t_92.out.size
                  go_wp2_with (at_builtin; refine wpList_append_own_at _ rfl _ _ 43 rfl w.heap.size 54 i0_54 (.agg #[.int .i64 0, .int .i64 0, .int .i64 0, .int .i64 0]) 4 32 Tryd.underlying43 hi_54 hz0_54 hz1_54 hz2_54 rfl (by decide) _ _ _ rfl Olist_3l2.out ⟨wt_81.heap.size, 0, none⟩ 1 1 [.int .i64 t_87, .int .i64 t_90, .int .i64 3, .int .i64 200] rfl rfl (news_new hw_t_92) (one_cells rfl) (by unfold maxLen; omega) (by omega) hst_93 ?_; intro vt_93 wt_93 ot_93 gt_93 zt_93 yt_93; clear zt_93; obtain ⟨qt_93, ct_93, rfl, pt_93⟩ := own_push hht_93.out (Go.Proofs.YtfjcibkgbalkaaaDoor.PMail.flat_snoc _ _) rfl ot_93; have Pt_93 := Lib.hid pt_93; have Yt_93 := Lib.hid yt_93; have Gt_93 := Lib.hid gt_93; clear ot_93 gt_93 pt_93 yt_93; refine stop_in ?_)
                  refine stop_out ?_
                  have HBwt_93 := Lib.hid (Go.Proofs.YtfjcibkgbalkaaaDoor.GoC.grown_new HBw_t_92.out Gt_93.out (Go.Proofs.YtfjcibkgbalkaaaDoor.GoC.own_ge Olist_3l2.out))
                  clear hst_93
                  have Dt_93_c0 : Hid (Apart (some ⟨qt_93, 0, none⟩) _) := Lib.hid (apart_app Dlist_3l2_c0.out (fun a_ ha_ => by cases ha_; exact (Go.Proofs.YtfjcibkgbalkaaaDoor.GoC.cur_lt Kt_81.out).2) Yt_93.out)
                  replace Kt_81 := Lib.hid (Go.Proofs.YtfjcibkgbalkaaaDoor.GoC.cur_otherO Kt_81.out Gt_93.out Dlist_3l2_c0.out L0 Olist_3l2.out)
                  clear Olist_3l2 Yt_93 Gt_93
                  replace H := app_hid H
                  go_wp2_with fail
                  go_roundg m2
                  case measure => omega
                  case rel => exact ⟨_, _, _, _, rfl, H, HBwt_93, Pt_93, Lib.hid Dt_93_c0.out, Kt_81⟩
        | true =>
          replace H := ite_t H
          replace H := bind2_hid H
          obtain ⟨t_72, t_72_tp, qt_72, H⟩ := H
          obtain ⟨t_72_leave, t_72_from_, t_72_to_, t_72_arrive⟩ := t_72
          replace H := unMail_hid H
          go_wp2_with fail
          go_at_call 72
          refine (Go.Proofs.YtfjcibkgbalkaaaDoor.GsL1CurMail.C (t_67_tp) (g0) (Ac0) (cc0) (bc0) _   Kt_67 qt_72).mono ?_
          rintro e_t_72 wt_72 ⟨rfl, kt_72, gt_72⟩
          unfold Go.Proofs.YtfjcibkgbalkaaaDoor.PMail.Mail.val
          have Kt_72 := Lib.hid kt_72
          have Gt_72 : Hid (wt_67.grownBy wt_72 (Value.slice (some ⟨g0, 0, none⟩) 1 1).ownBlock) := Lib.hid gt_72
          clear kt_72 gt_72
          have HBwt_72 := Lib.hid (Aid.grown_tr HBwt_67.out Gt_72.out)
          replace Olist_3l0 := Lib.hid (own_other Olist_3l0.out Gt_72.out (Apart.symm Dlist_3l0_c0.out))
          clear Kt_67 Gt_72
          obtain ⟨w_t_73, hw_t_73⟩ : ∃ x, wt_72.alloc (.cells #[.int .i64 t_72_leave, .int .i64 t_72_from_, .int .i64 t_72_to_, .int .i64 t_72_arrive] 54) = x := ⟨_, rfl⟩
          have bw_t_73 : Below wt_72.heap.size wt_72 w_t_73 := by rw [← hw_t_73]; exact (Below.refl _ _).alloc (Nat.le_refl _) _
          have HBw_t_73 := Lib.hid (grown_below HBwt_72.out bw_t_73)
          replace Olist_3l0 := Lib.hid (own_below Olist_3l0.out bw_t_73)
          replace Kt_72 := Lib.hid (Go.Proofs.YtfjcibkgbalkaaaDoor.GoC.cur_below Kt_72.out bw_t_73)
          clear bw_t_73
          replace H := guard_hid H
          obtain ⟨hlt_74, H⟩ := H
          replace H := let_hid H
          obtain ⟨t_74, ht_74, H⟩ := H
          have hht_74 := Lib.hid ht_74
          clear ht_74
          have hst_74 := HBw_t_73.out.size
          go_wp2_with (at_builtin; refine wpList_append_own_at _ rfl _ _ 43 rfl w.heap.size 54 i0_54 (.agg #[.int .i64 0, .int .i64 0, .int .i64 0, .int .i64 0]) 4 32 Tryd.underlying43 hi_54 hz0_54 hz1_54 hz2_54 rfl (by decide) _ _ _ rfl Olist_3l0.out ⟨wt_72.heap.size, 0, none⟩ 1 1 [.int .i64 t_72_leave, .int .i64 t_72_from_, .int .i64 t_72_to_, .int .i64 t_72_arrive] rfl rfl (news_new hw_t_73) (one_cells rfl) (by unfold maxLen; omega) (by omega) hst_74 ?_; intro vt_74 wt_74 ot_74 gt_74 zt_74 yt_74; clear zt_74; obtain ⟨qt_74, ct_74, rfl, pt_74⟩ := own_push hht_74.out (Go.Proofs.YtfjcibkgbalkaaaDoor.PMail.flat_snoc _ _) rfl ot_74; have Pt_74 := Lib.hid pt_74; have Yt_74 := Lib.hid yt_74; have Gt_74 := Lib.hid gt_74; clear ot_74 gt_74 pt_74 yt_74; refine stop_in ?_)
          refine stop_out ?_
          have HBwt_74 := Lib.hid (Go.Proofs.YtfjcibkgbalkaaaDoor.GoC.grown_new HBw_t_73.out Gt_74.out (Go.Proofs.YtfjcibkgbalkaaaDoor.GoC.own_ge Olist_3l0.out))
          clear hst_74
          have Dt_74_c0 : Hid (Apart (some ⟨qt_74, 0, none⟩) _) := Lib.hid (apart_app Dlist_3l0_c0.out (fun a_ ha_ => by cases ha_; exact (Go.Proofs.YtfjcibkgbalkaaaDoor.GoC.cur_lt Kt_72.out).2) Yt_74.out)
          replace Kt_72 := Lib.hid (Go.Proofs.YtfjcibkgbalkaaaDoor.GoC.cur_otherO Kt_72.out Gt_74.out Dlist_3l0_c0.out L0 Olist_3l0.out)
          clear Olist_3l0 Yt_74 Gt_74
          cases ret_hid H
          go_wp2_with fail
          go_ret
          exact ⟨(some ⟨qt_74, 0, none⟩), ct_74, rfl, Pt_74.out, Kt_72.out, HBwt_74.out⟩
      | true =>
        replace H := ite_t H
        replace H := bind2_hid H
        obtain ⟨t_9, t_9_tp, qt_9, H⟩ := H
        obtain ⟨t_9_leave, t_9_from_, t_9_to_, t_9_arrive⟩ := t_9
        replace H := unMail_hid H
        go_wp2_with fail
        go_at_call 72
        refine (Go.Proofs.YtfjcibkgbalkaaaDoor.GsL1CurMail.C (c0_c0l0) (g0) (Ac0) (cc0) (bc0) _   Kl0_0 qt_9).mono ?_
        rintro e_t_9 wt_9 ⟨rfl, kt_9, gt_9⟩
        unfold Go.Proofs.YtfjcibkgbalkaaaDoor.PMail.Mail.val
        have Kt_9 := Lib.hid kt_9
        have Gt_9 : Hid (wr0.grownBy wt_9 (Value.slice (some ⟨g0, 0, none⟩) 1 1).ownBlock) := Lib.hid gt_9
        clear kt_9 gt_9
        have HBwt_9 := Lib.hid (Aid.grown_tr HBwr0.out Gt_9.out)
        replace Olist_3l0 := Lib.hid (own_other Olist_3l0.out Gt_9.out (Apart.symm Dlist_3l0_c0.out))
        clear Kl0_0 Gt_9
        obtain ⟨w_x_10, hw_x_10⟩ : ∃ x, wt_9.alloc (.cells #[.int .i64 t_9_leave, .int .i64 t_9_from_, .int .i64 t_9_to_, .int .i64 t_9_arrive] 54) = x := ⟨_, rfl⟩
        have bw_x_10 : Below wt_9.heap.size wt_9 w_x_10 := by rw [← hw_x_10]; exact (Below.refl _ _).alloc (Nat.le_refl _) _
        have Dx_10_list_3l0 := Lib.hid (apart_fresh Olist_3l0.out)
        have Dx_10_c0 := Lib.hid (Go.Proofs.YtfjcibkgbalkaaaDoor.GoC.apart_cur Kt_9.out)
        have HBw_x_10 := Lib.hid (grown_below HBwt_9.out bw_x_10)
        replace Olist_3l0 := Lib.hid (own_below Olist_3l0.out bw_x_10)
        replace Kt_9 := Lib.hid (Go.Proofs.YtfjcibkgbalkaaaDoor.GoC.cur_below Kt_9.out bw_x_10)
        clear bw_x_10
        have kx_10_0 : w_x_10.cell? ⟨wt_9.heap.size, 0, none⟩ = some (.int .i64 t_9_leave) := by rw [← hw_x_10]; exact box_new _ _ _ 0 _ rfl
        have kx_10_1 : w_x_10.cell? ⟨wt_9.heap.size, 1, none⟩ = some (.int .i64 t_9_from_) := by rw [← hw_x_10]; exact box_new _ _ _ 1 _ rfl
        have kx_10_2 : w_x_10.cell? ⟨wt_9.heap.size, 2, none⟩ = some (.int .i64 t_9_to_) := by rw [← hw_x_10]; exact box_new _ _ _ 2 _ rfl
        have kx_10_3 : w_x_10.cell? ⟨wt_9.heap.size, 3, none⟩ = some (.int .i64 t_9_arrive) := by rw [← hw_x_10]; exact box_new _ _ _ 3 _ rfl
        go_upto_region 6 with fail
        go_cut [23] (fun v23_ wr => ∃ (t_23q0 : Bool) (c0_c0q0 : Go.Proofs.YtfjcibkgbalkaaaDoor.GoC.Tape), v23_ = .bool t_23q0 ∧ Hid (q0 fuel (fun s' => loopK (l0 fuel) m0 s' (e0 fuel)) list_3l0 n_4l0 t_9_leave t_9_from_ t_9_to_ t_9_arrive (t_23q0, c0_c0q0) = some (r, t_)) ∧ Hid (w.grownBy wr (Value.slice (some ⟨g0, 0, none⟩) 1 1).ownBlock) ∧ wr.cell? ⟨wt_9.heap.size, 0, none⟩ = some (.int .i64 t_9_leave) ∧ wr.cell? ⟨wt_9.heap.size, 1, none⟩ = some (.int .i64 t_9_from_) ∧ wr.cell? ⟨wt_9.heap.size, 2, none⟩ = some (.int .i64 t_9_to_) ∧ wr.cell? ⟨wt_9.heap.size, 3, none⟩ = some (.int .i64 t_9_arrive) ∧ Hid (wr.ownsRow w.heap.size 54 4 (.slice Alist_3l0 list_3l0.length clist_3l0) list_3l0.length (Go.Proofs.YtfjcibkgbalkaaaDoor.PMail.flat list_3l0)) ∧ Hid (Go.Proofs.YtfjcibkgbalkaaaDoor.GoC.CurIs wr bc0 g0 Ac0 cc0 c0_c0q0))
        case first =>
          replace H := bind_hid H
          obtain ⟨t_13, qt_13, H⟩ := H
          go_wp2_with fail
          go_at_call 74
          refine (Go.Proofs.YtfjcibkgbalkaaaDoor.GsL9One.C ((Go.Proofs.YtfjcibkgbalkaaaDoor.PMail.Mail.mk t_9_leave t_9_from_ t_9_to_ t_9_arrive))  _    qt_13).mono ?_
          rintro e_t_13 wt_13 ⟨rfl, bt_13⟩
          have HBwt_13 := Lib.hid (grown_below HBw_x_10.out bt_13)
          replace kx_10_0 := cell_below bt_13 kx_10_0
          replace kx_10_1 := cell_below bt_13 kx_10_1
          replace kx_10_2 := cell_below bt_13 kx_10_2
          replace kx_10_3 := cell_below bt_13 kx_10_3
          replace Olist_3l0 := Lib.hid (own_below Olist_3l0.out bt_13)
          replace Kt_9 := Lib.hid (Go.Proofs.YtfjcibkgbalkaaaDoor.GoC.cur_below Kt_9.out bt_13)
          clear bt_13
          cases t_13 with
          | false =>
            replace H := let_hid H
            obtain ⟨t_14, ht_14, H⟩ := H
            obtain rfl : t_14 = true := ht_14.symm
            replace H := join_hid H
            replace H := ite_t H
            replace H := bind2_hid H
            obtain ⟨t_17, t_17_tp, qt_17, H⟩ := H
            go_wp2_with fail
            go_at_call 75
            refine (Go.Proofs.YtfjcibkgbalkaaaDoor.GsL1CurOne.C (t_9_tp) (30) (g0) (Ac0) (cc0) (bc0) _   Kt_9 qt_17).mono ?_
            rintro e_t_17 wt_17 ⟨rfl, kt_17, gt_17⟩
            have Kt_17 := Lib.hid kt_17
            have Gt_17 : Hid (wt_13.grownBy wt_17 (Value.slice (some ⟨g0, 0, none⟩) 1 1).ownBlock) := Lib.hid gt_17
            clear kt_17 gt_17
            have HBwt_17 := Lib.hid (Aid.grown_tr HBwt_13.out Gt_17.out)
            replace kx_10_0 := cell_other kx_10_0 Gt_17.out (Apart.symm Dx_10_c0.out)
            replace kx_10_1 := cell_other kx_10_1 Gt_17.out (Apart.symm Dx_10_c0.out)
            replace kx_10_2 := cell_other kx_10_2 Gt_17.out (Apart.symm Dx_10_c0.out)
            replace kx_10_3 := cell_other kx_10_3 Gt_17.out (Apart.symm Dx_10_c0.out)
            replace Olist_3l0 := Lib.hid (own_other Olist_3l0.out Gt_17.out (Apart.symm Dlist_3l0_c0.out))
            clear Kt_9 Gt_17
            cases t_17 with
            | false =>
              replace H := let_hid H
              obtain ⟨t_18, ht_18, H⟩ := H
              obtain rfl : t_18 = true := ht_18.symm
              replace H := app_hid H
              replace H := unp2_hid H
              go_wp2_with fail
              go_meet
              case rel => exact ⟨_, _, rfl, H, HBwt_17, kx_10_0, kx_10_1, kx_10_2, kx_10_3, Olist_3l0, Kt_17⟩
            | true =>
              replace H := let_hid H
              obtain ⟨t_18, ht_18, H⟩ := H
              obtain rfl : t_18 = false := ht_18.symm
              replace H := app_hid H
              replace H := unp2_hid H
              go_wp2_with fail
              go_meet
              case rel => exact ⟨_, _, rfl, H, HBwt_17, kx_10_0, kx_10_1, kx_10_2, kx_10_3, Olist_3l0, Kt_17⟩
          | true =>
            replace H := let_hid H
            obtain ⟨t_14, ht_14, H⟩ := H
            obtain rfl : t_14 = false := ht_14.symm
            replace H := join_hid H
            replace H := ite_f H
            replace H := app_hid H
            replace H := unp2_hid H
            go_wp2_with fail
            go_meet
            case rel => exact ⟨_, _, rfl, H, HBwt_13, kx_10_0, kx_10_1, kx_10_2, kx_10_3, Olist_3l0, Kt_9⟩
        case rest =>
          obtain ⟨t_23q0, c0_c0q0, rfl, H, HBwq0, kx_10_0, kx_10_1, kx_10_2, kx_10_3, Olist_3l0, Kq0_0⟩ := hcut
          rename World => wq0
          unfold q0 at H
          replace H := unp2_hid H
          cases t_23q0 with
          | false =>
            replace H := ite_f H
            go_wp2_with fail
            go_loopg [6] (fuel) (fun m_ v6_ wr => ∃ (k_6l1 : Int), v6_ = .int .i64 k_6l1 ∧ Hid (loopK (l1 list_3l0 t_9_leave t_9_from_ t_9_to_ t_9_arrive) m_ (k_6l1) (e1 (fun s' => loopK (l0 fuel) m0 s' (e0 fuel)) list_3l0 n_4l0 t_9_leave t_9_from_ t_9_to_ t_9_arrive c0_c0q0) = some (r, t_)) ∧ Hid (w.grownBy wr (Value.slice (some ⟨g0, 0, none⟩) 1 1).ownBlock) ∧ wr.cell? ⟨wt_9.heap.size, 0, none⟩ = some (.int .i64 t_9_leave) ∧ wr.cell? ⟨wt_9.heap.size, 1, none⟩ = some (.int .i64 t_9_from_) ∧ wr.cell? ⟨wt_9.heap.size, 2, none⟩ = some (.int .i64 t_9_to_) ∧ wr.cell? ⟨wt_9.heap.size, 3, none⟩ = some (.int .i64 t_9_arrive) ∧ Hid (wr.ownsRow w.heap.size 54 4 (.slice Alist_3l0 list_3l0.length clist_3l0) list_3l0.length (Go.Proofs.YtfjcibkgbalkaaaDoor.PMail.flat list_3l0)) ∧ Hid (Go.Proofs.YtfjcibkgbalkaaaDoor.GoC.CurIs wr bc0 g0 Ac0 cc0 c0_c0q0))
            case atStart => exact ⟨_, rfl, H, HBwq0, kx_10_0, kx_10_1, kx_10_2, kx_10_3, Olist_3l0, Kq0_0⟩
            case round =>
              obtain ⟨k_6l1, rfl, H, HBwr1, kx_10_0, kx_10_1, kx_10_2, kx_10_3, Olist_3l0, Kl1_0⟩ := hrel
              rename World => wr1
              cases gk with
              | zero => exact (loop_zero H).elim
              | succ m1 =>
                replace H := loop_succ H
                unfold l1 at H
                replace H := let_hid H
                obtain ⟨_, rfl, H⟩ := H
                go_upto_region 8 with fail
                go_cut [38] (fun v38_ wr => ∃ (t_38q1 : Bool), v38_ = .bool t_38q1 ∧ Hid (q1 (fun s' => loopK (l1 list_3l0 t_9_leave t_9_from_ t_9_to_ t_9_arrive) m1 s' (e1 (fun s' => loopK (l0 fuel) m0 s' (e0 fuel)) list_3l0 n_4l0 t_9_leave t_9_from_ t_9_to_ t_9_arrive c0_c0q0)) (e1 (fun s' => loopK (l0 fuel) m0 s' (e0 fuel)) list_3l0 n_4l0 t_9_leave t_9_from_ t_9_to_ t_9_arrive c0_c0q0) k_6l1 (t_38q1) = some (r, t_)) ∧ Hid (w.grownBy wr (Value.slice (some ⟨g0, 0, none⟩) 1 1).ownBlock) ∧ wr.cell? ⟨wt_9.heap.size, 0, none⟩ = some (.int .i64 t_9_leave) ∧ wr.cell? ⟨wt_9.heap.size, 1, none⟩ = some (.int .i64 t_9_from_) ∧ wr.cell? ⟨wt_9.heap.size, 2, none⟩ = some (.int .i64 t_9_to_) ∧ wr.cell? ⟨wt_9.heap.size, 3, none⟩ = some (.int .i64 t_9_arrive) ∧ Hid (wr.ownsRow w.heap.size 54 4 (.slice Alist_3l0 list_3l0.length clist_3l0) list_3l0.length (Go.Proofs.YtfjcibkgbalkaaaDoor.PMail.flat list_3l0)) ∧ Hid (Go.Proofs.YtfjcibkgbalkaaaDoor.GoC.CurIs wr bc0 g0 Ac0 cc0 c0_c0q0))
                case first =>
                  go_wp2_with fail
                  have Hkx_10_0 := Lib.hid kx_10_0
                  replace kx_10_0 := cell_regrown kx_10_0
                  have Hkx_10_1 := Lib.hid kx_10_1
                  replace kx_10_1 := cell_regrown kx_10_1
                  have Hkx_10_2 := Lib.hid kx_10_2
                  replace kx_10_2 := cell_regrown kx_10_2
                  have Hkx_10_3 := Lib.hid kx_10_3
                  replace kx_10_3 := cell_regrown kx_10_3
                  replace H := let_hid H
                  obtain ⟨t_24, ht_24, H⟩ := H
                  replace H := join_hid H
                  cases t_24 with
                  | false =>
                    replace H := ite_f H
                    replace H := app_hid H
                    refine wp_region_quiet_below (by kernel_rfl) (by kernel_rfl) ?_
                    repeat (go_big_quiet_step (fail))
                    refine wpQuiet_nil ?_
                    intro Y8 hY8
                    replace hY8 := below_class hY8
                    replace kx_10_0 := Hkx_10_0.out
                    clear Hkx_10_0
                    replace kx_10_1 := Hkx_10_1.out
                    clear Hkx_10_1
                    replace kx_10_2 := Hkx_10_2.out
                    clear Hkx_10_2
                    replace kx_10_3 := Hkx_10_3.out
                    clear Hkx_10_3
                    have HBY8 := Lib.hid (grown_below HBwr1.out hY8)
                    replace kx_10_0 := cell_below hY8 kx_10_0
                    replace kx_10_1 := cell_below hY8 kx_10_1
                    replace kx_10_2 := cell_below hY8 kx_10_2
                    replace kx_10_3 := cell_below hY8 kx_10_3
                    replace Olist_3l0 := Lib.hid (own_below Olist_3l0.out hY8)
                    replace Kl1_0 := Lib.hid (Go.Proofs.YtfjcibkgbalkaaaDoor.GoC.cur_below Kl1_0.out hY8)
                    clear hY8
                    go_wp2_with fail
                    go_meet
                    case rel => exact ⟨_, rfl, H, HBY8, kx_10_0, kx_10_1, kx_10_2, kx_10_3, Olist_3l0, Kl1_0⟩
                  | true =>
                    replace H := ite_t H
                    replace H := let_hid H
                    obtain ⟨t_28, ht_28, H⟩ := H
                    replace H := idx_hid H
                    obtain ⟨nt_29, yt_29, et_29, lt_29, gt_29, H⟩ := H
                    subst et_29
                    obtain ⟨t_29_leave, t_29_from_, t_29_to_, t_29_arrive⟩ := yt_29
                    replace H := unMail_hid H
                    obtain ⟨qt_29, Qt_29⟩ := own_some Olist_3l0.out (by omega)
                    subst Qt_29
                    obtain ⟨ab_t_29, ao_t_29, zt_29, At_29, z_t_29, ct_29_0, ct_29_1, ct_29_2, ct_29_3⟩ := Go.Proofs.YtfjcibkgbalkaaaDoor.OMail.at_ (own_cells Olist_3l0.out) (k := nt_29) (by omega)
                    obtain rfl := Option.some.inj (gt_29.out.symm.trans z_t_29)
                    simp only [Option.some.injEq, Addr.mk.injEq] at At_29
                    obtain ⟨rfl, rfl, _⟩ := At_29
                    clear z_t_29
                    simp only [Nat.zero_add] at ct_29_0 ct_29_1 ct_29_2 ct_29_3
                    have b0t_29 : (0 : Int) ≤ (nt_29 : Int) := by omega
                    have b1t_29 : (nt_29 : Int) < ((list_3l0.length : Nat) : Int) := by omega
                    have b2t_29 : ((nt_29 : Int)).toNat = nt_29 := by omega
                    have Hct_29_0 := Lib.hid ct_29_0
                    replace ct_29_0 := cell_regrown ct_29_0
                    have Hct_29_1 := Lib.hid ct_29_1
                    replace ct_29_1 := cell_regrown ct_29_1
                    have Hct_29_2 := Lib.hid ct_29_2
                    replace ct_29_2 := cell_regrown ct_29_2
                    have Hct_29_3 := Lib.hid ct_29_3
                    replace ct_29_3 := cell_regrown ct_29_3
                    replace H := bind_hid H
                    obtain ⟨t_31, qt_31, H⟩ := H
                    have nt_31 : ∀ d os, Calls Tryd.prog 85 #[.agg #[.int .i64 t_29_leave, .int .i64 t_29_from_, .int .i64 t_29_to_, .int .i64 t_29_arrive]] (Go.Sort.grow (redrawn wr1 d) os) fun e w'' => e = .returned (.int .i64 t_31) ∧ ∃ p : Regrown, w'' = Go.Sort.grow (redrawn wr1 p.d) p.os := fun d os => Calls.regrown_of (Go.Proofs.YtfjcibkgbalkaaaDoor.GsL9Code.C ((Go.Proofs.YtfjcibkgbalkaaaDoor.PMail.Mail.mk t_29_leave t_29_from_ t_29_to_ t_29_arrive))  _    qt_31)
                    replace H := bind_hid H
                    obtain ⟨t_33, qt_33, H⟩ := H
                    have nt_33 : ∀ d os, Calls Tryd.prog 85 #[.agg #[.int .i64 t_9_leave, .int .i64 t_9_from_, .int .i64 t_9_to_, .int .i64 t_9_arrive]] (Go.Sort.grow (redrawn wr1 d) os) fun e w'' => e = .returned (.int .i64 t_33) ∧ ∃ p : Regrown, w'' = Go.Sort.grow (redrawn wr1 p.d) p.os := fun d os => Calls.regrown_of (Go.Proofs.YtfjcibkgbalkaaaDoor.GsL9Code.C ((Go.Proofs.YtfjcibkgbalkaaaDoor.PMail.Mail.mk t_9_leave t_9_from_ t_9_to_ t_9_arrive))  _    qt_33)
                    replace H := let_hid H
                    obtain ⟨t_34, ht_34, H⟩ := H
                    replace H := app_hid H
                    refine wp_region_quiet_below (by kernel_rfl) (by kernel_rfl) ?_
                    repeat (go_big_quiet_step (first | (go_at_call 85; with_reducible exact nt_31 _ _) | (go_at_call 85; with_reducible exact nt_33 _ _) | (go_at_call 85; exact nt_31 _ _) | (go_at_call 85; exact nt_33 _ _)))
                    refine wpQuiet_nil ?_
                    intro Y8 hY8
                    replace hY8 := below_class hY8
                    clear nt_31 nt_33
                    replace kx_10_0 := Hkx_10_0.out
                    clear Hkx_10_0
                    replace kx_10_1 := Hkx_10_1.out
                    clear Hkx_10_1
                    replace kx_10_2 := Hkx_10_2.out
                    clear Hkx_10_2
                    replace kx_10_3 := Hkx_10_3.out
                    clear Hkx_10_3
                    replace ct_29_0 := Hct_29_0.out
                    clear Hct_29_0
                    replace ct_29_1 := Hct_29_1.out
                    clear Hct_29_1
                    replace ct_29_2 := Hct_29_2.out
                    clear Hct_29_2
                    replace ct_29_3 := Hct_29_3.out
                    clear Hct_29_3
                    have HBY8 := Lib.hid (grown_below HBwr1.out hY8)
                    replace kx_10_0 := cell_below hY8 kx_10_0
                    replace kx_10_1 := cell_below hY8 kx_10_1
                    replace kx_10_2 := cell_below hY8 kx_10_2
                    replace kx_10_3 := cell_below hY8 kx_10_3
                    replace ct_29_0 := cell_below hY8 ct_29_0
                    replace ct_29_1 := cell_below hY8 ct_29_1
                    replace ct_29_2 := cell_below hY8 ct_29_2
                    replace ct_29_3 := cell_below hY8 ct_29_3
                    replace Olist_3l0 := Lib.hid (own_below Olist_3l0.out hY8)
                    replace Kl1_0 := Lib.hid (Go.Proofs.YtfjcibkgbalkaaaDoor.GoC.cur_below Kl1_0.out hY8)
                    clear hY8
                    go_wp2_with fail
                    go_meet
                    case rel => exact ⟨_, rfl, H, HBY8, kx_10_0, kx_10_1, kx_10_2, kx_10_3, Olist_3l0, Kl1_0⟩
                case rest =>
                  obtain ⟨t_38q1, rfl, H, HBwq1, kx_10_0, kx_10_1, kx_10_2, kx_10_3, Olist_3l0, Kq1_0⟩ := hcut
                  rename World => wq1
                  unfold q1 at H
                  replace H := let_hid H
                  obtain ⟨_, rfl, H⟩ := H
                  cases t_38q1 with
                  | false =>
                    replace H := ite_f H
                    replace H := app_hid H
                    unfold e1 at H
                    replace H := let_hid H
                    obtain ⟨_, rfl, H⟩ := H
                    go_upto_region 10 with fail
                    go_cut [51] (fun v51_ wr => ∃ (t_51q2 : Bool), v51_ = .bool t_51q2 ∧ Hid (q2 (fun s' => loopK (l0 fuel) m0 s' (e0 fuel)) list_3l0 n_4l0 t_9_leave t_9_from_ t_9_to_ t_9_arrive c0_c0q0 k_6l1 (t_51q2) = some (r, t_)) ∧ Hid (w.grownBy wr (Value.slice (some ⟨g0, 0, none⟩) 1 1).ownBlock) ∧ wr.cell? ⟨wt_9.heap.size, 0, none⟩ = some (.int .i64 t_9_leave) ∧ wr.cell? ⟨wt_9.heap.size, 1, none⟩ = some (.int .i64 t_9_from_) ∧ wr.cell? ⟨wt_9.heap.size, 2, none⟩ = some (.int .i64 t_9_to_) ∧ wr.cell? ⟨wt_9.heap.size, 3, none⟩ = some (.int .i64 t_9_arrive) ∧ Hid (wr.ownsRow w.heap.size 54 4 (.slice Alist_3l0 list_3l0.length clist_3l0) list_3l0.length (Go.Proofs.YtfjcibkgbalkaaaDoor.PMail.flat list_3l0)) ∧ Hid (Go.Proofs.YtfjcibkgbalkaaaDoor.GoC.CurIs wr bc0 g0 Ac0 cc0 c0_c0q0))
                    case first =>
                      go_wp2_with fail
                      have Hkx_10_0 := Lib.hid kx_10_0
                      replace kx_10_0 := cell_regrown kx_10_0
                      have Hkx_10_1 := Lib.hid kx_10_1
                      replace kx_10_1 := cell_regrown kx_10_1
                      have Hkx_10_2 := Lib.hid kx_10_2
                      replace kx_10_2 := cell_regrown kx_10_2
                      have Hkx_10_3 := Lib.hid kx_10_3
                      replace kx_10_3 := cell_regrown kx_10_3
                      replace H := let_hid H
                      obtain ⟨t_40, ht_40, H⟩ := H
                      replace H := join_hid H
                      cases t_40 with
                      | false =>
                        replace H := ite_f H
                        replace H := let_hid H
                        obtain ⟨t_44, ht_44, H⟩ := H
                        replace H := idx_hid H
                        obtain ⟨nt_45, yt_45, et_45, lt_45, gt_45, H⟩ := H
                        subst et_45
                        obtain ⟨t_45_leave, t_45_from_, t_45_to_, t_45_arrive⟩ := yt_45
                        replace H := unMail_hid H
                        obtain ⟨qt_45, Qt_45⟩ := own_some Olist_3l0.out (by omega)
                        subst Qt_45
                        obtain ⟨ab_t_45, ao_t_45, zt_45, At_45, z_t_45, ct_45_0, ct_45_1, ct_45_2, ct_45_3⟩ := Go.Proofs.YtfjcibkgbalkaaaDoor.OMail.at_ (own_cells Olist_3l0.out) (k := nt_45) (by omega)
                        obtain rfl := Option.some.inj (gt_45.out.symm.trans z_t_45)
                        simp only [Option.some.injEq, Addr.mk.injEq] at At_45
                        obtain ⟨rfl, rfl, _⟩ := At_45
                        clear z_t_45
                        simp only [Nat.zero_add] at ct_45_0 ct_45_1 ct_45_2 ct_45_3
                        have b0t_45 : (0 : Int) ≤ (nt_45 : Int) := by omega
                        have b1t_45 : (nt_45 : Int) < ((list_3l0.length : Nat) : Int) := by omega
                        have b2t_45 : ((nt_45 : Int)).toNat = nt_45 := by omega
                        have Hct_45_0 := Lib.hid ct_45_0
                        replace ct_45_0 := cell_regrown ct_45_0
                        have Hct_45_1 := Lib.hid ct_45_1
                        replace ct_45_1 := cell_regrown ct_45_1
                        have Hct_45_2 := Lib.hid ct_45_2
                        replace ct_45_2 := cell_regrown ct_45_2
                        have Hct_45_3 := Lib.hid ct_45_3
                        replace ct_45_3 := cell_regrown ct_45_3
                        replace H := let_hid H
                        obtain ⟨t_48, ht_48, H⟩ := H
                        have ct_48 : ∀ W, (binOp .neq 54 (.agg #[.int .i64 t_45_leave, .int .i64 t_45_from_, .int .i64 t_45_to_, .int .i64 t_45_arrive]) (.agg #[.int .i64 t_9_leave, .int .i64 t_9_from_, .int .i64 t_9_to_, .int .i64 t_9_arrive])).run Tryd.prog W = .ok (.bool t_48) W := fun W => by rw [neqa_54, ht_48]
                        replace H := app_hid H
                        refine wp_region_quiet_below (by kernel_rfl) (by kernel_rfl) ?_
                        repeat (go_big_quiet_step (fail))
                        refine wpQuiet_nil ?_
                        intro Y10 hY10
                        replace hY10 := below_class hY10
                        replace kx_10_0 := Hkx_10_0.out
                        clear Hkx_10_0
                        replace kx_10_1 := Hkx_10_1.out
                        clear Hkx_10_1
                        replace kx_10_2 := Hkx_10_2.out
                        clear Hkx_10_2
                        replace kx_10_3 := Hkx_10_3.out
                        clear Hkx_10_3
                        replace ct_45_0 := Hct_45_0.out
                        clear Hct_45_0
                        replace ct_45_1 := Hct_45_1.out
                        clear Hct_45_1
                        replace ct_45_2 := Hct_45_2.out
                        clear Hct_45_2
                        replace ct_45_3 := Hct_45_3.out
                        clear Hct_45_3
                        have HBY10 := Lib.hid (grown_below HBwq1.out hY10)
                        replace kx_10_0 := cell_below hY10 kx_10_0
                        replace kx_10_1 := cell_below hY10 kx_10_1
                        replace kx_10_2 := cell_below hY10 kx_10_2
                        replace kx_10_3 := cell_below hY10 kx_10_3
                        replace ct_45_0 := cell_below hY10 ct_45_0
                        replace ct_45_1 := cell_below hY10 ct_45_1
                        replace ct_45_2 := cell_below hY10 ct_45_2
                        replace ct_45_3 := cell_below hY10 ct_45_3
                        replace Olist_3l0 := Lib.hid (own_below Olist_3l0.out hY10)
                        replace Kq1_0 := Lib.hid (Go.Proofs.YtfjcibkgbalkaaaDoor.GoC.cur_below Kq1_0.out hY10)
                        clear hY10
                        go_wp2_with fail
                        go_meet
                        case rel => exact ⟨_, rfl, H, HBY10, kx_10_0, kx_10_1, kx_10_2, kx_10_3, Olist_3l0, Kq1_0⟩
                      | true =>
                        replace H := ite_t H
                        replace H := app_hid H
                        refine wp_region_quiet_below (by kernel_rfl) (by kernel_rfl) ?_
                        repeat (go_big_quiet_step (fail))
                        refine wpQuiet_nil ?_
                        intro Y10 hY10
                        replace hY10 := below_class hY10
                        replace kx_10_0 := Hkx_10_0.out
                        clear Hkx_10_0
                        replace kx_10_1 := Hkx_10_1.out
                        clear Hkx_10_1
                        replace kx_10_2 := Hkx_10_2.out
                        clear Hkx_10_2
                        replace kx_10_3 := Hkx_10_3.out
                        clear Hkx_10_3
                        have HBY10 := Lib.hid (grown_below HBwq1.out hY10)
                        replace kx_10_0 := cell_below hY10 kx_10_0
                        replace kx_10_1 := cell_below hY10 kx_10_1
                        replace kx_10_2 := cell_below hY10 kx_10_2
                        replace kx_10_3 := cell_below hY10 kx_10_3
                        replace Olist_3l0 := Lib.hid (own_below Olist_3l0.out hY10)
                        replace Kq1_0 := Lib.hid (Go.Proofs.YtfjcibkgbalkaaaDoor.GoC.cur_below Kq1_0.out hY10)
                        clear hY10
                        go_wp2_with fail
                        go_meet
                        case rel => exact ⟨_, rfl, H, HBY10, kx_10_0, kx_10_1, kx_10_2, kx_10_3, Olist_3l0, Kq1_0⟩
                    case rest =>
                      obtain ⟨t_51q2, rfl, H, HBwq2, kx_10_0, kx_10_1, kx_10_2, kx_10_3, Olist_3l0, Kq2_0⟩ := hcut
                      rename World => wq2
                      unfold q2 at H
                      replace H := let_hid H
                      obtain ⟨_, rfl, H⟩ := H
                      cases t_51q2 with
                      | false =>
                        replace H := ite_f H
                        replace H := let_hid H
                        obtain ⟨t_64, ht_64, H⟩ := H
                        replace H := app_hid H
                        go_wp2_with fail
                        go_roundg m0
                        case measure => omega
                        case rel => exact ⟨_, _, _, _, _, rfl, rfl, H, HBwq2, Olist_3l0, Lib.hid Dlist_3l0_c0.out, Kq2_0⟩
                      | true =>
                        replace H := ite_t H
                        go_wp2_with fail
                        have bd11 : Below wq2.heap.size wq2 wq2.drew := (Below.refl _ _).drew
                        have HBwq2.drew := Lib.hid (grown_below HBwq2.out bd11)
                        replace kx_10_0 := cell_below bd11 kx_10_0
                        replace kx_10_1 := cell_below bd11 kx_10_1
                        replace kx_10_2 := cell_below bd11 kx_10_2
                        replace kx_10_3 := cell_below bd11 kx_10_3
                        replace Olist_3l0 := Lib.hid (own_below Olist_3l0.out bd11)
                        replace Kq2_0 := Lib.hid (Go.Proofs.YtfjcibkgbalkaaaDoor.GoC.cur_below Kq2_0.out bd11)
                        clear bd11
                        replace H := guard_hid H
                        obtain ⟨hl_t_53, H⟩ := H
                        replace H := let_hid H
                        obtain ⟨t_53, ht_53, H⟩ := H
                        have hht_53 := Lib.hid ht_53
                        have hgt_53 := Lib.hid hl_t_53
                        clear ht_53
                        clear hl_t_53
                        replace H := guard_hid H
                        obtain ⟨hlt_54, H⟩ := H
                        replace H := let_hid H
                        obtain ⟨t_54, ht_54, H⟩ := H
                        have hht_54 := Lib.hid ht_54
                        clear ht_54
                        replace H := guard_hid H
                        obtain ⟨hlt_57, H⟩ := H
                        replace H := let_hid H
                        obtain ⟨t_57, ht_57, H⟩ := H
                        have hht_57 := Lib.hid ht_57
                        clear ht_57
                        replace H := guard_hid H
                        obtain ⟨hl_t_60, H⟩ := H
                        replace H := let_hid H
                        obtain ⟨t_60, ht_60, H⟩ := H
                        have hht_60 := Lib.hid ht_60
                        have hgt_60 := Lib.hid hl_t_60
                        clear ht_60
                        clear hl_t_60
                        replace H := guard_hid H
                        obtain ⟨hlt_61, H⟩ := H
                        replace H := let_hid H
                        obtain ⟨t_61, ht_61, H⟩ := H
                        have hht_61 := Lib.hid ht_61
                        clear ht_61
                        obtain ⟨At_53_p77, ct_53_p77, rt_53_p77, mt_53_p77, qt_53_p77⟩ := Go.Proofs.YtfjcibkgbalkaaaDoor.GoD.slice_viewH (P := Tryd.prog) (t := 43) (e := 54) (k := .i64) (ys := (Go.Proofs.YtfjcibkgbalkaaaDoor.PMail.flat t_53)) (m := t_53.length) (by kernel_rfl) (by kernel_rfl) hi_54 hz1_54 Olist_3l0.out (by have h_ := hgt_53.out; omega) (by have h_ := hgt_53.out; rw [← hht_53.out, List.length_take] <;> omega) (by rw [← hht_53.out]; exact flat_take Go.Proofs.YtfjcibkgbalkaaaDoor.PMail.Mail.cells 4 (fun _ => rfl) _ _)
                        have Mt_53_p77 := Lib.hid mt_53_p77
                        have Qt_53_p77 := Lib.hid qt_53_p77
                        have Nt_53_p77 : Hid (t_53.length ≤ 9223372036854775807) := Lib.hid (by have h_ := own_max Olist_3l0.out; rw [← hht_53.out, List.length_take] <;> omega)
                        obtain ⟨At_60_p78, ct_60_p78, rt_60_p78, mt_60_p78, qt_60_p78⟩ := Go.Proofs.YtfjcibkgbalkaaaDoor.GoD.slice_view (P := Tryd.prog) (t := 43) (e := 54) (k := .i64) (ys := (Go.Proofs.YtfjcibkgbalkaaaDoor.PMail.flat t_60)) (m := t_60.length) (by kernel_rfl) (by kernel_rfl) hi_54 hz1_54 Olist_3l0.out (by have h_ := hgt_60.out; omega) (by rw [← hht_60.out, List.length_drop] <;> omega) (by rw [← hht_60.out]; exact flat_drop Go.Proofs.YtfjcibkgbalkaaaDoor.PMail.Mail.cells 4 (fun _ => rfl) _ _)
                        have Mt_60_p78 := Lib.hid mt_60_p78
                        have Qt_60_p78 := Lib.hid qt_60_p78
                        have Nt_60_p78 : Hid (t_60.length ≤ 9223372036854775807) := Lib.hid (by have h_ := own_max Olist_3l0.out; rw [← hht_60.out, List.length_drop] <;> omega)
                        obtain ⟨w_t_50_p83, hw_t_50_p83⟩ : ∃ x, wq2.drew.alloc (.cells #[] 54) = x := ⟨_, rfl⟩
                        have bw_t_50_p83 : Below wq2.drew.heap.size wq2.drew w_t_50_p83 := by rw [← hw_t_50_p83]; exact (Below.refl _ _).alloc (Nat.le_refl _) _
                        have Ot_50_p83 : Hid (w_t_50_p83.ownsRow w.heap.size 54 4 (.slice (some ⟨wq2.heap.size, 0, none⟩) 0 0) 0 []) := Lib.hid (by rw [← hw_t_50_p83]; exact own_empty HBwq2.drew.out.size)
                        have Dt_50_list_3l0_p83 := Lib.hid (apart_fresh Olist_3l0.out)
                        have Dt_50_c0_p83 := Lib.hid (Go.Proofs.YtfjcibkgbalkaaaDoor.GoC.apart_cur Kq2_0.out)
                        have Dt_50_x_10_p83 := Lib.hid (apart_box kx_10_0)
                        have HBw_t_50_p83 := Lib.hid (grown_below HBwq2.drew.out bw_t_50_p83)
                        have kx_10_0__79_p83 := cell_below bw_t_50_p83 kx_10_0
                        have kx_10_1__80_p83 := cell_below bw_t_50_p83 kx_10_1
                        have kx_10_2__81_p83 := cell_below bw_t_50_p83 kx_10_2
                        have kx_10_3__82_p83 := cell_below bw_t_50_p83 kx_10_3
                        have Olist_3l0_p83 := Lib.hid (own_below Olist_3l0.out bw_t_50_p83)
                        have Kq2_0_p83 := Lib.hid (Go.Proofs.YtfjcibkgbalkaaaDoor.GoC.cur_below Kq2_0.out bw_t_50_p83)
                        obtain ⟨w_t_56_p96, hw_t_56_p96⟩ : ∃ x, w_t_50_p83.alloc (.cells #[.int .i64 t_9_leave, .int .i64 t_9_from_, .int .i64 t_9_to_, .int .i64 t_9_arrive] 54) = x := ⟨_, rfl⟩
                        have bw_t_56_p96 : Below w_t_50_p83.heap.size w_t_50_p83 w_t_56_p96 := by rw [← hw_t_56_p96]; exact (Below.refl _ _).alloc (Nat.le_refl _) _
                        have Ot_56_p96 : Hid (w_t_56_p96.ownsRow w.heap.size 54 4 (.slice (some ⟨w_t_50_p83.heap.size, 0, none⟩) 1 1) 1 [.int .i64 t_9_leave, .int .i64 t_9_from_, .int .i64 t_9_to_, .int .i64 t_9_arrive]) := Lib.hid (by rw [← hw_t_56_p96]; exact own_laid (n := 1) HBw_t_50_p83.out.size (rfl : ([.int .i64 t_9_leave, .int .i64 t_9_from_, .int .i64 t_9_to_, .int .i64 t_9_arrive] : List Value) = [.int .i64 t_9_leave, .int .i64 t_9_from_, .int .i64 t_9_to_, .int .i64 t_9_arrive]) rfl (by unfold maxLen; omega))
                        have Dt_56_list_3l0_p96 := Lib.hid (apart_fresh Olist_3l0_p83.out)
                        have Dt_56_t_50_p96 := Lib.hid (apart_fresh Ot_50_p83.out)
                        have Dt_56_c0_p96 := Lib.hid (Go.Proofs.YtfjcibkgbalkaaaDoor.GoC.apart_cur Kq2_0_p83.out)
                        have Dt_56_x_10_p96 := Lib.hid (apart_box kx_10_0__79_p83)
                        have HBw_t_56_p96 := Lib.hid (grown_below HBw_t_50_p83.out bw_t_56_p96)
                        have kx_10_0__92_p96 := cell_below bw_t_56_p96 kx_10_0__79_p83
                        have kx_10_1__93_p96 := cell_below bw_t_56_p96 kx_10_1__80_p83
                        have kx_10_2__94_p96 := cell_below bw_t_56_p96 kx_10_2__81_p83
                        have kx_10_3__95_p96 := cell_below bw_t_56_p96 kx_10_3__82_p83
                        have Olist_3l0_p83_p96 := Lib.hid (own_below Olist_3l0_p83.out bw_t_56_p96)
                        have Ot_50_p83_p96 := Lib.hid (own_below Ot_50_p83.out bw_t_56_p96)
                        have Kq2_0_p83_p96 := Lib.hid (Go.Proofs.YtfjcibkgbalkaaaDoor.GoC.cur_below Kq2_0_p83.out bw_t_56_p96)
                        obtain ⟨w_t_56_p104, hw_t_56_p104⟩ : ∃ x, wq2.drew.alloc (.cells #[.int .i64 t_9_leave, .int .i64 t_9_from_, .int .i64 t_9_to_, .int .i64 t_9_arrive] 54) = x := ⟨_, rfl⟩
                        have bw_t_56_p104 : Below wq2.drew.heap.size wq2.drew w_t_56_p104 := by rw [← hw_t_56_p104]; exact (Below.refl _ _).alloc (Nat.le_refl _) _
                        have Ot_56_p104 : Hid (w_t_56_p104.ownsRow w.heap.size 54 4 (.slice (some ⟨wq2.heap.size, 0, none⟩) 1 1) 1 [.int .i64 t_9_leave, .int .i64 t_9_from_, .int .i64 t_9_to_, .int .i64 t_9_arrive]) := Lib.hid (by rw [← hw_t_56_p104]; exact own_laid (n := 1) HBwq2.drew.out.size (rfl : ([.int .i64 t_9_leave, .int .i64 t_9_from_, .int .i64 t_9_to_, .int .i64 t_9_arrive] : List Value) = [.int .i64 t_9_leave, .int .i64 t_9_from_, .int .i64 t_9_to_, .int .i64 t_9_arrive]) rfl (by unfold maxLen; omega))
                        have Dt_56_list_3l0_p104 := Lib.hid (apart_fresh Olist_3l0.out)
                        have Dt_56_c0_p104 := Lib.hid (Go.Proofs.YtfjcibkgbalkaaaDoor.GoC.apart_cur Kq2_0.out)
                        have Dt_56_x_10_p104 := Lib.hid (apart_box kx_10_0)
                        have HBw_t_56_p104 := Lib.hid (grown_below HBwq2.drew.out bw_t_56_p104)
                        have kx_10_0__100_p104 := cell_below bw_t_56_p104 kx_10_0
                        have kx_10_1__101_p104 := cell_below bw_t_56_p104 kx_10_1
                        have kx_10_2__102_p104 := cell_below bw_t_56_p104 kx_10_2
                        have kx_10_3__103_p104 := cell_below bw_t_56_p104 kx_10_3
                        have Olist_3l0_p104 := Lib.hid (own_below Olist_3l0.out bw_t_56_p104)
                        have Kq2_0_p104 := Lib.hid (Go.Proofs.YtfjcibkgbalkaaaDoor.GoC.cur_below Kq2_0.out bw_t_56_p104)
                        obtain ⟨w_t_50_p109, hw_t_50_p109⟩ : ∃ x, w_t_56_p104.alloc (.cells #[] 54) = x := ⟨_, rfl⟩
                        have bw_t_50_p109 : Below w_t_56_p104.heap.size w_t_56_p104 w_t_50_p109 := by rw [← hw_t_50_p109]; exact (Below.refl _ _).alloc (Nat.le_refl _) _
                        have Ot_50_p109 : Hid (w_t_50_p109.ownsRow w.heap.size 54 4 (.slice (some ⟨w_t_56_p104.heap.size, 0, none⟩) 0 0) 0 []) := Lib.hid (by rw [← hw_t_50_p109]; exact own_empty HBw_t_56_p104.out.size)
                        have Dt_50_list_3l0_p109 := Lib.hid (apart_fresh Olist_3l0_p104.out)
                        have Dt_50_t_56_p109 := Lib.hid (apart_fresh Ot_56_p104.out)
                        have Dt_50_c0_p109 := Lib.hid (Go.Proofs.YtfjcibkgbalkaaaDoor.GoC.apart_cur Kq2_0_p104.out)
                        have Dt_50_x_10_p109 := Lib.hid (apart_box kx_10_0__100_p104)
                        have HBw_t_50_p109 := Lib.hid (grown_below HBw_t_56_p104.out bw_t_50_p109)
                        have kx_10_0__105_p109 := cell_below bw_t_50_p109 kx_10_0__100_p104
                        have kx_10_1__106_p109 := cell_below bw_t_50_p109 kx_10_1__101_p104
                        have kx_10_2__107_p109 := cell_below bw_t_50_p109 kx_10_2__102_p104
                        have kx_10_3__108_p109 := cell_below bw_t_50_p109 kx_10_3__103_p104
                        have Olist_3l0_p104_p109 := Lib.hid (own_below Olist_3l0_p104.out bw_t_50_p109)
                        have Ot_56_p104_p109 := Lib.hid (own_below Ot_56_p104.out bw_t_50_p109)
                        have Kq2_0_p104_p109 := Lib.hid (Go.Proofs.YtfjcibkgbalkaaaDoor.GoC.cur_below Kq2_0_p104.out bw_t_50_p109)
                        go_region_held3 (fun w' => w'.cell? ⟨wt_9.heap.size, 0, none⟩ = some (.int .i64 t_9_leave) ∧ w'.cell? ⟨wt_9.heap.size, 1, none⟩ = some (.int .i64 t_9_from_) ∧ w'.cell? ⟨wt_9.heap.size, 2, none⟩ = some (.int .i64 t_9_to_) ∧ w'.cell? ⟨wt_9.heap.size, 3, none⟩ = some (.int .i64 t_9_arrive)) (first | exact ⟨kx_10_0, kx_10_1, kx_10_2, kx_10_3⟩ | exact ⟨kx_10_0__79_p83, kx_10_1__80_p83, kx_10_2__81_p83, kx_10_3__82_p83⟩ | exact ⟨kx_10_0__79_p83_p84, kx_10_1__80_p83_p84, kx_10_2__81_p83_p84, kx_10_3__82_p83_p84⟩ | exact ⟨kx_10_0__85_p89, kx_10_1__86_p89, kx_10_2__87_p89, kx_10_3__88_p89⟩ | exact ⟨kx_10_0__85_p89_p90, kx_10_1__86_p89_p90, kx_10_2__87_p89_p90, kx_10_3__88_p89_p90⟩ | exact ⟨kx_10_0__85_p89_p90_p91, kx_10_1__86_p89_p90_p91, kx_10_2__87_p89_p90_p91, kx_10_3__88_p89_p90_p91⟩ | exact ⟨kx_10_0__92_p96, kx_10_1__93_p96, kx_10_2__94_p96, kx_10_3__95_p96⟩ | exact ⟨kx_10_0__92_p96_p97, kx_10_1__93_p96_p97, kx_10_2__94_p96_p97, kx_10_3__95_p96_p97⟩ | exact ⟨kx_10_0__92_p96_p97_p98, kx_10_1__93_p96_p97_p98, kx_10_2__94_p96_p97_p98, kx_10_3__95_p96_p97_p98⟩ | exact ⟨kx_10_0__92_p96_p97_p98_p99, kx_10_1__93_p96_p97_p98_p99, kx_10_2__94_p96_p97_p98_p99, kx_10_3__95_p96_p97_p98_p99⟩ | exact ⟨kx_10_0__100_p104, kx_10_1__101_p104, kx_10_2__102_p104, kx_10_3__103_p104⟩ | exact ⟨kx_10_0__105_p109, kx_10_1__106_p109, kx_10_2__107_p109, kx_10_3__108_p109⟩ | exact ⟨kx_10_0__105_p109_p110, kx_10_1__106_p109_p110, kx_10_2__107_p109_p110, kx_10_3__108_p109_p110⟩ | exact ⟨kx_10_0__105_p109_p110_p111, kx_10_1__106_p109_p110_p111, kx_10_2__107_p109_p110_p111, kx_10_3__108_p109_p110_p111⟩ | exact ⟨kx_10_0__105_p109_p110_p111_p112, kx_10_1__106_p109_p110_p111_p112, kx_10_2__107_p109_p110_p111_p112, kx_10_3__108_p109_p110_p111_p112⟩)
                            (first
                              | (have hst_54_p84 := HBw_t_50_p83.out.size
                                 have Ct_54_p84 := Lib.hid ((Mt_53_p77.out _ Olist_3l0_p83.out))
                                 have h1t_54_p84 : 0 + t_53.length ≤ maxLen := by have h_ := hlt_54; simp only [List.length_nil] at h_; unfold maxLen; omega
                                 have h2t_54_p84 : (0 + t_53.length) * 32 ≤ 140737488355328 := by have h_ := hlt_54; simp only [List.length_nil] at h_; omega
                                 refine Go.Proofs.YtfjcibkgbalkaaaDoor.GoH.step_spread_own (w := w_t_50_p83) rfl (.tmp 52) (.tmp 55) 43 rfl w.heap.size 54 i0_54 (.agg #[.int .i64 0, .int .i64 0, .int .i64 0, .int .i64 0]) 4 32 Tryd.underlying43 hi_54 hz0_54 hz1_54 hz2_54 rfl (by decide) (some ⟨wq2.heap.size, 0, none⟩) 0 0 _ rfl Ot_50_p83.out At_53_p77 t_53.length ct_53_p77 (Go.Proofs.YtfjcibkgbalkaaaDoor.PMail.flat t_53) rfl Qt_53_p77.out Ct_54_p84.out (fun u hu => by obtain ⟨y_, _, hy_⟩ := List.mem_flatMap.1 hu; simp only [Go.Proofs.YtfjcibkgbalkaaaDoor.PMail.Mail.cells, List.mem_cons, List.not_mem_nil, or_false] at hy_; rcases hy_ with rfl | rfl | rfl | rfl <;> rfl) h1t_54_p84 h2t_54_p84 hst_54_p84 ?_
                                 intro vt_54_p84 wt_54_p84 ot_54_p84 gt_54_p84 yt_54_p84
                                 obtain ⟨At_54_p84, ct_54_p84, rfl, pt_54_p84⟩ := own_pushS (f := Go.Proofs.YtfjcibkgbalkaaaDoor.PMail.flat) hht_54.out (by simp [Go.Proofs.YtfjcibkgbalkaaaDoor.PMail.flat]) rfl ot_54_p84
                                 have Pt_54_p84 := Lib.hid pt_54_p84
                                 have Yt_54_p84 := Lib.hid yt_54_p84
                                 have Gt_54_p84 := Lib.hid gt_54_p84
                                 have HBwt_54_p84 := Lib.hid (Go.Proofs.YtfjcibkgbalkaaaDoor.GoC.grown_new HBw_t_50_p83.out Gt_54_p84.out (Go.Proofs.YtfjcibkgbalkaaaDoor.GoC.own_ge Ot_50_p83.out))
                                 have Dt_54_list_3l0_p84 : Hid (Apart At_54_p84 _) := Lib.hid (apart_app Dt_50_list_3l0_p83.out (fun a_ ha_ => (own_lt Olist_3l0_p83.out a_ ha_).2) Yt_54_p84.out)
                                 have Dt_54_c0_p84 : Hid (Apart At_54_p84 _) := Lib.hid (apart_app Dt_50_c0_p83.out (fun a_ ha_ => by cases ha_; exact (Go.Proofs.YtfjcibkgbalkaaaDoor.GoC.cur_lt Kq2_0_p83.out).2) Yt_54_p84.out)
                                 have Dt_54_x_10_p84 : Hid (Apart At_54_p84 _) := Lib.hid (apart_app Dt_50_x_10_p83.out (fun a_ ha_ => by cases ha_; exact cell_lt kx_10_0__79_p83) Yt_54_p84.out)
                                 have kx_10_0__79_p83_p84 := cell_other kx_10_0__79_p83 Gt_54_p84.out Dt_50_x_10_p83.out
                                 have kx_10_1__80_p83_p84 := cell_other kx_10_1__80_p83 Gt_54_p84.out Dt_50_x_10_p83.out
                                 have kx_10_2__81_p83_p84 := cell_other kx_10_2__81_p83 Gt_54_p84.out Dt_50_x_10_p83.out
                                 have kx_10_3__82_p83_p84 := cell_other kx_10_3__82_p83 Gt_54_p84.out Dt_50_x_10_p83.out
                                 have Olist_3l0_p83_p84 := Lib.hid (own_other Olist_3l0_p83.out Gt_54_p84.out Dt_50_list_3l0_p83.out)
                                 have Kq2_0_p83_p84 := Lib.hid (Go.Proofs.YtfjcibkgbalkaaaDoor.GoC.cur_otherO Kq2_0_p83.out Gt_54_p84.out Dt_50_c0_p83.out L0 Ot_50_p83.out)
                                 obtain ⟨w_t_56_p89, hw_t_56_p89⟩ : ∃ x, wt_54_p84.alloc (.cells #[.int .i64 t_9_leave, .int .i64 t_9_from_, .int .i64 t_9_to_, .int .i64 t_9_arrive] 54) = x := ⟨_, rfl⟩
                                 have bw_t_56_p89 : Below wt_54_p84.heap.size wt_54_p84 w_t_56_p89 := by rw [← hw_t_56_p89]; exact (Below.refl _ _).alloc (Nat.le_refl _) _
                                 have Ot_56_p89 : Hid (w_t_56_p89.ownsRow w.heap.size 54 4 (.slice (some ⟨wt_54_p84.heap.size, 0, none⟩) 1 1) 1 [.int .i64 t_9_leave, .int .i64 t_9_from_, .int .i64 t_9_to_, .int .i64 t_9_arrive]) := Lib.hid (by rw [← hw_t_56_p89]; exact own_laid (n := 1) HBwt_54_p84.out.size (rfl : ([.int .i64 t_9_leave, .int .i64 t_9_from_, .int .i64 t_9_to_, .int .i64 t_9_arrive] : List Value) = [.int .i64 t_9_leave, .int .i64 t_9_from_, .int .i64 t_9_to_, .int .i64 t_9_arrive]) rfl (by unfold maxLen; omega))
                                 have Dt_56_list_3l0_p89 := Lib.hid (apart_fresh Olist_3l0_p83_p84.out)
                                 have Dt_56_t_54_p89 := Lib.hid (apart_fresh Pt_54_p84.out)
                                 have Dt_56_c0_p89 := Lib.hid (Go.Proofs.YtfjcibkgbalkaaaDoor.GoC.apart_cur Kq2_0_p83_p84.out)
                                 have Dt_56_x_10_p89 := Lib.hid (apart_box kx_10_0__79_p83_p84)
                                 have HBw_t_56_p89 := Lib.hid (grown_below HBwt_54_p84.out bw_t_56_p89)
                                 have kx_10_0__85_p89 := cell_below bw_t_56_p89 kx_10_0__79_p83_p84
                                 have kx_10_1__86_p89 := cell_below bw_t_56_p89 kx_10_1__80_p83_p84
                                 have kx_10_2__87_p89 := cell_below bw_t_56_p89 kx_10_2__81_p83_p84
                                 have kx_10_3__88_p89 := cell_below bw_t_56_p89 kx_10_3__82_p83_p84
                                 have Olist_3l0_p83_p84_p89 := Lib.hid (own_below Olist_3l0_p83_p84.out bw_t_56_p89)
                                 have Pt_54_p84_p89 := Lib.hid (own_below Pt_54_p84.out bw_t_56_p89)
                                 have Kq2_0_p83_p84_p89 := Lib.hid (Go.Proofs.YtfjcibkgbalkaaaDoor.GoC.cur_below Kq2_0_p83_p84.out bw_t_56_p89))
                              | (have hst_57_p90 := HBw_t_56_p89.out.size
                                 have h1t_57_p90 : t_54.length + 1 ≤ maxLen := by unfold maxLen; omega
                                 have h2t_57_p90 : (t_54.length + 1) * 32 ≤ 140737488355328 := by omega
                                 have h3t_57_p90 := Ot_56_p89.out.cells rfl
                                 refine Go.Proofs.YtfjcibkgbalkaaaDoor.GoH.step_append_own (w := w_t_56_p89) rfl (.tmp 56) (.tmp 58) 43 rfl w.heap.size 54 i0_54 (.agg #[.int .i64 0, .int .i64 0, .int .i64 0, .int .i64 0]) 4 32 Tryd.underlying43 hi_54 hz0_54 hz1_54 hz2_54 rfl (by decide) At_54_p84 ct_54_p84 t_54.length _ rfl Pt_54_p84_p89.out ⟨wt_54_p84.heap.size, 0, none⟩ 1 [.int .i64 t_9_leave, .int .i64 t_9_from_, .int .i64 t_9_to_, .int .i64 t_9_arrive] rfl rfl h3t_57_p90 (one_cells rfl) h1t_57_p90 h2t_57_p90 hst_57_p90 ?_
                                 intro vt_57_p90 wt_57_p90 ot_57_p90 gt_57_p90 yt_57_p90
                                 obtain ⟨qt_57_p90, ct_57_p90, rfl, pt_57_p90⟩ := own_push hht_57.out (Go.Proofs.YtfjcibkgbalkaaaDoor.PMail.flat_snoc _ _) rfl ot_57_p90
                                 have Pt_57_p90 := Lib.hid pt_57_p90
                                 have Yt_57_p90 := Lib.hid yt_57_p90
                                 have Gt_57_p90 := Lib.hid gt_57_p90
                                 have HBwt_57_p90 := Lib.hid (Go.Proofs.YtfjcibkgbalkaaaDoor.GoC.grown_new HBw_t_56_p89.out Gt_57_p90.out (Go.Proofs.YtfjcibkgbalkaaaDoor.GoC.own_ge Pt_54_p84_p89.out))
                                 have Dt_57_list_3l0_p90 : Hid (Apart (some ⟨qt_57_p90, 0, none⟩) _) := Lib.hid (apart_app Dt_54_list_3l0_p84.out (fun a_ ha_ => (own_lt Olist_3l0_p83_p84_p89.out a_ ha_).2) Yt_57_p90.out)
                                 have Dt_57_c0_p90 : Hid (Apart (some ⟨qt_57_p90, 0, none⟩) _) := Lib.hid (apart_app Dt_54_c0_p84.out (fun a_ ha_ => by cases ha_; exact (Go.Proofs.YtfjcibkgbalkaaaDoor.GoC.cur_lt Kq2_0_p83_p84_p89.out).2) Yt_57_p90.out)
                                 have Dt_57_x_10_p90 : Hid (Apart (some ⟨qt_57_p90, 0, none⟩) _) := Lib.hid (apart_app Dt_54_x_10_p84.out (fun a_ ha_ => by cases ha_; exact cell_lt kx_10_0__85_p89) Yt_57_p90.out)
                                 have Dt_57_t_56_p90 : Hid (Apart (some ⟨qt_57_p90, 0, none⟩) _) := Lib.hid (apart_app (Apart.symm Dt_56_t_54_p89.out) (fun a_ ha_ => (own_lt Ot_56_p89.out a_ ha_).2) Yt_57_p90.out)
                                 have kx_10_0__85_p89_p90 := cell_other kx_10_0__85_p89 Gt_57_p90.out Dt_54_x_10_p84.out
                                 have kx_10_1__86_p89_p90 := cell_other kx_10_1__86_p89 Gt_57_p90.out Dt_54_x_10_p84.out
                                 have kx_10_2__87_p89_p90 := cell_other kx_10_2__87_p89 Gt_57_p90.out Dt_54_x_10_p84.out
                                 have kx_10_3__88_p89_p90 := cell_other kx_10_3__88_p89 Gt_57_p90.out Dt_54_x_10_p84.out
                                 have Olist_3l0_p83_p84_p89_p90 := Lib.hid (own_other Olist_3l0_p83_p84_p89.out Gt_57_p90.out Dt_54_list_3l0_p84.out)
                                 have Ot_56_p89_p90 := Lib.hid (own_other Ot_56_p89.out Gt_57_p90.out (Apart.symm Dt_56_t_54_p89.out))
                                 have Kq2_0_p83_p84_p89_p90 := Lib.hid (Go.Proofs.YtfjcibkgbalkaaaDoor.GoC.cur_otherO Kq2_0_p83_p84_p89.out Gt_57_p90.out Dt_54_c0_p84.out L0 Pt_54_p84_p89.out))
                              | (have hst_61_p91 := HBwt_57_p90.out.size
                                 have Ct_61_p91 := Lib.hid ((Mt_60_p78.out _ Olist_3l0_p83_p84_p89_p90.out))
                                 have h1t_61_p91 : t_57.length + t_60.length ≤ maxLen := by have h_ := hlt_61; unfold maxLen; omega
                                 have h2t_61_p91 : (t_57.length + t_60.length) * 32 ≤ 140737488355328 := by have h_ := hlt_61; omega
                                 refine Go.Proofs.YtfjcibkgbalkaaaDoor.GoH.step_spread_own (w := wt_57_p90) rfl (.tmp 59) (.tmp 62) 43 rfl w.heap.size 54 i0_54 (.agg #[.int .i64 0, .int .i64 0, .int .i64 0, .int .i64 0]) 4 32 Tryd.underlying43 hi_54 hz0_54 hz1_54 hz2_54 rfl (by decide) (some ⟨qt_57_p90, 0, none⟩) ct_57_p90 t_57.length _ rfl Pt_57_p90.out At_60_p78 t_60.length ct_60_p78 (Go.Proofs.YtfjcibkgbalkaaaDoor.PMail.flat t_60) rfl Qt_60_p78.out Ct_61_p91.out (fun u hu => by obtain ⟨y_, _, hy_⟩ := List.mem_flatMap.1 hu; simp only [Go.Proofs.YtfjcibkgbalkaaaDoor.PMail.Mail.cells, List.mem_cons, List.not_mem_nil, or_false] at hy_; rcases hy_ with rfl | rfl | rfl | rfl <;> rfl) h1t_61_p91 h2t_61_p91 hst_61_p91 ?_
                                 intro vt_61_p91 wt_61_p91 ot_61_p91 gt_61_p91 yt_61_p91
                                 obtain ⟨At_61_p91, ct_61_p91, rfl, pt_61_p91⟩ := own_pushS (f := Go.Proofs.YtfjcibkgbalkaaaDoor.PMail.flat) hht_61.out (by simp [Go.Proofs.YtfjcibkgbalkaaaDoor.PMail.flat]) rfl ot_61_p91
                                 have Pt_61_p91 := Lib.hid pt_61_p91
                                 have Yt_61_p91 := Lib.hid yt_61_p91
                                 have Gt_61_p91 := Lib.hid gt_61_p91
                                 have HBwt_61_p91 := Lib.hid (Go.Proofs.YtfjcibkgbalkaaaDoor.GoC.grown_new HBwt_57_p90.out Gt_61_p91.out (Go.Proofs.YtfjcibkgbalkaaaDoor.GoC.own_ge Pt_57_p90.out))
                                 have Dt_61_list_3l0_p91 : Hid (Apart At_61_p91 _) := Lib.hid (apart_app Dt_57_list_3l0_p90.out (fun a_ ha_ => (own_lt Olist_3l0_p83_p84_p89_p90.out a_ ha_).2) Yt_61_p91.out)
                                 have Dt_61_c0_p91 : Hid (Apart At_61_p91 _) := Lib.hid (apart_app Dt_57_c0_p90.out (fun a_ ha_ => by cases ha_; exact (Go.Proofs.YtfjcibkgbalkaaaDoor.GoC.cur_lt Kq2_0_p83_p84_p89_p90.out).2) Yt_61_p91.out)
                                 have Dt_61_x_10_p91 : Hid (Apart At_61_p91 _) := Lib.hid (apart_app Dt_57_x_10_p90.out (fun a_ ha_ => by cases ha_; exact cell_lt kx_10_0__85_p89_p90) Yt_61_p91.out)
                                 have kx_10_0__85_p89_p90_p91 := cell_other kx_10_0__85_p89_p90 Gt_61_p91.out Dt_57_x_10_p90.out
                                 have kx_10_1__86_p89_p90_p91 := cell_other kx_10_1__86_p89_p90 Gt_61_p91.out Dt_57_x_10_p90.out
                                 have kx_10_2__87_p89_p90_p91 := cell_other kx_10_2__87_p89_p90 Gt_61_p91.out Dt_57_x_10_p90.out
                                 have kx_10_3__88_p89_p90_p91 := cell_other kx_10_3__88_p89_p90 Gt_61_p91.out Dt_57_x_10_p90.out
                                 have Olist_3l0_p83_p84_p89_p90_p91 := Lib.hid (own_other Olist_3l0_p83_p84_p89_p90.out Gt_61_p91.out Dt_57_list_3l0_p90.out)
                                 have Kq2_0_p83_p84_p89_p90_p91 := Lib.hid (Go.Proofs.YtfjcibkgbalkaaaDoor.GoC.cur_otherO Kq2_0_p83_p84_p89_p90.out Gt_61_p91.out Dt_57_c0_p90.out L0 Pt_57_p90.out))
                              | (have hst_54_p97 := HBw_t_56_p96.out.size
                                 have Ct_54_p97 := Lib.hid ((Mt_53_p77.out _ Olist_3l0_p83_p96.out))
                                 have h1t_54_p97 : 0 + t_53.length ≤ maxLen := by have h_ := hlt_54; simp only [List.length_nil] at h_; unfold maxLen; omega
                                 have h2t_54_p97 : (0 + t_53.length) * 32 ≤ 140737488355328 := by have h_ := hlt_54; simp only [List.length_nil] at h_; omega
                                 refine Go.Proofs.YtfjcibkgbalkaaaDoor.GoH.step_spread_own (w := w_t_56_p96) rfl (.tmp 52) (.tmp 55) 43 rfl w.heap.size 54 i0_54 (.agg #[.int .i64 0, .int .i64 0, .int .i64 0, .int .i64 0]) 4 32 Tryd.underlying43 hi_54 hz0_54 hz1_54 hz2_54 rfl (by decide) (some ⟨wq2.heap.size, 0, none⟩) 0 0 _ rfl Ot_50_p83_p96.out At_53_p77 t_53.length ct_53_p77 (Go.Proofs.YtfjcibkgbalkaaaDoor.PMail.flat t_53) rfl Qt_53_p77.out Ct_54_p97.out (fun u hu => by obtain ⟨y_, _, hy_⟩ := List.mem_flatMap.1 hu; simp only [Go.Proofs.YtfjcibkgbalkaaaDoor.PMail.Mail.cells, List.mem_cons, List.not_mem_nil, or_false] at hy_; rcases hy_ with rfl | rfl | rfl | rfl <;> rfl) h1t_54_p97 h2t_54_p97 hst_54_p97 ?_
                                 intro vt_54_p97 wt_54_p97 ot_54_p97 gt_54_p97 yt_54_p97
                                 obtain ⟨At_54_p97, ct_54_p97, rfl, pt_54_p97⟩ := own_pushS (f := Go.Proofs.YtfjcibkgbalkaaaDoor.PMail.flat) hht_54.out (by simp [Go.Proofs.YtfjcibkgbalkaaaDoor.PMail.flat]) rfl ot_54_p97
                                 have Pt_54_p97 := Lib.hid pt_54_p97
                                 have Yt_54_p97 := Lib.hid yt_54_p97
                                 have Gt_54_p97 := Lib.hid gt_54_p97
                                 have HBwt_54_p97 := Lib.hid (Go.Proofs.YtfjcibkgbalkaaaDoor.GoC.grown_new HBw_t_56_p96.out Gt_54_p97.out (Go.Proofs.YtfjcibkgbalkaaaDoor.GoC.own_ge Ot_50_p83_p96.out))
                                 have Dt_54_list_3l0_p97 : Hid (Apart At_54_p97 _) := Lib.hid (apart_app Dt_50_list_3l0_p83.out (fun a_ ha_ => (own_lt Olist_3l0_p83_p96.out a_ ha_).2) Yt_54_p97.out)
                                 have Dt_54_c0_p97 : Hid (Apart At_54_p97 _) := Lib.hid (apart_app Dt_50_c0_p83.out (fun a_ ha_ => by cases ha_; exact (Go.Proofs.YtfjcibkgbalkaaaDoor.GoC.cur_lt Kq2_0_p83_p96.out).2) Yt_54_p97.out)
                                 have Dt_54_x_10_p97 : Hid (Apart At_54_p97 _) := Lib.hid (apart_app Dt_50_x_10_p83.out (fun a_ ha_ => by cases ha_; exact cell_lt kx_10_0__92_p96) Yt_54_p97.out)
                                 have Dt_54_t_56_p97 : Hid (Apart At_54_p97 _) := Lib.hid (apart_app (Apart.symm Dt_56_t_50_p96.out) (fun a_ ha_ => (own_lt Ot_56_p96.out a_ ha_).2) Yt_54_p97.out)
                                 have kx_10_0__92_p96_p97 := cell_other kx_10_0__92_p96 Gt_54_p97.out Dt_50_x_10_p83.out
                                 have kx_10_1__93_p96_p97 := cell_other kx_10_1__93_p96 Gt_54_p97.out Dt_50_x_10_p83.out
                                 have kx_10_2__94_p96_p97 := cell_other kx_10_2__94_p96 Gt_54_p97.out Dt_50_x_10_p83.out
                                 have kx_10_3__95_p96_p97 := cell_other kx_10_3__95_p96 Gt_54_p97.out Dt_50_x_10_p83.out
                                 have Olist_3l0_p83_p96_p97 := Lib.hid (own_other Olist_3l0_p83_p96.out Gt_54_p97.out Dt_50_list_3l0_p83.out)
                                 have Ot_56_p96_p97 := Lib.hid (own_other Ot_56_p96.out Gt_54_p97.out (Apart.symm Dt_56_t_50_p96.out))
                                 have Kq2_0_p83_p96_p97 := Lib.hid (Go.Proofs.YtfjcibkgbalkaaaDoor.GoC.cur_otherO Kq2_0_p83_p96.out Gt_54_p97.out Dt_50_c0_p83.out L0 Ot_50_p83_p96.out))
                              | (have hst_57_p98 := HBwt_54_p97.out.size
                                 have h1t_57_p98 : t_54.length + 1 ≤ maxLen := by unfold maxLen; omega
                                 have h2t_57_p98 : (t_54.length + 1) * 32 ≤ 140737488355328 := by omega
                                 have h3t_57_p98 := Ot_56_p96_p97.out.cells rfl
                                 refine Go.Proofs.YtfjcibkgbalkaaaDoor.GoH.step_append_own (w := wt_54_p97) rfl (.tmp 56) (.tmp 58) 43 rfl w.heap.size 54 i0_54 (.agg #[.int .i64 0, .int .i64 0, .int .i64 0, .int .i64 0]) 4 32 Tryd.underlying43 hi_54 hz0_54 hz1_54 hz2_54 rfl (by decide) At_54_p97 ct_54_p97 t_54.length _ rfl Pt_54_p97.out ⟨w_t_50_p83.heap.size, 0, none⟩ 1 [.int .i64 t_9_leave, .int .i64 t_9_from_, .int .i64 t_9_to_, .int .i64 t_9_arrive] rfl rfl h3t_57_p98 (one_cells rfl) h1t_57_p98 h2t_57_p98 hst_57_p98 ?_
                                 intro vt_57_p98 wt_57_p98 ot_57_p98 gt_57_p98 yt_57_p98
                                 obtain ⟨qt_57_p98, ct_57_p98, rfl, pt_57_p98⟩ := own_push hht_57.out (Go.Proofs.YtfjcibkgbalkaaaDoor.PMail.flat_snoc _ _) rfl ot_57_p98
                                 have Pt_57_p98 := Lib.hid pt_57_p98
                                 have Yt_57_p98 := Lib.hid yt_57_p98
                                 have Gt_57_p98 := Lib.hid gt_57_p98
                                 have HBwt_57_p98 := Lib.hid (Go.Proofs.YtfjcibkgbalkaaaDoor.GoC.grown_new HBwt_54_p97.out Gt_57_p98.out (Go.Proofs.YtfjcibkgbalkaaaDoor.GoC.own_ge Pt_54_p97.out))
                                 have Dt_57_list_3l0_p98 : Hid (Apart (some ⟨qt_57_p98, 0, none⟩) _) := Lib.hid (apart_app Dt_54_list_3l0_p97.out (fun a_ ha_ => (own_lt Olist_3l0_p83_p96_p97.out a_ ha_).2) Yt_57_p98.out)
                                 have Dt_57_c0_p98 : Hid (Apart (some ⟨qt_57_p98, 0, none⟩) _) := Lib.hid (apart_app Dt_54_c0_p97.out (fun a_ ha_ => by cases ha_; exact (Go.Proofs.YtfjcibkgbalkaaaDoor.GoC.cur_lt Kq2_0_p83_p96_p97.out).2) Yt_57_p98.out)
                                 have Dt_57_x_10_p98 : Hid (Apart (some ⟨qt_57_p98, 0, none⟩) _) := Lib.hid (apart_app Dt_54_x_10_p97.out (fun a_ ha_ => by cases ha_; exact cell_lt kx_10_0__92_p96_p97) Yt_57_p98.out)
                                 have Dt_57_t_56_p98 : Hid (Apart (some ⟨qt_57_p98, 0, none⟩) _) := Lib.hid (apart_app Dt_54_t_56_p97.out (fun a_ ha_ => (own_lt Ot_56_p96_p97.out a_ ha_).2) Yt_57_p98.out)
                                 have kx_10_0__92_p96_p97_p98 := cell_other kx_10_0__92_p96_p97 Gt_57_p98.out Dt_54_x_10_p97.out
                                 have kx_10_1__93_p96_p97_p98 := cell_other kx_10_1__93_p96_p97 Gt_57_p98.out Dt_54_x_10_p97.out
                                 have kx_10_2__94_p96_p97_p98 := cell_other kx_10_2__94_p96_p97 Gt_57_p98.out Dt_54_x_10_p97.out
                                 have kx_10_3__95_p96_p97_p98 := cell_other kx_10_3__95_p96_p97 Gt_57_p98.out Dt_54_x_10_p97.out
                                 have Olist_3l0_p83_p96_p97_p98 := Lib.hid (own_other Olist_3l0_p83_p96_p97.out Gt_57_p98.out Dt_54_list_3l0_p97.out)
                                 have Ot_56_p96_p97_p98 := Lib.hid (own_other Ot_56_p96_p97.out Gt_57_p98.out Dt_54_t_56_p97.out)
                                 have Kq2_0_p83_p96_p97_p98 := Lib.hid (Go.Proofs.YtfjcibkgbalkaaaDoor.GoC.cur_otherO Kq2_0_p83_p96_p97.out Gt_57_p98.out Dt_54_c0_p97.out L0 Pt_54_p97.out))
                              | (have hst_61_p99 := HBwt_57_p98.out.size
                                 have Ct_61_p99 := Lib.hid ((Mt_60_p78.out _ Olist_3l0_p83_p96_p97_p98.out))
                                 have h1t_61_p99 : t_57.length + t_60.length ≤ maxLen := by have h_ := hlt_61; unfold maxLen; omega
                                 have h2t_61_p99 : (t_57.length + t_60.length) * 32 ≤ 140737488355328 := by have h_ := hlt_61; omega
                                 refine Go.Proofs.YtfjcibkgbalkaaaDoor.GoH.step_spread_own (w := wt_57_p98) rfl (.tmp 59) (.tmp 62) 43 rfl w.heap.size 54 i0_54 (.agg #[.int .i64 0, .int .i64 0, .int .i64 0, .int .i64 0]) 4 32 Tryd.underlying43 hi_54 hz0_54 hz1_54 hz2_54 rfl (by decide) (some ⟨qt_57_p98, 0, none⟩) ct_57_p98 t_57.length _ rfl Pt_57_p98.out At_60_p78 t_60.length ct_60_p78 (Go.Proofs.YtfjcibkgbalkaaaDoor.PMail.flat t_60) rfl Qt_60_p78.out Ct_61_p99.out (fun u hu => by obtain ⟨y_, _, hy_⟩ := List.mem_flatMap.1 hu; simp only [Go.Proofs.YtfjcibkgbalkaaaDoor.PMail.Mail.cells, List.mem_cons, List.not_mem_nil, or_false] at hy_; rcases hy_ with rfl | rfl | rfl | rfl <;> rfl) h1t_61_p99 h2t_61_p99 hst_61_p99 ?_
                                 intro vt_61_p99 wt_61_p99 ot_61_p99 gt_61_p99 yt_61_p99
                                 obtain ⟨At_61_p99, ct_61_p99, rfl, pt_61_p99⟩ := own_pushS (f := Go.Proofs.YtfjcibkgbalkaaaDoor.PMail.flat) hht_61.out (by simp [Go.Proofs.YtfjcibkgbalkaaaDoor.PMail.flat]) rfl ot_61_p99
                                 have Pt_61_p99 := Lib.hid pt_61_p99
                                 have Yt_61_p99 := Lib.hid yt_61_p99
                                 have Gt_61_p99 := Lib.hid gt_61_p99
                                 have HBwt_61_p99 := Lib.hid (Go.Proofs.YtfjcibkgbalkaaaDoor.GoC.grown_new HBwt_57_p98.out Gt_61_p99.out (Go.Proofs.YtfjcibkgbalkaaaDoor.GoC.own_ge Pt_57_p98.out))
                                 have Dt_61_list_3l0_p99 : Hid (Apart At_61_p99 _) := Lib.hid (apart_app Dt_57_list_3l0_p98.out (fun a_ ha_ => (own_lt Olist_3l0_p83_p96_p97_p98.out a_ ha_).2) Yt_61_p99.out)
                                 have Dt_61_c0_p99 : Hid (Apart At_61_p99 _) := Lib.hid (apart_app Dt_57_c0_p98.out (fun a_ ha_ => by cases ha_; exact (Go.Proofs.YtfjcibkgbalkaaaDoor.GoC.cur_lt Kq2_0_p83_p96_p97_p98.out).2) Yt_61_p99.out)
                                 have Dt_61_x_10_p99 : Hid (Apart At_61_p99 _) := Lib.hid (apart_app Dt_57_x_10_p98.out (fun a_ ha_ => by cases ha_; exact cell_lt kx_10_0__92_p96_p97_p98) Yt_61_p99.out)
                                 have kx_10_0__92_p96_p97_p98_p99 := cell_other kx_10_0__92_p96_p97_p98 Gt_61_p99.out Dt_57_x_10_p98.out
                                 have kx_10_1__93_p96_p97_p98_p99 := cell_other kx_10_1__93_p96_p97_p98 Gt_61_p99.out Dt_57_x_10_p98.out
                                 have kx_10_2__94_p96_p97_p98_p99 := cell_other kx_10_2__94_p96_p97_p98 Gt_61_p99.out Dt_57_x_10_p98.out
                                 have kx_10_3__95_p96_p97_p98_p99 := cell_other kx_10_3__95_p96_p97_p98 Gt_61_p99.out Dt_57_x_10_p98.out
                                 have Olist_3l0_p83_p96_p97_p98_p99 := Lib.hid (own_other Olist_3l0_p83_p96_p97_p98.out Gt_61_p99.out Dt_57_list_3l0_p98.out)
                                 have Kq2_0_p83_p96_p97_p98_p99 := Lib.hid (Go.Proofs.YtfjcibkgbalkaaaDoor.GoC.cur_otherO Kq2_0_p83_p96_p97_p98.out Gt_61_p99.out Dt_57_c0_p98.out L0 Pt_57_p98.out))
                              | (have hst_54_p110 := HBw_t_50_p109.out.size
                                 have Ct_54_p110 := Lib.hid ((Mt_53_p77.out _ Olist_3l0_p104_p109.out))
                                 have h1t_54_p110 : 0 + t_53.length ≤ maxLen := by have h_ := hlt_54; simp only [List.length_nil] at h_; unfold maxLen; omega
                                 have h2t_54_p110 : (0 + t_53.length) * 32 ≤ 140737488355328 := by have h_ := hlt_54; simp only [List.length_nil] at h_; omega
                                 refine Go.Proofs.YtfjcibkgbalkaaaDoor.GoH.step_spread_own (w := w_t_50_p109) rfl (.tmp 52) (.tmp 55) 43 rfl w.heap.size 54 i0_54 (.agg #[.int .i64 0, .int .i64 0, .int .i64 0, .int .i64 0]) 4 32 Tryd.underlying43 hi_54 hz0_54 hz1_54 hz2_54 rfl (by decide) (some ⟨w_t_56_p104.heap.size, 0, none⟩) 0 0 _ rfl Ot_50_p109.out At_53_p77 t_53.length ct_53_p77 (Go.Proofs.YtfjcibkgbalkaaaDoor.PMail.flat t_53) rfl Qt_53_p77.out Ct_54_p110.out (fun u hu => by obtain ⟨y_, _, hy_⟩ := List.mem_flatMap.1 hu; simp only [Go.Proofs.YtfjcibkgbalkaaaDoor.PMail.Mail.cells, List.mem_cons, List.not_mem_nil, or_false] at hy_; rcases hy_ with rfl | rfl | rfl | rfl <;> rfl) h1t_54_p110 h2t_54_p110 hst_54_p110 ?_
                                 intro vt_54_p110 wt_54_p110 ot_54_p110 gt_54_p110 yt_54_p110
                                 obtain ⟨At_54_p110, ct_54_p110, rfl, pt_54_p110⟩ := own_pushS (f := Go.Proofs.YtfjcibkgbalkaaaDoor.PMail.flat) hht_54.out (by simp [Go.Proofs.YtfjcibkgbalkaaaDoor.PMail.flat]) rfl ot_54_p110
                                 have Pt_54_p110 := Lib.hid pt_54_p110
                                 have Yt_54_p110 := Lib.hid yt_54_p110
                                 have Gt_54_p110 := Lib.hid gt_54_p110
                                 have HBwt_54_p110 := Lib.hid (Go.Proofs.YtfjcibkgbalkaaaDoor.GoC.grown_new HBw_t_50_p109.out Gt_54_p110.out (Go.Proofs.YtfjcibkgbalkaaaDoor.GoC.own_ge Ot_50_p109.out))
                                 have Dt_54_list_3l0_p110 : Hid (Apart At_54_p110 _) := Lib.hid (apart_app Dt_50_list_3l0_p109.out (fun a_ ha_ => (own_lt Olist_3l0_p104_p109.out a_ ha_).2) Yt_54_p110.out)
                                 have Dt_54_t_56_p110 : Hid (Apart At_54_p110 _) := Lib.hid (apart_app Dt_50_t_56_p109.out (fun a_ ha_ => (own_lt Ot_56_p104_p109.out a_ ha_).2) Yt_54_p110.out)
                                 have Dt_54_c0_p110 : Hid (Apart At_54_p110 _) := Lib.hid (apart_app Dt_50_c0_p109.out (fun a_ ha_ => by cases ha_; exact (Go.Proofs.YtfjcibkgbalkaaaDoor.GoC.cur_lt Kq2_0_p104_p109.out).2) Yt_54_p110.out)
                                 have Dt_54_x_10_p110 : Hid (Apart At_54_p110 _) := Lib.hid (apart_app Dt_50_x_10_p109.out (fun a_ ha_ => by cases ha_; exact cell_lt kx_10_0__105_p109) Yt_54_p110.out)
                                 have kx_10_0__105_p109_p110 := cell_other kx_10_0__105_p109 Gt_54_p110.out Dt_50_x_10_p109.out
                                 have kx_10_1__106_p109_p110 := cell_other kx_10_1__106_p109 Gt_54_p110.out Dt_50_x_10_p109.out
                                 have kx_10_2__107_p109_p110 := cell_other kx_10_2__107_p109 Gt_54_p110.out Dt_50_x_10_p109.out
                                 have kx_10_3__108_p109_p110 := cell_other kx_10_3__108_p109 Gt_54_p110.out Dt_50_x_10_p109.out
                                 have Olist_3l0_p104_p109_p110 := Lib.hid (own_other Olist_3l0_p104_p109.out Gt_54_p110.out Dt_50_list_3l0_p109.out)
                                 have Ot_56_p104_p109_p110 := Lib.hid (own_other Ot_56_p104_p109.out Gt_54_p110.out Dt_50_t_56_p109.out)
                                 have Kq2_0_p104_p109_p110 := Lib.hid (Go.Proofs.YtfjcibkgbalkaaaDoor.GoC.cur_otherO Kq2_0_p104_p109.out Gt_54_p110.out Dt_50_c0_p109.out L0 Ot_50_p109.out))
                              | (have hst_57_p111 := HBwt_54_p110.out.size
                                 have h1t_57_p111 : t_54.length + 1 ≤ maxLen := by unfold maxLen; omega
                                 have h2t_57_p111 : (t_54.length + 1) * 32 ≤ 140737488355328 := by omega
                                 have h3t_57_p111 := Ot_56_p104_p109_p110.out.cells rfl
                                 refine Go.Proofs.YtfjcibkgbalkaaaDoor.GoH.step_append_own (w := wt_54_p110) rfl (.tmp 56) (.tmp 58) 43 rfl w.heap.size 54 i0_54 (.agg #[.int .i64 0, .int .i64 0, .int .i64 0, .int .i64 0]) 4 32 Tryd.underlying43 hi_54 hz0_54 hz1_54 hz2_54 rfl (by decide) At_54_p110 ct_54_p110 t_54.length _ rfl Pt_54_p110.out ⟨wq2.heap.size, 0, none⟩ 1 [.int .i64 t_9_leave, .int .i64 t_9_from_, .int .i64 t_9_to_, .int .i64 t_9_arrive] rfl rfl h3t_57_p111 (one_cells rfl) h1t_57_p111 h2t_57_p111 hst_57_p111 ?_
                                 intro vt_57_p111 wt_57_p111 ot_57_p111 gt_57_p111 yt_57_p111
                                 obtain ⟨qt_57_p111, ct_57_p111, rfl, pt_57_p111⟩ := own_push hht_57.out (Go.Proofs.YtfjcibkgbalkaaaDoor.PMail.flat_snoc _ _) rfl ot_57_p111
                                 have Pt_57_p111 := Lib.hid pt_57_p111
                                 have Yt_57_p111 := Lib.hid yt_57_p111
                                 have Gt_57_p111 := Lib.hid gt_57_p111
                                 have HBwt_57_p111 := Lib.hid (Go.Proofs.YtfjcibkgbalkaaaDoor.GoC.grown_new HBwt_54_p110.out Gt_57_p111.out (Go.Proofs.YtfjcibkgbalkaaaDoor.GoC.own_ge Pt_54_p110.out))
                                 have Dt_57_list_3l0_p111 : Hid (Apart (some ⟨qt_57_p111, 0, none⟩) _) := Lib.hid (apart_app Dt_54_list_3l0_p110.out (fun a_ ha_ => (own_lt Olist_3l0_p104_p109_p110.out a_ ha_).2) Yt_57_p111.out)
                                 have Dt_57_t_56_p111 : Hid (Apart (some ⟨qt_57_p111, 0, none⟩) _) := Lib.hid (apart_app Dt_54_t_56_p110.out (fun a_ ha_ => (own_lt Ot_56_p104_p109_p110.out a_ ha_).2) Yt_57_p111.out)
                                 have Dt_57_c0_p111 : Hid (Apart (some ⟨qt_57_p111, 0, none⟩) _) := Lib.hid (apart_app Dt_54_c0_p110.out (fun a_ ha_ => by cases ha_; exact (Go.Proofs.YtfjcibkgbalkaaaDoor.GoC.cur_lt Kq2_0_p104_p109_p110.out).2) Yt_57_p111.out)
                                 have Dt_57_x_10_p111 : Hid (Apart (some ⟨qt_57_p111, 0, none⟩) _) := Lib.hid (apart_app Dt_54_x_10_p110.out (fun a_ ha_ => by cases ha_; exact cell_lt kx_10_0__105_p109_p110) Yt_57_p111.out)
                                 have kx_10_0__105_p109_p110_p111 := cell_other kx_10_0__105_p109_p110 Gt_57_p111.out Dt_54_x_10_p110.out
                                 have kx_10_1__106_p109_p110_p111 := cell_other kx_10_1__106_p109_p110 Gt_57_p111.out Dt_54_x_10_p110.out
                                 have kx_10_2__107_p109_p110_p111 := cell_other kx_10_2__107_p109_p110 Gt_57_p111.out Dt_54_x_10_p110.out
                                 have kx_10_3__108_p109_p110_p111 := cell_other kx_10_3__108_p109_p110 Gt_57_p111.out Dt_54_x_10_p110.out
                                 have Olist_3l0_p104_p109_p110_p111 := Lib.hid (own_other Olist_3l0_p104_p109_p110.out Gt_57_p111.out Dt_54_list_3l0_p110.out)
                                 have Ot_56_p104_p109_p110_p111 := Lib.hid (own_other Ot_56_p104_p109_p110.out Gt_57_p111.out Dt_54_t_56_p110.out)
                                 have Kq2_0_p104_p109_p110_p111 := Lib.hid (Go.Proofs.YtfjcibkgbalkaaaDoor.GoC.cur_otherO Kq2_0_p104_p109_p110.out Gt_57_p111.out Dt_54_c0_p110.out L0 Pt_54_p110.out))
                              | (have hst_61_p112 := HBwt_57_p111.out.size
                                 have Ct_61_p112 := Lib.hid ((Mt_60_p78.out _ Olist_3l0_p104_p109_p110_p111.out))
                                 have h1t_61_p112 : t_57.length + t_60.length ≤ maxLen := by have h_ := hlt_61; unfold maxLen; omega
                                 have h2t_61_p112 : (t_57.length + t_60.length) * 32 ≤ 140737488355328 := by have h_ := hlt_61; omega
                                 refine Go.Proofs.YtfjcibkgbalkaaaDoor.GoH.step_spread_own (w := wt_57_p111) rfl (.tmp 59) (.tmp 62) 43 rfl w.heap.size 54 i0_54 (.agg #[.int .i64 0, .int .i64 0, .int .i64 0, .int .i64 0]) 4 32 Tryd.underlying43 hi_54 hz0_54 hz1_54 hz2_54 rfl (by decide) (some ⟨qt_57_p111, 0, none⟩) ct_57_p111 t_57.length _ rfl Pt_57_p111.out At_60_p78 t_60.length ct_60_p78 (Go.Proofs.YtfjcibkgbalkaaaDoor.PMail.flat t_60) rfl Qt_60_p78.out Ct_61_p112.out (fun u hu => by obtain ⟨y_, _, hy_⟩ := List.mem_flatMap.1 hu; simp only [Go.Proofs.YtfjcibkgbalkaaaDoor.PMail.Mail.cells, List.mem_cons, List.not_mem_nil, or_false] at hy_; rcases hy_ with rfl | rfl | rfl | rfl <;> rfl) h1t_61_p112 h2t_61_p112 hst_61_p112 ?_
                                 intro vt_61_p112 wt_61_p112 ot_61_p112 gt_61_p112 yt_61_p112
                                 obtain ⟨At_61_p112, ct_61_p112, rfl, pt_61_p112⟩ := own_pushS (f := Go.Proofs.YtfjcibkgbalkaaaDoor.PMail.flat) hht_61.out (by simp [Go.Proofs.YtfjcibkgbalkaaaDoor.PMail.flat]) rfl ot_61_p112
                                 have Pt_61_p112 := Lib.hid pt_61_p112
                                 have Yt_61_p112 := Lib.hid yt_61_p112
                                 have Gt_61_p112 := Lib.hid gt_61_p112
                                 have HBwt_61_p112 := Lib.hid (Go.Proofs.YtfjcibkgbalkaaaDoor.GoC.grown_new HBwt_57_p111.out Gt_61_p112.out (Go.Proofs.YtfjcibkgbalkaaaDoor.GoC.own_ge Pt_57_p111.out))
                                 have Dt_61_list_3l0_p112 : Hid (Apart At_61_p112 _) := Lib.hid (apart_app Dt_57_list_3l0_p111.out (fun a_ ha_ => (own_lt Olist_3l0_p104_p109_p110_p111.out a_ ha_).2) Yt_61_p112.out)
                                 have Dt_61_c0_p112 : Hid (Apart At_61_p112 _) := Lib.hid (apart_app Dt_57_c0_p111.out (fun a_ ha_ => by cases ha_; exact (Go.Proofs.YtfjcibkgbalkaaaDoor.GoC.cur_lt Kq2_0_p104_p109_p110_p111.out).2) Yt_61_p112.out)
                                 have Dt_61_x_10_p112 : Hid (Apart At_61_p112 _) := Lib.hid (apart_app Dt_57_x_10_p111.out (fun a_ ha_ => by cases ha_; exact cell_lt kx_10_0__105_p109_p110_p111) Yt_61_p112.out)
                                 have kx_10_0__105_p109_p110_p111_p112 := cell_other kx_10_0__105_p109_p110_p111 Gt_61_p112.out Dt_57_x_10_p111.out
                                 have kx_10_1__106_p109_p110_p111_p112 := cell_other kx_10_1__106_p109_p110_p111 Gt_61_p112.out Dt_57_x_10_p111.out
                                 have kx_10_2__107_p109_p110_p111_p112 := cell_other kx_10_2__107_p109_p110_p111 Gt_61_p112.out Dt_57_x_10_p111.out
                                 have kx_10_3__108_p109_p110_p111_p112 := cell_other kx_10_3__108_p109_p110_p111 Gt_61_p112.out Dt_57_x_10_p111.out
                                 have Olist_3l0_p104_p109_p110_p111_p112 := Lib.hid (own_other Olist_3l0_p104_p109_p110_p111.out Gt_61_p112.out Dt_57_list_3l0_p111.out)
                                 have Kq2_0_p104_p109_p110_p111_p112 := Lib.hid (Go.Proofs.YtfjcibkgbalkaaaDoor.GoC.cur_otherO Kq2_0_p104_p109_p110_p111.out Gt_61_p112.out Dt_57_c0_p111.out L0 Pt_57_p111.out)))
                        · skip
                          replace H := let_hid H
                          obtain ⟨t_64, ht_64, H⟩ := H
                          replace H := app_hid H
                          go_wp2_with fail
                          go_roundg m0
                          case measure => omega
                          case rel => exact ⟨_, _, _, _, _, rfl, rfl, H, HBwt_61_p91, Pt_61_p91, Lib.hid Dt_61_c0_p91.out, Kq2_0_p83_p84_p89_p90_p91⟩
                        · skip
                          replace H := let_hid H
                          obtain ⟨t_64, ht_64, H⟩ := H
                          replace H := app_hid H
                          go_wp2_with fail
                          go_roundg m0
                          case measure => omega
                          case rel => exact ⟨_, _, _, _, _, rfl, rfl, H, HBwt_61_p99, Pt_61_p99, Lib.hid Dt_61_c0_p99.out, Kq2_0_p83_p96_p97_p98_p99⟩
                        · skip
                          replace H := let_hid H
                          obtain ⟨t_64, ht_64, H⟩ := H
                          replace H := app_hid H
                          go_wp2_with fail
                          go_roundg m0
                          case measure => omega
                          case rel => exact ⟨_, _, _, _, _, rfl, rfl, H, HBwt_61_p112, Pt_61_p112, Lib.hid Dt_61_c0_p112.out, Kq2_0_p104_p109_p110_p111_p112⟩
                  | true =>
                    replace H := ite_t H
                    replace H := let_hid H
                    obtain ⟨t_37, ht_37, H⟩ := H
                    replace H := app_hid H
                    go_wp2_with fail
                    go_roundg m1
                    case measure => omega
                    case rel => exact ⟨_, rfl, H, HBwq1, kx_10_0, kx_10_1, kx_10_2, kx_10_3, Olist_3l0, Kq1_0⟩
          | true =>
            replace H := ite_t H
            replace H := let_hid H
            obtain ⟨t_64, ht_64, H⟩ := H
            replace H := app_hid H
            go_wp2_with fail
            go_roundg m0
            case measure => omega
            case rel => exact ⟨_, _, _, _, _, rfl, rfl, H, HBwq0, Olist_3l0, Lib.hid Dlist_3l0_c0.out, Kq0_0⟩
end Go.Proofs.YtfjcibkgbalkaaaDoor.GsL1CurTimetable

/- loop.example/g01062/spec.DrawLatestLeave as a plain function, and the contract of the program's: where the plain one has an answer, the program has it. Conditions: slices read as lists. -/
namespace Go.Proofs.YtfjcibkgbalkaaaDoor.GsDrawLatestLeave
set_option linter.unusedVariables false
set_option linter.unusedSimpArgs false
open Go.RowKit
open Go.Proofs.YtfjcibkgbalkaaaDoor.Rowed Go.Proofs.YtfjcibkgbalkaaaDoor.Turn Go.Proofs.YtfjcibkgbalkaaaDoor.Aid Go.Proofs.YtfjcibkgbalkaaaDoor.GoP Go.Proofs.YtfjcibkgbalkaaaDoor.GoM

def P (fuel : Nat) (tapes : List Int → Go.Proofs.YtfjcibkgbalkaaaDoor.GoC.Tape) (code : (List Int)) : Option ((List Go.Proofs.YtfjcibkgbalkaaaDoor.PMail.Mail) × Int × Int × Int) :=
  letK (tapes code) fun (t_6 : Go.Proofs.YtfjcibkgbalkaaaDoor.GoC.Tape) =>
  bind2 (Go.Proofs.YtfjcibkgbalkaaaDoor.GsL1CurTimetable.P fuel t_6) fun (t_9 : (List Go.Proofs.YtfjcibkgbalkaaaDoor.PMail.Mail)) (t_9_tp : Go.Proofs.YtfjcibkgbalkaaaDoor.GoC.Tape) =>
  letK ([0, 1, 2, 3, 10]) fun (t_11 : (List Int)) =>
  bind2 (Go.Proofs.YtfjcibkgbalkaaaDoor.GsL1CurAmong.P t_9_tp t_11) fun (t_12 : Int) (t_12_tp : Go.Proofs.YtfjcibkgbalkaaaDoor.GoC.Tape) =>
  letK ([0, 1, 2, 3, (-1)]) fun (t_14 : (List Int)) =>
  bind2 (Go.Proofs.YtfjcibkgbalkaaaDoor.GsL1CurAmong.P t_12_tp t_14) fun (t_15 : Int) (t_15_tp : Go.Proofs.YtfjcibkgbalkaaaDoor.GoC.Tape) =>
  letK ([0, 20, 40, 60, 9999, 10000]) fun (t_17 : (List Int)) =>
  bind2 (Go.Proofs.YtfjcibkgbalkaaaDoor.GsL1CurAmong.P t_15_tp t_17) fun (t_18 : Int) (t_18_tp : Go.Proofs.YtfjcibkgbalkaaaDoor.GoC.Tape) =>
  some (t_9, t_12, t_15, t_18)

set_option maxRecDepth 100000 in
set_option maxHeartbeats 2000000 in
theorem C (fuel : Nat) (tapes : List Int → Go.Proofs.YtfjcibkgbalkaaaDoor.GoC.Tape) (code : (List Int)) (A0 : Option Addr) (c0 : Nat)  (w : World) (HE : Hid (Go.Proofs.YtfjcibkgbalkaaaDoor.GoC.Tells tapes)) (M0 : Hid (Cells w 1 A0 code.length (Go.Proofs.YtfjcibkgbalkaaaDoor.GoC.u8s code))) (N0 : Hid (code.length ≤ 9223372036854775807)) (V0 : Hid (∀ z ∈ code, 0 ≤ z ∧ z ≤ 255))  {r0 : (List Go.Proofs.YtfjcibkgbalkaaaDoor.PMail.Mail)} {r1 : Int} {r2 : Int} {r3 : Int} (H : Hid (P fuel tapes code = some (r0, r1, r2, r3))) :
    Calls Tryd.prog 24 #[.slice A0 code.length c0] w (fun e w' => ∃ A_r0 c_r0, e = .returned (.tuple #[.slice A_r0 r0.length c_r0, .int .i64 r1, .int .i64 r2, .int .i64 r3]) ∧ w'.ownsRow w.heap.size 54 4 (.slice A_r0 r0.length c_r0) r0.length (Go.Proofs.YtfjcibkgbalkaaaDoor.PMail.flat r0) ∧ Below w.heap.size w w') := by
  have HB := Lib.hid (Below.refl w.heap.size w)
  unfold P at H
  have N0o := N0.out
  go_enter Tryd.func24, Tryd.ntmps24
  replace H := let_hid H
  obtain ⟨t_6, ht_6, H⟩ := H
  obtain ⟨w_t_6, hw_t_6⟩ : ∃ x, w.alloc (.cells #[.slice A0 code.length c0, .int .i64 0, .int .u64 0] 65) = x := ⟨_, rfl⟩
  have bw_t_6 : Below w.heap.size w w_t_6 := by rw [← hw_t_6]; exact (Below.refl _ _).alloc (Nat.le_refl _) _
  have Kt_6 : Hid (Go.Proofs.YtfjcibkgbalkaaaDoor.GoC.CurIs w_t_6 w.heap.size w.heap.size A0 c0 t_6) := Lib.hid (by rw [← hw_t_6, ← ht_6]; exact Go.Proofs.YtfjcibkgbalkaaaDoor.GoC.cur_new HB.out.size (Cells.below M0.out HB.out) (fun a_ ha_ h0_ => by subst ha_; exact Go.Proofs.YtfjcibkgbalkaaaDoor.GoC.cells_lt M0.out (by unfold Go.Proofs.YtfjcibkgbalkaaaDoor.GoC.u8s; rw [List.length_map]; exact h0_)) (HE.out.2.2 code V0.out N0.out))
  have hht_6 := Lib.hid ht_6
  clear ht_6
  have HBw_t_6 := Lib.hid (Below.step HB.out bw_t_6)
  clear bw_t_6
  replace H := bind2_hid H
  obtain ⟨t_9, t_9_tp, qt_9, H⟩ := H
  go_wp2_with fail
  go_at_call 61
  refine (Go.Proofs.YtfjcibkgbalkaaaDoor.GsL1CurTimetable.C fuel (t_6) (w.heap.size) (A0) (c0) (w.heap.size) _   Kt_6 qt_9).mono ?_
  rintro e_t_9 wt_9 ⟨At_9, ct_9, rfl, ot_9, kt_9, gt_9⟩
  have Dt_9_t_6 := Lib.hid (Go.Proofs.YtfjcibkgbalkaaaDoor.GoC.apart_callcur ot_9 Kt_6.out)
  have Ot_9 := Lib.hid (own_lower ot_9 HBw_t_6.out.size)
  clear ot_9
  have Kt_9 := Lib.hid kt_9
  have Gt_9 : Hid (w_t_6.grownBy wt_9 (Value.slice (some ⟨w.heap.size, 0, none⟩) 1 1).ownBlock) := Lib.hid gt_9
  clear kt_9 gt_9
  have HBwt_9 := Lib.hid (Go.Proofs.YtfjcibkgbalkaaaDoor.GoC.below_cur HBw_t_6.out Gt_9.out HBw_t_6.out.size (Go.Proofs.YtfjcibkgbalkaaaDoor.GoC.cur_lt Kt_6.out).1)
  clear Kt_6 Gt_9
  replace H := let_hid H
  obtain ⟨t_11, ht_11, H⟩ := H
  obtain ⟨w_t_11, hw_t_11⟩ : ∃ x, wt_9.alloc (.cells #[.int .i64 0, .int .i64 1, .int .i64 2, .int .i64 3, .int .i64 10] 3) = x := ⟨_, rfl⟩
  have bw_t_11 : Below wt_9.heap.size wt_9 w_t_11 := by rw [← hw_t_11]; exact (Below.refl _ _).alloc (Nat.le_refl _) _
  have hs_t_11 := HBwt_9.out.size
  have nt_11 : t_11.length = 5 := by rw [← ht_11]; rfl
  have Ot_11 : Hid (w_t_11.ownsRow w.heap.size 3 1 (.slice (some ⟨wt_9.heap.size, 0, none⟩) 5 5) 5 (Go.Proofs.YtfjcibkgbalkaaaDoor.HelpInt.iv t_11)) := by
    rw [← hw_t_11, ← ht_11]
    have e_ : ([.int .i64 0, .int .i64 1, .int .i64 2, .int .i64 3, .int .i64 10] : List Value) = (Go.Proofs.YtfjcibkgbalkaaaDoor.HelpInt.iv ([0, 1, 2, 3, 10] : List Int)) := rfl
    exact Lib.hid (own_laid (n := 5) hs_t_11 e_ rfl (by unfold maxLen; omega))
  clear hs_t_11
  have hht_11 := Lib.hid ht_11
  clear ht_11
  replace nt_11 := Lib.hid nt_11
  have Dt_11_t_9 := Lib.hid (apart_fresh Ot_9.out)
  have Dt_11_t_6 := Lib.hid (Go.Proofs.YtfjcibkgbalkaaaDoor.GoC.apart_cur Kt_9.out)
  have HBw_t_11 := Lib.hid (Below.step HBwt_9.out bw_t_11)
  replace Ot_9 := Lib.hid (own_below Ot_9.out bw_t_11)
  replace Kt_9 := Lib.hid (Go.Proofs.YtfjcibkgbalkaaaDoor.GoC.cur_below Kt_9.out bw_t_11)
  clear bw_t_11
  replace H := bind2_hid H
  obtain ⟨t_12, t_12_tp, qt_12, H⟩ := H
  go_wp2_with fail
  have hc_ := nt_11.out
  have hv_ : (Value.slice (some ⟨wt_9.heap.size, 0, none⟩) 5 5 : Value) = Value.slice (some ⟨wt_9.heap.size, 0, none⟩) t_11.length 5 := by rw [hc_]
  try rw [hv_]
  replace Ot_11 := Lib.hid (own_len hc_ Ot_11.out)
  clear hc_ hv_
  go_wp2_with fail
  go_at_call 41
  refine (Go.Proofs.YtfjcibkgbalkaaaDoor.GsL1CurAmong.C (t_9_tp) (t_11) (some ⟨wt_9.heap.size, 0, none⟩) 5 (w.heap.size) (A0) (c0) (w.heap.size) _   (Lib.hid (own_cells Ot_11.out)) (Lib.hid (own_max Ot_11.out)) Kt_9 (Lib.hid (fun _ => Dt_11_t_6.out)) qt_12).mono ?_
  rintro e_t_12 wt_12 ⟨rfl, kt_12, gt_12⟩
  have Kt_12 := Lib.hid kt_12
  have Gt_12 : Hid (w_t_11.grownBy wt_12 (Value.slice (some ⟨w.heap.size, 0, none⟩) 1 1).ownBlock) := Lib.hid gt_12
  clear kt_12 gt_12
  have HBwt_12 := Lib.hid (Go.Proofs.YtfjcibkgbalkaaaDoor.GoC.below_cur HBw_t_11.out Gt_12.out HBw_t_11.out.size (Go.Proofs.YtfjcibkgbalkaaaDoor.GoC.cur_lt Kt_9.out).1)
  replace Ot_9 := Lib.hid (own_other Ot_9.out Gt_12.out (Apart.symm Dt_9_t_6.out))
  replace Ot_11 := Lib.hid (own_other Ot_11.out Gt_12.out (Apart.symm Dt_11_t_6.out))
  clear Kt_9 Gt_12
  replace H := let_hid H
  obtain ⟨t_14, ht_14, H⟩ := H
  obtain ⟨w_t_14, hw_t_14⟩ : ∃ x, wt_12.alloc (.cells #[.int .i64 0, .int .i64 1, .int .i64 2, .int .i64 3, .int .i64 (-1)] 3) = x := ⟨_, rfl⟩
  have bw_t_14 : Below wt_12.heap.size wt_12 w_t_14 := by rw [← hw_t_14]; exact (Below.refl _ _).alloc (Nat.le_refl _) _
  have hs_t_14 := HBwt_12.out.size
  have nt_14 : t_14.length = 5 := by rw [← ht_14]; rfl
  have Ot_14 : Hid (w_t_14.ownsRow w.heap.size 3 1 (.slice (some ⟨wt_12.heap.size, 0, none⟩) 5 5) 5 (Go.Proofs.YtfjcibkgbalkaaaDoor.HelpInt.iv t_14)) := by
    rw [← hw_t_14, ← ht_14]
    have e_ : ([.int .i64 0, .int .i64 1, .int .i64 2, .int .i64 3, .int .i64 (-1)] : List Value) = (Go.Proofs.YtfjcibkgbalkaaaDoor.HelpInt.iv ([0, 1, 2, 3, (-1)] : List Int)) := rfl
    exact Lib.hid (own_laid (n := 5) hs_t_14 e_ rfl (by unfold maxLen; omega))
  clear hs_t_14
  have hht_14 := Lib.hid ht_14
  clear ht_14
  replace nt_14 := Lib.hid nt_14
  have Dt_14_t_9 := Lib.hid (apart_fresh Ot_9.out)
  have Dt_14_t_11 := Lib.hid (apart_fresh Ot_11.out)
  have Dt_14_t_6 := Lib.hid (Go.Proofs.YtfjcibkgbalkaaaDoor.GoC.apart_cur Kt_12.out)
  have HBw_t_14 := Lib.hid (Below.step HBwt_12.out bw_t_14)
  replace Ot_9 := Lib.hid (own_below Ot_9.out bw_t_14)
  replace Ot_11 := Lib.hid (own_below Ot_11.out bw_t_14)
  replace Kt_12 := Lib.hid (Go.Proofs.YtfjcibkgbalkaaaDoor.GoC.cur_below Kt_12.out bw_t_14)
  clear bw_t_14
  replace H := bind2_hid H
  obtain ⟨t_15, t_15_tp, qt_15, H⟩ := H
  go_wp2_with fail
  have hc_ := nt_14.out
  have hv_ : (Value.slice (some ⟨wt_12.heap.size, 0, none⟩) 5 5 : Value) = Value.slice (some ⟨wt_12.heap.size, 0, none⟩) t_14.length 5 := by rw [hc_]
  try rw [hv_]
  replace Ot_14 := Lib.hid (own_len hc_ Ot_14.out)
  clear hc_ hv_
  go_wp2_with fail
  go_at_call 41
  refine (Go.Proofs.YtfjcibkgbalkaaaDoor.GsL1CurAmong.C (t_12_tp) (t_14) (some ⟨wt_12.heap.size, 0, none⟩) 5 (w.heap.size) (A0) (c0) (w.heap.size) _   (Lib.hid (own_cells Ot_14.out)) (Lib.hid (own_max Ot_14.out)) Kt_12 (Lib.hid (fun _ => Dt_14_t_6.out)) qt_15).mono ?_
  rintro e_t_15 wt_15 ⟨rfl, kt_15, gt_15⟩
  have Kt_15 := Lib.hid kt_15
  have Gt_15 : Hid (w_t_14.grownBy wt_15 (Value.slice (some ⟨w.heap.size, 0, none⟩) 1 1).ownBlock) := Lib.hid gt_15
  clear kt_15 gt_15
  have HBwt_15 := Lib.hid (Go.Proofs.YtfjcibkgbalkaaaDoor.GoC.below_cur HBw_t_14.out Gt_15.out HBw_t_14.out.size (Go.Proofs.YtfjcibkgbalkaaaDoor.GoC.cur_lt Kt_12.out).1)
  replace Ot_9 := Lib.hid (own_other Ot_9.out Gt_15.out (Apart.symm Dt_9_t_6.out))
  replace Ot_11 := Lib.hid (own_other Ot_11.out Gt_15.out (Apart.symm Dt_11_t_6.out))
  replace Ot_14 := Lib.hid (own_other Ot_14.out Gt_15.out (Apart.symm Dt_14_t_6.out))
  clear Kt_12 Gt_15
  replace H := let_hid H
  obtain ⟨t_17, ht_17, H⟩ := H
  obtain ⟨w_t_17, hw_t_17⟩ : ∃ x, wt_15.alloc (.cells #[.int .i64 0, .int .i64 20, .int .i64 40, .int .i64 60, .int .i64 9999, .int .i64 10000] 3) = x := ⟨_, rfl⟩
  have bw_t_17 : Below wt_15.heap.size wt_15 w_t_17 := by rw [← hw_t_17]; exact (Below.refl _ _).alloc (Nat.le_refl _) _
  have hs_t_17 := HBwt_15.out.size
  have nt_17 : t_17.length = 6 := by rw [← ht_17]; rfl
  have Ot_17 : Hid (w_t_17.ownsRow w.heap.size 3 1 (.slice (some ⟨wt_15.heap.size, 0, none⟩) 6 6) 6 (Go.Proofs.YtfjcibkgbalkaaaDoor.HelpInt.iv t_17)) := by
    rw [← hw_t_17, ← ht_17]
    have e_ : ([.int .i64 0, .int .i64 20, .int .i64 40, .int .i64 60, .int .i64 9999, .int .i64 10000] : List Value) = (Go.Proofs.YtfjcibkgbalkaaaDoor.HelpInt.iv ([0, 20, 40, 60, 9999, 10000] : List Int)) := rfl
    exact Lib.hid (own_laid (n := 6) hs_t_17 e_ rfl (by unfold maxLen; omega))
  clear hs_t_17
  have hht_17 := Lib.hid ht_17
  clear ht_17
  replace nt_17 := Lib.hid nt_17
  have Dt_17_t_9 := Lib.hid (apart_fresh Ot_9.out)
  have Dt_17_t_11 := Lib.hid (apart_fresh Ot_11.out)
  have Dt_17_t_14 := Lib.hid (apart_fresh Ot_14.out)
  have Dt_17_t_6 := Lib.hid (Go.Proofs.YtfjcibkgbalkaaaDoor.GoC.apart_cur Kt_15.out)
  have HBw_t_17 := Lib.hid (Below.step HBwt_15.out bw_t_17)
  replace Ot_9 := Lib.hid (own_below Ot_9.out bw_t_17)
  replace Ot_11 := Lib.hid (own_below Ot_11.out bw_t_17)
  replace Ot_14 := Lib.hid (own_below Ot_14.out bw_t_17)
  replace Kt_15 := Lib.hid (Go.Proofs.YtfjcibkgbalkaaaDoor.GoC.cur_below Kt_15.out bw_t_17)
  clear bw_t_17
  replace H := bind2_hid H
  obtain ⟨t_18, t_18_tp, qt_18, H⟩ := H
  go_wp2_with fail
  have hc_ := nt_17.out
  have hv_ : (Value.slice (some ⟨wt_15.heap.size, 0, none⟩) 6 6 : Value) = Value.slice (some ⟨wt_15.heap.size, 0, none⟩) t_17.length 6 := by rw [hc_]
  try rw [hv_]
  replace Ot_17 := Lib.hid (own_len hc_ Ot_17.out)
  clear hc_ hv_
  go_wp2_with fail
  go_at_call 41
  refine (Go.Proofs.YtfjcibkgbalkaaaDoor.GsL1CurAmong.C (t_15_tp) (t_17) (some ⟨wt_15.heap.size, 0, none⟩) 6 (w.heap.size) (A0) (c0) (w.heap.size) _   (Lib.hid (own_cells Ot_17.out)) (Lib.hid (own_max Ot_17.out)) Kt_15 (Lib.hid (fun _ => Dt_17_t_6.out)) qt_18).mono ?_
  rintro e_t_18 wt_18 ⟨rfl, kt_18, gt_18⟩
  have Kt_18 := Lib.hid kt_18
  have Gt_18 : Hid (w_t_17.grownBy wt_18 (Value.slice (some ⟨w.heap.size, 0, none⟩) 1 1).ownBlock) := Lib.hid gt_18
  clear kt_18 gt_18
  have HBwt_18 := Lib.hid (Go.Proofs.YtfjcibkgbalkaaaDoor.GoC.below_cur HBw_t_17.out Gt_18.out HBw_t_17.out.size (Go.Proofs.YtfjcibkgbalkaaaDoor.GoC.cur_lt Kt_15.out).1)
  replace Ot_9 := Lib.hid (own_other Ot_9.out Gt_18.out (Apart.symm Dt_9_t_6.out))
  replace Ot_11 := Lib.hid (own_other Ot_11.out Gt_18.out (Apart.symm Dt_11_t_6.out))
  replace Ot_14 := Lib.hid (own_other Ot_14.out Gt_18.out (Apart.symm Dt_14_t_6.out))
  replace Ot_17 := Lib.hid (own_other Ot_17.out Gt_18.out (Apart.symm Dt_17_t_6.out))
  clear Kt_15 Gt_18
  cases ret_hid H
  go_wp2_with fail
  (try simp only [Exit.inBlock, Exit.then]); refine bodyPost_ret (results_tmp4 rfl _ _ _) rfl ?_
  exact ⟨At_9, ct_9, rfl, Ot_9.out, HBwt_18.out⟩
end Go.Proofs.YtfjcibkgbalkaaaDoor.GsDrawLatestLeave

/- Plain words on the arrays of 10 numbers: the cells, a list of them as cells one after the other. No condition. -/
namespace Go.Proofs.YtfjcibkgbalkaaaDoor.PIntA10
set_option linter.unusedVariables false
set_option maxRecDepth 100000

structure IntA10 where
  x0 : Int
  x1 : Int
  x2 : Int
  x3 : Int
  x4 : Int
  x5 : Int
  x6 : Int
  x7 : Int
  x8 : Int
  x9 : Int
def IntA10.cells (s : IntA10) : List Value := [.int .i64 s.x0, .int .i64 s.x1, .int .i64 s.x2, .int .i64 s.x3, .int .i64 s.x4, .int .i64 s.x5, .int .i64 s.x6, .int .i64 s.x7, .int .i64 s.x8, .int .i64 s.x9]
def IntA10.val (s : IntA10) : Value := .agg #[.int .i64 s.x0, .int .i64 s.x1, .int .i64 s.x2, .int .i64 s.x3, .int .i64 s.x4, .int .i64 s.x5, .int .i64 s.x6, .int .i64 s.x7, .int .i64 s.x8, .int .i64 s.x9]
def IntA10.list (s : IntA10) : List Int := [s.x0, s.x1, s.x2, s.x3, s.x4, s.x5, s.x6, s.x7, s.x8, s.x9]
/-- the array with v at j -/
def IntA10.put (s : IntA10) (j v : Int) : IntA10 := if j = 0 then ⟨v, s.x1, s.x2, s.x3, s.x4, s.x5, s.x6, s.x7, s.x8, s.x9⟩ else if j = 1 then ⟨s.x0, v, s.x2, s.x3, s.x4, s.x5, s.x6, s.x7, s.x8, s.x9⟩ else if j = 2 then ⟨s.x0, s.x1, v, s.x3, s.x4, s.x5, s.x6, s.x7, s.x8, s.x9⟩ else if j = 3 then ⟨s.x0, s.x1, s.x2, v, s.x4, s.x5, s.x6, s.x7, s.x8, s.x9⟩ else if j = 4 then ⟨s.x0, s.x1, s.x2, s.x3, v, s.x5, s.x6, s.x7, s.x8, s.x9⟩ else if j = 5 then ⟨s.x0, s.x1, s.x2, s.x3, s.x4, v, s.x6, s.x7, s.x8, s.x9⟩ else if j = 6 then ⟨s.x0, s.x1, s.x2, s.x3, s.x4, s.x5, v, s.x7, s.x8, s.x9⟩ else if j = 7 then ⟨s.x0, s.x1, s.x2, s.x3, s.x4, s.x5, s.x6, v, s.x8, s.x9⟩ else if j = 8 then ⟨s.x0, s.x1, s.x2, s.x3, s.x4, s.x5, s.x6, s.x7, v, s.x9⟩ else ⟨s.x0, s.x1, s.x2, s.x3, s.x4, s.x5, s.x6, s.x7, s.x8, v⟩
theorem cells_put (s : IntA10) {n : Nat} (h : n < 10) (v : Int) : s.cells.set n (.int .i64 v) = (s.put (n : Int) v).cells := by
  rcases n with _ | _ | _ | _ | _ | _ | _ | _ | _ | _ | n
  · rfl
  · rfl
  · rfl
  · rfl
  · rfl
  · rfl
  · rfl
  · rfl
  · rfl
  · rfl
  · omega
theorem cell_at {w : World} {b q : Nat} {x0 x1 x2 x3 x4 x5 x6 x7 x8 x9 y : Int} {n : Nat} (h0 : w.cell? ⟨b, q, none⟩ = some (.int .i64 x0)) (h1 : w.cell? ⟨b, q + 1, none⟩ = some (.int .i64 x1)) (h2 : w.cell? ⟨b, q + 2, none⟩ = some (.int .i64 x2)) (h3 : w.cell? ⟨b, q + 3, none⟩ = some (.int .i64 x3)) (h4 : w.cell? ⟨b, q + 4, none⟩ = some (.int .i64 x4)) (h5 : w.cell? ⟨b, q + 5, none⟩ = some (.int .i64 x5)) (h6 : w.cell? ⟨b, q + 6, none⟩ = some (.int .i64 x6)) (h7 : w.cell? ⟨b, q + 7, none⟩ = some (.int .i64 x7)) (h8 : w.cell? ⟨b, q + 8, none⟩ = some (.int .i64 x8)) (h9 : w.cell? ⟨b, q + 9, none⟩ = some (.int .i64 x9)) (g : [x0, x1, x2, x3, x4, x5, x6, x7, x8, x9][n]? = some y) : w.cell? ⟨b, q + n, none⟩ = some (.int .i64 y) := by
  rcases n with _ | _ | _ | _ | _ | _ | _ | _ | _ | _ | n
  · obtain rfl := Option.some.inj g; exact h0
  · obtain rfl := Option.some.inj g; exact h1
  · obtain rfl := Option.some.inj g; exact h2
  · obtain rfl := Option.some.inj g; exact h3
  · obtain rfl := Option.some.inj g; exact h4
  · obtain rfl := Option.some.inj g; exact h5
  · obtain rfl := Option.some.inj g; exact h6
  · obtain rfl := Option.some.inj g; exact h7
  · obtain rfl := Option.some.inj g; exact h8
  · obtain rfl := Option.some.inj g; exact h9
  · simp at g
/-- the cells of a list of arrays, one after the other -/
def flat (l : List IntA10) : List Value := l.flatMap IntA10.cells
theorem flat_nil : flat [] = [] := rfl
theorem flat_cons (s : IntA10) (l : List IntA10) : flat (s :: l) = s.cells ++ flat l := by simp [flat]
theorem flat_snoc (l : List IntA10) (s : IntA10) : flat (l ++ [s]) = flat l ++ s.cells := by simp [flat]
theorem flat_len (l : List IntA10) : (flat l).length = l.length * 10 := by
  induction l with
  | nil => rfl
  | cons s l ih => rw [flat_cons, List.length_append, ih]; simp [IntA10.cells]; omega
theorem flat_at : ∀ (l : List IntA10) (k : Nat) (s : IntA10), l[k]? = some s → ∀ j, j < 10 → (flat l)[k * 10 + j]? = s.cells[j]?
  | [], k, s, h, _, _ => by simp at h
  | r :: l, 0, s, h, j, hj => by
    obtain rfl : r = s := by simpa using h
    rw [flat_cons, List.getElem?_append_left (by simp [IntA10.cells]; omega)]; simp
  | r :: l, k + 1, s, h, j, hj => by
    rw [flat_cons, List.getElem?_append_right (by simp [IntA10.cells]; omega), show (k + 1) * 10 + j - r.cells.length = k * 10 + j by simp [IntA10.cells]; omega]
    exact flat_at l k s (by simpa using h) j hj
end Go.Proofs.YtfjcibkgbalkaaaDoor.PIntA10

/- A record IntA10 opened into its fields. No condition. -/
namespace Go.Proofs.YtfjcibkgbalkaaaDoor.GoP
set_option linter.unusedVariables false
open Go.RowKit
def unIntA10 {ρ : Type} (s : Go.Proofs.YtfjcibkgbalkaaaDoor.PIntA10.IntA10) (f : Int → Int → Int → Int → Int → Int → Int → Int → Int → Int → Option ρ) : Option ρ := f s.x0 s.x1 s.x2 s.x3 s.x4 s.x5 s.x6 s.x7 s.x8 s.x9
theorem unIntA10_hid {ρ : Type} {x0 : Int} {x1 : Int} {x2 : Int} {x3 : Int} {x4 : Int} {x5 : Int} {x6 : Int} {x7 : Int} {x8 : Int} {x9 : Int} {f : Int → Int → Int → Int → Int → Int → Int → Int → Int → Int → Option ρ} {r : ρ} (H : Hid (unIntA10 ⟨x0, x1, x2, x3, x4, x5, x6, x7, x8, x9⟩ f = some r)) : Hid (f x0 x1 x2 x3 x4 x5 x6 x7 x8 x9 = some r) := H
end Go.Proofs.YtfjcibkgbalkaaaDoor.GoP

/- loop.example/g01062/impl.within as a plain function, and the contract of the program's: where the plain one has an answer, the program has it. Conditions: slices read as lists. -/
namespace Go.Proofs.YtfjcibkgbalkaaaDoor.GiWithin
set_option linter.unusedVariables false
set_option linter.unusedSimpArgs false
open Go.RowKit
open Go.Proofs.YtfjcibkgbalkaaaDoor.Rowed Go.Proofs.YtfjcibkgbalkaaaDoor.Turn Go.Proofs.YtfjcibkgbalkaaaDoor.Aid Go.Proofs.YtfjcibkgbalkaaaDoor.GoP Go.Proofs.YtfjcibkgbalkaaaDoor.GoM

def P (n_0 : Int) (low : Int) (high : Int) : Option (Bool) :=
  letK (decide (low ≤ n_0)) fun (t_3 : Bool) =>
  joinK (fun (t_8 : Bool) =>
  some t_8) fun jt_8 => iteK t_3 (letK (decide (n_0 ≤ high)) fun (t_7 : Bool) =>
  appK jt_8 t_7) (appK jt_8 false)

set_option maxRecDepth 100000 in
set_option maxHeartbeats 2000000 in
theorem C (n_0 : Int) (low : Int) (high : Int)   (w : World)   {r : Bool} (H : Hid (P n_0 low high = some r)) :
    Calls Tryd.prog 55 #[.int .i64 n_0, .int .i64 low, .int .i64 high] w (Gives (.bool r) w) := by
  have HB := Lib.hid (Below.refl w.heap.size w)
  unfold P at H
  go_enter Tryd.func55, Tryd.ntmps55
  replace H := let_hid H
  obtain ⟨t_3, ht_3, H⟩ := H
  replace H := join_hid H
  cases t_3 with
  | false =>
    replace H := ite_f H
    replace H := app_hid H
    obtain rfl := ret_hid H
    go_wp2_with fail
    go_ret
    exact ⟨rfl, HB.out⟩
  | true =>
    replace H := ite_t H
    replace H := let_hid H
    obtain ⟨t_7, ht_7, H⟩ := H
    replace H := app_hid H
    obtain rfl := ret_hid H
    go_wp2_with fail
    go_ret
    exact ⟨rfl, HB.out⟩

set_option maxRecDepth 100000 in
set_option maxHeartbeats 2000000 in
theorem C0 (n_0 : Int) (low : Int) (high : Int)   (w : World)   {r : Bool} (H : Hid (P n_0 low high = some r)) :
    Calls Tryd.prog 55 #[.int .i64 n_0, .int .i64 low, .int .i64 high] w (fun e w'' => e = .returned (.bool r) ∧ w'' = w) := by
  have HB := Lib.hid (Below.refl w.heap.size w)
  unfold P at H
  go_enter Tryd.func55, Tryd.ntmps55
  replace H := let_hid H
  obtain ⟨t_3, ht_3, H⟩ := H
  replace H := join_hid H
  cases t_3 with
  | false =>
    replace H := ite_f H
    replace H := app_hid H
    obtain rfl := ret_hid H
    go_wp2_with fail
    go_ret
    exact ⟨rfl, rfl⟩
  | true =>
    replace H := ite_t H
    replace H := let_hid H
    obtain ⟨t_7, ht_7, H⟩ := H
    replace H := app_hid H
    obtain rfl := ret_hid H
    go_wp2_with fail
    go_ret
    exact ⟨rfl, rfl⟩
end Go.Proofs.YtfjcibkgbalkaaaDoor.GiWithin

/- loop.example/g01062/impl.isPostOffice as a plain function, and the contract of the program's: where the plain one has an answer, the program has it. Conditions: slices read as lists. -/
namespace Go.Proofs.YtfjcibkgbalkaaaDoor.GiIsPostOffice
set_option linter.unusedVariables false
set_option linter.unusedSimpArgs false
open Go.RowKit
open Go.Proofs.YtfjcibkgbalkaaaDoor.Rowed Go.Proofs.YtfjcibkgbalkaaaDoor.Turn Go.Proofs.YtfjcibkgbalkaaaDoor.Aid Go.Proofs.YtfjcibkgbalkaaaDoor.GoP Go.Proofs.YtfjcibkgbalkaaaDoor.GoM

def P (office : Int) : Option (Bool) :=
  Option.bind (Go.Proofs.YtfjcibkgbalkaaaDoor.GiWithin.P office 0 9) fun (t_2 : Bool) =>
  some t_2

set_option maxRecDepth 100000 in
set_option maxHeartbeats 2000000 in
theorem C (office : Int)   (w : World)   {r : Bool} (H : Hid (P office = some r)) :
    Calls Tryd.prog 63 #[.int .i64 office] w (Gives (.bool r) w) := by
  have HB := Lib.hid (Below.refl w.heap.size w)
  unfold P at H
  go_enter Tryd.func63, Tryd.ntmps63
  replace H := bind_hid H
  obtain ⟨t_2, qt_2, H⟩ := H
  go_wp2_with fail
  go_at_call 55
  refine (Go.Proofs.YtfjcibkgbalkaaaDoor.GiWithin.C (office) (0) (9)  _    qt_2).mono ?_
  rintro e_t_2 wt_2 ⟨rfl, bt_2⟩
  have HBwt_2 := Lib.hid (Below.step HB.out bt_2)
  clear bt_2
  obtain rfl := ret_hid H
  go_wp2_with fail
  go_ret
  exact ⟨rfl, HBwt_2.out⟩
end Go.Proofs.YtfjcibkgbalkaaaDoor.GiIsPostOffice

/- loop.example/g01062/impl.isMinute as a plain function, and the contract of the program's: where the plain one has an answer, the program has it. Conditions: slices read as lists. -/
namespace Go.Proofs.YtfjcibkgbalkaaaDoor.GiIsMinute
set_option linter.unusedVariables false
set_option linter.unusedSimpArgs false
open Go.RowKit
open Go.Proofs.YtfjcibkgbalkaaaDoor.Rowed Go.Proofs.YtfjcibkgbalkaaaDoor.Turn Go.Proofs.YtfjcibkgbalkaaaDoor.Aid Go.Proofs.YtfjcibkgbalkaaaDoor.GoP Go.Proofs.YtfjcibkgbalkaaaDoor.GoM

def P (minute : Int) : Option (Bool) :=
  Option.bind (Go.Proofs.YtfjcibkgbalkaaaDoor.GiWithin.P minute 0 9999) fun (t_2 : Bool) =>
  some t_2

set_option maxRecDepth 100000 in
set_option maxHeartbeats 2000000 in
theorem C (minute : Int)   (w : World)   {r : Bool} (H : Hid (P minute = some r)) :
    Calls Tryd.prog 64 #[.int .i64 minute] w (Gives (.bool r) w) := by
  have HB := Lib.hid (Below.refl w.heap.size w)
  unfold P at H
  go_enter Tryd.func64, Tryd.ntmps64
  replace H := bind_hid H
  obtain ⟨t_2, qt_2, H⟩ := H
  go_wp2_with fail
  go_at_call 55
  refine (Go.Proofs.YtfjcibkgbalkaaaDoor.GiWithin.C (minute) (0) (9999)  _    qt_2).mono ?_
  rintro e_t_2 wt_2 ⟨rfl, bt_2⟩
  have HBwt_2 := Lib.hid (Below.step HB.out bt_2)
  clear bt_2
  obtain rfl := ret_hid H
  go_wp2_with fail
  go_ret
  exact ⟨rfl, HBwt_2.out⟩
end Go.Proofs.YtfjcibkgbalkaaaDoor.GiIsMinute

/- loop.example/g01062/impl.isMail as a plain function, and the contract of the program's: where the plain one has an answer, the program has it. Conditions: slices read as lists. -/
namespace Go.Proofs.YtfjcibkgbalkaaaDoor.GiIsMail
set_option linter.unusedVariables false
set_option linter.unusedSimpArgs false
open Go.RowKit
open Go.Proofs.YtfjcibkgbalkaaaDoor.Rowed Go.Proofs.YtfjcibkgbalkaaaDoor.Turn Go.Proofs.YtfjcibkgbalkaaaDoor.Aid Go.Proofs.YtfjcibkgbalkaaaDoor.GoP Go.Proofs.YtfjcibkgbalkaaaDoor.GoM

def P (x : Go.Proofs.YtfjcibkgbalkaaaDoor.PMail.Mail) : Option (Bool) :=
  unMail x fun (x_leave : Int) (x_from_ : Int) (x_to_ : Int) (x_arrive : Int) =>
  Option.bind (Go.Proofs.YtfjcibkgbalkaaaDoor.GiIsPostOffice.P x_from_) fun (t_4 : Bool) =>
  joinK (fun (t_9 : Bool) =>
  joinK (fun (t_16 : Bool) =>
  joinK (fun (t_21 : Bool) =>
  joinK (fun (t_26 : Bool) =>
  joinK (fun (t_33 : Bool) =>
  some t_33) fun jt_33 => iteK t_26 (letK (decide (x_leave < x_arrive)) fun (t_32 : Bool) =>
  appK jt_33 t_32) (appK jt_33 false)) fun jt_26 => iteK t_21 (Option.bind (Go.Proofs.YtfjcibkgbalkaaaDoor.GiIsMinute.P x_arrive) fun (t_25 : Bool) =>
  appK jt_26 t_25) (appK jt_26 false)) fun jt_21 => iteK t_16 (Option.bind (Go.Proofs.YtfjcibkgbalkaaaDoor.GiIsMinute.P x_leave) fun (t_20 : Bool) =>
  appK jt_21 t_20) (appK jt_21 false)) fun jt_16 => iteK t_9 (letK (x_from_ != x_to_) fun (t_15 : Bool) =>
  appK jt_16 t_15) (appK jt_16 false)) fun jt_9 => iteK t_4 (Option.bind (Go.Proofs.YtfjcibkgbalkaaaDoor.GiIsPostOffice.P x_to_) fun (t_8 : Bool) =>
  appK jt_9 t_8) (appK jt_9 false)

set_option maxRecDepth 100000 in
set_option maxHeartbeats 2000000 in
theorem C (x : Go.Proofs.YtfjcibkgbalkaaaDoor.PMail.Mail)   (w : World)   {r : Bool} (H : Hid (P x = some r)) :
    Calls Tryd.prog 73 #[x.val] w (Gives (.bool r) w) := by
  have HB := Lib.hid (Below.refl w.heap.size w)
  unfold P at H
  obtain ⟨x_leave, x_from_, x_to_, x_arrive⟩ := x
  replace H := unMail_hid H
  unfold Go.Proofs.YtfjcibkgbalkaaaDoor.PMail.Mail.val
  go_enter Tryd.func73, Tryd.ntmps73
  obtain ⟨w_x_0, hw_x_0⟩ : ∃ x, w.alloc (.cells #[.int .i64 x_leave, .int .i64 x_from_, .int .i64 x_to_, .int .i64 x_arrive] 54) = x := ⟨_, rfl⟩
  have bw_x_0 : Below w.heap.size w w_x_0 := by rw [← hw_x_0]; exact (Below.refl _ _).alloc (Nat.le_refl _) _
  have HBw_x_0 := Lib.hid (Below.step HB.out bw_x_0)
  clear bw_x_0
  have kx_0_0 : w_x_0.cell? ⟨w.heap.size, 0, none⟩ = some (.int .i64 x_leave) := by rw [← hw_x_0]; exact box_new _ _ _ 0 _ rfl
  have kx_0_1 : w_x_0.cell? ⟨w.heap.size, 1, none⟩ = some (.int .i64 x_from_) := by rw [← hw_x_0]; exact box_new _ _ _ 1 _ rfl
  have kx_0_2 : w_x_0.cell? ⟨w.heap.size, 2, none⟩ = some (.int .i64 x_to_) := by rw [← hw_x_0]; exact box_new _ _ _ 2 _ rfl
  have kx_0_3 : w_x_0.cell? ⟨w.heap.size, 3, none⟩ = some (.int .i64 x_arrive) := by rw [← hw_x_0]; exact box_new _ _ _ 3 _ rfl
  replace H := bind_hid H
  obtain ⟨t_4, qt_4, H⟩ := H
  go_wp2_with fail
  go_at_call 63
  refine (Go.Proofs.YtfjcibkgbalkaaaDoor.GiIsPostOffice.C (x_from_)  _    qt_4).mono ?_
  rintro e_t_4 wt_4 ⟨rfl, bt_4⟩
  have HBwt_4 := Lib.hid (Below.step HBw_x_0.out bt_4)
  replace kx_0_0 := cell_below bt_4 kx_0_0
  replace kx_0_1 := cell_below bt_4 kx_0_1
  replace kx_0_2 := cell_below bt_4 kx_0_2
  replace kx_0_3 := cell_below bt_4 kx_0_3
  clear bt_4
  replace H := join_hid H
  cases t_4 with
  | false =>
    replace H := ite_f H
    replace H := app_hid H
    replace H := join_hid H
    replace H := ite_f H
    replace H := app_hid H
    replace H := join_hid H
    replace H := ite_f H
    replace H := app_hid H
    replace H := join_hid H
    replace H := ite_f H
    replace H := app_hid H
    replace H := join_hid H
    replace H := ite_f H
    replace H := app_hid H
    obtain rfl := ret_hid H
    go_wp2_with fail
    go_ret
    exact ⟨rfl, HBwt_4.out⟩
  | true =>
    replace H := ite_t H
    replace H := bind_hid H
    obtain ⟨t_8, qt_8, H⟩ := H
    go_wp2_with fail
    go_at_call 63
    refine (Go.Proofs.YtfjcibkgbalkaaaDoor.GiIsPostOffice.C (x_to_)  _    qt_8).mono ?_
    rintro e_t_8 wt_8 ⟨rfl, bt_8⟩
    have HBwt_8 := Lib.hid (Below.step HBwt_4.out bt_8)
    replace kx_0_0 := cell_below bt_8 kx_0_0
    replace kx_0_1 := cell_below bt_8 kx_0_1
    replace kx_0_2 := cell_below bt_8 kx_0_2
    replace kx_0_3 := cell_below bt_8 kx_0_3
    clear bt_8
    replace H := app_hid H
    replace H := join_hid H
    cases t_8 with
    | false =>
      replace H := ite_f H
      replace H := app_hid H
      replace H := join_hid H
      replace H := ite_f H
      replace H := app_hid H
      replace H := join_hid H
      replace H := ite_f H
      replace H := app_hid H
      replace H := join_hid H
      replace H := ite_f H
      replace H := app_hid H
      obtain rfl := ret_hid H
      go_wp2_with fail
      go_ret
      exact ⟨rfl, HBwt_8.out⟩
    | true =>
      replace H := ite_t H
      replace H := let_hid H
      obtain ⟨t_15, ht_15, H⟩ := H
      replace H := app_hid H
      replace H := join_hid H
      cases t_15 with
      | false =>
        replace H := ite_f H
        replace H := app_hid H
        replace H := join_hid H
        replace H := ite_f H
        replace H := app_hid H
        replace H := join_hid H
        replace H := ite_f H
        replace H := app_hid H
        obtain rfl := ret_hid H
        go_wp2_with fail
        go_ret
        exact ⟨rfl, HBwt_8.out⟩
      | true =>
        replace H := ite_t H
        replace H := bind_hid H
        obtain ⟨t_20, qt_20, H⟩ := H
        go_wp2_with fail
        go_at_call 64
        refine (Go.Proofs.YtfjcibkgbalkaaaDoor.GiIsMinute.C (x_leave)  _    qt_20).mono ?_
        rintro e_t_20 wt_20 ⟨rfl, bt_20⟩
        have HBwt_20 := Lib.hid (Below.step HBwt_8.out bt_20)
        replace kx_0_0 := cell_below bt_20 kx_0_0
        replace kx_0_1 := cell_below bt_20 kx_0_1
        replace kx_0_2 := cell_below bt_20 kx_0_2
        replace kx_0_3 := cell_below bt_20 kx_0_3
        clear bt_20
        replace H := app_hid H
        replace H := join_hid H
        cases t_20 with
        | false =>
          replace H := ite_f H
          replace H := app_hid H
          replace H := join_hid H
          replace H := ite_f H
          replace H := app_hid H
          obtain rfl := ret_hid H
          go_wp2_with fail
          go_ret
          exact ⟨rfl, HBwt_20.out⟩
        | true =>
          replace H := ite_t H
          replace H := bind_hid H
          obtain ⟨t_25, qt_25, H⟩ := H
          go_wp2_with fail
          go_at_call 64
          refine (Go.Proofs.YtfjcibkgbalkaaaDoor.GiIsMinute.C (x_arrive)  _    qt_25).mono ?_
          rintro e_t_25 wt_25 ⟨rfl, bt_25⟩
          have HBwt_25 := Lib.hid (Below.step HBwt_20.out bt_25)
          replace kx_0_0 := cell_below bt_25 kx_0_0
          replace kx_0_1 := cell_below bt_25 kx_0_1
          replace kx_0_2 := cell_below bt_25 kx_0_2
          replace kx_0_3 := cell_below bt_25 kx_0_3
          clear bt_25
          replace H := app_hid H
          replace H := join_hid H
          cases t_25 with
          | false =>
            replace H := ite_f H
            replace H := app_hid H
            obtain rfl := ret_hid H
            go_wp2_with fail
            go_ret
            exact ⟨rfl, HBwt_25.out⟩
          | true =>
            replace H := ite_t H
            replace H := let_hid H
            obtain ⟨t_32, ht_32, H⟩ := H
            replace H := app_hid H
            obtain rfl := ret_hid H
            go_wp2_with fail
            go_ret
            exact ⟨rfl, HBwt_25.out⟩
end Go.Proofs.YtfjcibkgbalkaaaDoor.GiIsMail

/- cmp.isNaN[int] as a plain function, and the contract of the program's: where the plain one has an answer, the program has it. Conditions: slices read as lists. -/
namespace Go.Proofs.YtfjcibkgbalkaaaDoor.GxCmpIsNaNInt
set_option linter.unusedVariables false
set_option linter.unusedSimpArgs false
open Go.RowKit
open Go.Proofs.YtfjcibkgbalkaaaDoor.Rowed Go.Proofs.YtfjcibkgbalkaaaDoor.Turn Go.Proofs.YtfjcibkgbalkaaaDoor.Aid Go.Proofs.YtfjcibkgbalkaaaDoor.GoP Go.Proofs.YtfjcibkgbalkaaaDoor.GoM

def P (x : Int) : Option (Bool) :=
  some false

set_option maxRecDepth 100000 in
set_option maxHeartbeats 2000000 in
theorem C (x : Int)   (w : World)   {r : Bool} (H : Hid (P x = some r)) :
    Calls Tryd.prog 94 #[.int .i64 x] w (Gives (.bool r) w) := by
  have HB := Lib.hid (Below.refl w.heap.size w)
  unfold P at H
  go_enter Tryd.func94, Tryd.ntmps94
  obtain rfl := ret_hid H
  go_wp2_with fail
  go_ret
  exact ⟨rfl, HB.out⟩

set_option maxRecDepth 100000 in
set_option maxHeartbeats 2000000 in
theorem C0 (x : Int)   (w : World)   {r : Bool} (H : Hid (P x = some r)) :
    Calls Tryd.prog 94 #[.int .i64 x] w (fun e w'' => e = .returned (.bool r) ∧ w'' = w) := by
  have HB := Lib.hid (Below.refl w.heap.size w)
  unfold P at H
  go_enter Tryd.func94, Tryd.ntmps94
  obtain rfl := ret_hid H
  go_wp2_with fail
  go_ret
  exact ⟨rfl, rfl⟩
end Go.Proofs.YtfjcibkgbalkaaaDoor.GxCmpIsNaNInt

/- cmp.Compare[int] as a plain function, and the contract of the program's: where the plain one has an answer, the program has it. Conditions: slices read as lists. -/
namespace Go.Proofs.YtfjcibkgbalkaaaDoor.GxCmpCompareInt
set_option linter.unusedVariables false
set_option linter.unusedSimpArgs false
open Go.RowKit
open Go.Proofs.YtfjcibkgbalkaaaDoor.Rowed Go.Proofs.YtfjcibkgbalkaaaDoor.Turn Go.Proofs.YtfjcibkgbalkaaaDoor.Aid Go.Proofs.YtfjcibkgbalkaaaDoor.GoP Go.Proofs.YtfjcibkgbalkaaaDoor.GoM

def P (x : Int) (y : Int) : Option (Int) :=
  Option.bind (Go.Proofs.YtfjcibkgbalkaaaDoor.GxCmpIsNaNInt.P x) fun (t_2 : Bool) =>
  Option.bind (Go.Proofs.YtfjcibkgbalkaaaDoor.GxCmpIsNaNInt.P y) fun (t_5 : Bool) =>
  iteK t_2
  (iteK t_5
  (some 0)
  (some (-1)))
  (iteK t_5
  (some 1)
  (letK (decide (x < y)) fun (t_15 : Bool) =>
  iteK t_15
  (some (-1))
  (letK (decide (y < x)) fun (t_19 : Bool) =>
  iteK t_19
  (some 1)
  (some 0))))

set_option maxRecDepth 100000 in
set_option maxHeartbeats 2000000 in
theorem C (x : Int) (y : Int)   (w : World)   {r : Int} (H : Hid (P x y = some r)) :
    Calls Tryd.prog 82 #[.int .i64 x, .int .i64 y] w (Gives (.int .i64 r) w) := by
  have HB := Lib.hid (Below.refl w.heap.size w)
  unfold P at H
  go_enter Tryd.func82, Tryd.ntmps82
  replace H := bind_hid H
  obtain ⟨t_2, qt_2, H⟩ := H
  go_wp2_with fail
  go_at_call 94
  refine (Go.Proofs.YtfjcibkgbalkaaaDoor.GxCmpIsNaNInt.C (x)  _    qt_2).mono ?_
  rintro e_t_2 wt_2 ⟨rfl, bt_2⟩
  have HBwt_2 := Lib.hid (Below.step HB.out bt_2)
  clear bt_2
  replace H := bind_hid H
  obtain ⟨t_5, qt_5, H⟩ := H
  go_wp2_with fail
  go_at_call 94
  refine (Go.Proofs.YtfjcibkgbalkaaaDoor.GxCmpIsNaNInt.C (y)  _    qt_5).mono ?_
  rintro e_t_5 wt_5 ⟨rfl, bt_5⟩
  have HBwt_5 := Lib.hid (Below.step HBwt_2.out bt_5)
  clear bt_5
  cases t_2 with
  | false =>
    replace H := ite_f H
    cases t_5 with
    | false =>
      replace H := ite_f H
      replace H := let_hid H
      obtain ⟨t_15, ht_15, H⟩ := H
      cases t_15 with
      | false =>
        replace H := ite_f H
        replace H := let_hid H
        obtain ⟨t_19, ht_19, H⟩ := H
        cases t_19 with
        | false =>
          replace H := ite_f H
          obtain rfl := ret_hid H
          go_wp2_with fail
          go_ret
          exact ⟨rfl, HBwt_5.out⟩
        | true =>
          replace H := ite_t H
          obtain rfl := ret_hid H
          go_wp2_with fail
          go_ret
          exact ⟨rfl, HBwt_5.out⟩
      | true =>
        replace H := ite_t H
        obtain rfl := ret_hid H
        go_wp2_with fail
        go_ret
        exact ⟨rfl, HBwt_5.out⟩
    | true =>
      replace H := ite_t H
      obtain rfl := ret_hid H
      go_wp2_with fail
      go_ret
      exact ⟨rfl, HBwt_5.out⟩
  | true =>
    replace H := ite_t H
    cases t_5 with
    | false =>
      replace H := ite_f H
      obtain rfl := ret_hid H
      go_wp2_with fail
      go_ret
      exact ⟨rfl, HBwt_5.out⟩
    | true =>
      replace H := ite_t H
      obtain rfl := ret_hid H
      go_wp2_with fail
      go_ret
      exact ⟨rfl, HBwt_5.out⟩
end Go.Proofs.YtfjcibkgbalkaaaDoor.GxCmpCompareInt

/- cmp.Or[int] as a plain function, and the contract of the program's: where the plain one has an answer, the program has it. Conditions: slices read as lists. -/
namespace Go.Proofs.YtfjcibkgbalkaaaDoor.GxCmpOrInt
set_option linter.unusedVariables false
set_option linter.unusedSimpArgs false
open Go.RowKit
open Go.Proofs.YtfjcibkgbalkaaaDoor.Rowed Go.Proofs.YtfjcibkgbalkaaaDoor.Turn Go.Proofs.YtfjcibkgbalkaaaDoor.Aid Go.Proofs.YtfjcibkgbalkaaaDoor.GoP Go.Proofs.YtfjcibkgbalkaaaDoor.GoM

def l0 (vals : (List Int)) (k0 : Nat) (s : Unit) (nx0 bk0 : Unit → Option (Int)) : Option (Int) :=
  
  Option.bind (idx vals (k0 : Int)) fun (yt_6 : Int) =>
  letK (yt_6 != 0) fun (t_11 : Bool) =>
  iteK t_11
  (some yt_6)
  (appK nx0 ())

def e0  (s : Unit) : Option (Int) :=
  
  some 0

def P (vals : (List Int)) : Option (Int) :=
  cntK (l0 vals) (vals.length) 0 () (e0 )

set_option maxRecDepth 100000 in
set_option maxHeartbeats 2000000 in
theorem C (vals : (List Int)) (A0 : Option Addr) (c0 : Nat)  (w : World) (M0 : Hid (Cells w 1 A0 vals.length (Go.Proofs.YtfjcibkgbalkaaaDoor.HelpInt.iv vals))) (N0 : Hid (vals.length ≤ 9223372036854775807))  {r : Int} (H : Hid (P vals = some r)) :
    Calls Tryd.prog 81 #[.slice A0 vals.length c0] w (Gives (.int .i64 r) w) := by
  have HB := Lib.hid (Below.refl w.heap.size w)
  unfold P at H
  have N0o := N0.out
  go_enter Tryd.func81, Tryd.ntmps81
  go_wp2_with fail
  go_loopg [8] (vals.length) (fun m_ v8_ wr => ∃ (k0 : Nat) , k0 + m_ = vals.length ∧ v8_ = .int .i64 (k0 : Int) ∧ Hid (cntK (l0 vals) m_ k0 () (e0 ) = some r) ∧ Hid (Below w.heap.size w wr))
  case atStart => exact ⟨0, by omega, rfl, H, HB⟩
  case round =>
    obtain ⟨k0, hkm0, rfl, H, HBwr0⟩ := hrel
    rename World => wr0
    cases gk with
    | zero =>
      obtain rfl : k0 = vals.length := by omega
      have hc0 : decide (((vals.length : Nat) : Int) < ((vals.length : Nat) : Int)) = false := by simp
      replace H := cnt_zero H
      unfold e0 at H
      obtain rfl := ret_hid H
      go_wp2_with fail
      go_ret
      exact ⟨rfl, HBwr0.out⟩
    | succ m0 =>
      have hlt0 : k0 < vals.length := by omega
      have hc0 : decide ((k0 : Int) < ((vals.length : Nat) : Int)) = true := by simp; omega
      replace H := cnt_succ H
      unfold l0 at H
      replace H := idx_hid H
      obtain ⟨nt_6, yt_6, et_6, lt_6, gt_6, H⟩ := H
      obtain rfl : k0 = nt_6 := by omega
      clear et_6
      obtain ⟨ab_t_6, ao_t_6, zt_6, At_6, z_t_6, ct_6_0⟩ := Go.Proofs.YtfjcibkgbalkaaaDoor.HelpInt.Ints.at_ M0.out lt_6
      obtain rfl := Option.some.inj (gt_6.out.symm.trans z_t_6)
      subst At_6
      have ltt_6 := cell_lt ct_6_0
      replace ct_6_0 := cell_below HBwr0.out ct_6_0
      clear z_t_6
      have b0t_6 : (0 : Int) ≤ (k0 : Int) := by omega
      have b1t_6 : (k0 : Int) < ((vals.length : Nat) : Int) := by omega
      have b2t_6 : ((k0 : Int)).toNat = k0 := by omega
      replace H := let_hid H
      obtain ⟨t_11, ht_11, H⟩ := H
      cases t_11 with
      | false =>
        replace H := ite_f H
        replace H := app_hid H
        go_wp2_with fail
        go_roundg m0
        case measure => omega
        case rel => exact ⟨k0 + 1, by omega, by go_num, H, HBwr0⟩
      | true =>
        replace H := ite_t H
        obtain rfl := ret_hid H
        go_wp2_with fail
        go_ret
        exact ⟨rfl, HBwr0.out⟩
end Go.Proofs.YtfjcibkgbalkaaaDoor.GxCmpOrInt

/- loop.example/g01062/impl.compareMails as a plain function, and the contract of the program's: where the plain one has an answer, the program has it. Conditions: slices read as lists. -/
namespace Go.Proofs.YtfjcibkgbalkaaaDoor.GiCompareMails
set_option linter.unusedVariables false
set_option linter.unusedSimpArgs false
open Go.RowKit
open Go.Proofs.YtfjcibkgbalkaaaDoor.Rowed Go.Proofs.YtfjcibkgbalkaaaDoor.Turn Go.Proofs.YtfjcibkgbalkaaaDoor.Aid Go.Proofs.YtfjcibkgbalkaaaDoor.GoP Go.Proofs.YtfjcibkgbalkaaaDoor.GoM

def P (a : Go.Proofs.YtfjcibkgbalkaaaDoor.PMail.Mail) (b : Go.Proofs.YtfjcibkgbalkaaaDoor.PMail.Mail) : Option (Int) :=
  unMail a fun (a_leave : Int) (a_from_ : Int) (a_to_ : Int) (a_arrive : Int) =>
  unMail b fun (b_leave : Int) (b_from_ : Int) (b_to_ : Int) (b_arrive : Int) =>
  Option.bind (Go.Proofs.YtfjcibkgbalkaaaDoor.GxCmpCompareInt.P a_leave b_leave) fun (t_7 : Int) =>
  Option.bind (Go.Proofs.YtfjcibkgbalkaaaDoor.GxCmpCompareInt.P a_from_ b_from_) fun (t_12 : Int) =>
  Option.bind (Go.Proofs.YtfjcibkgbalkaaaDoor.GxCmpCompareInt.P a_to_ b_to_) fun (t_17 : Int) =>
  Option.bind (Go.Proofs.YtfjcibkgbalkaaaDoor.GxCmpCompareInt.P a_arrive b_arrive) fun (t_22 : Int) =>
  letK ([t_7, t_12, t_17, t_22]) fun (t_23 : (List Int)) =>
  Option.bind (Go.Proofs.YtfjcibkgbalkaaaDoor.GxCmpOrInt.P t_23) fun (t_24 : Int) =>
  some t_24

set_option maxRecDepth 100000 in
set_option maxHeartbeats 2000000 in
theorem C (a : Go.Proofs.YtfjcibkgbalkaaaDoor.PMail.Mail) (b : Go.Proofs.YtfjcibkgbalkaaaDoor.PMail.Mail)   (w : World)   {r : Int} (H : Hid (P a b = some r)) :
    Calls Tryd.prog 86 #[a.val, b.val] w (Gives (.int .i64 r) w) := by
  have HB := Lib.hid (Below.refl w.heap.size w)
  unfold P at H
  obtain ⟨a_leave, a_from_, a_to_, a_arrive⟩ := a
  replace H := unMail_hid H
  obtain ⟨b_leave, b_from_, b_to_, b_arrive⟩ := b
  replace H := unMail_hid H
  unfold Go.Proofs.YtfjcibkgbalkaaaDoor.PMail.Mail.val
  go_enter Tryd.func86, Tryd.ntmps86
  obtain ⟨w_a_0, hw_a_0⟩ : ∃ x, w.alloc (.cells #[.int .i64 a_leave, .int .i64 a_from_, .int .i64 a_to_, .int .i64 a_arrive] 54) = x := ⟨_, rfl⟩
  have bw_a_0 : Below w.heap.size w w_a_0 := by rw [← hw_a_0]; exact (Below.refl _ _).alloc (Nat.le_refl _) _
  have HBw_a_0 := Lib.hid (Below.step HB.out bw_a_0)
  clear bw_a_0
  have ka_0_0 : w_a_0.cell? ⟨w.heap.size, 0, none⟩ = some (.int .i64 a_leave) := by rw [← hw_a_0]; exact box_new _ _ _ 0 _ rfl
  have ka_0_1 : w_a_0.cell? ⟨w.heap.size, 1, none⟩ = some (.int .i64 a_from_) := by rw [← hw_a_0]; exact box_new _ _ _ 1 _ rfl
  have ka_0_2 : w_a_0.cell? ⟨w.heap.size, 2, none⟩ = some (.int .i64 a_to_) := by rw [← hw_a_0]; exact box_new _ _ _ 2 _ rfl
  have ka_0_3 : w_a_0.cell? ⟨w.heap.size, 3, none⟩ = some (.int .i64 a_arrive) := by rw [← hw_a_0]; exact box_new _ _ _ 3 _ rfl
  obtain ⟨w_b_1, hw_b_1⟩ : ∃ x, w_a_0.alloc (.cells #[.int .i64 b_leave, .int .i64 b_from_, .int .i64 b_to_, .int .i64 b_arrive] 54) = x := ⟨_, rfl⟩
  have bw_b_1 : Below w_a_0.heap.size w_a_0 w_b_1 := by rw [← hw_b_1]; exact (Below.refl _ _).alloc (Nat.le_refl _) _
  have HBw_b_1 := Lib.hid (Below.step HBw_a_0.out bw_b_1)
  have ka_0_0__113 := cell_below bw_b_1 ka_0_0
  have ka_0_1__114 := cell_below bw_b_1 ka_0_1
  have ka_0_2__115 := cell_below bw_b_1 ka_0_2
  have ka_0_3__116 := cell_below bw_b_1 ka_0_3
  clear bw_b_1
  have kb_1_0 : w_b_1.cell? ⟨w_a_0.heap.size, 0, none⟩ = some (.int .i64 b_leave) := by rw [← hw_b_1]; exact box_new _ _ _ 0 _ rfl
  have kb_1_1 : w_b_1.cell? ⟨w_a_0.heap.size, 1, none⟩ = some (.int .i64 b_from_) := by rw [← hw_b_1]; exact box_new _ _ _ 1 _ rfl
  have kb_1_2 : w_b_1.cell? ⟨w_a_0.heap.size, 2, none⟩ = some (.int .i64 b_to_) := by rw [← hw_b_1]; exact box_new _ _ _ 2 _ rfl
  have kb_1_3 : w_b_1.cell? ⟨w_a_0.heap.size, 3, none⟩ = some (.int .i64 b_arrive) := by rw [← hw_b_1]; exact box_new _ _ _ 3 _ rfl
  go_wp2_with fail
  clear ka_0_0 ka_0_1 ka_0_2 ka_0_3
  have bd1 : Below w_b_1.heap.size w_b_1 w_b_1.drew := (Below.refl _ _).drew
  have HBw_b_1.drew := Lib.hid (Below.step HBw_b_1.out bd1)
  replace ka_0_0__113 := cell_below bd1 ka_0_0__113
  replace ka_0_1__114 := cell_below bd1 ka_0_1__114
  replace ka_0_2__115 := cell_below bd1 ka_0_2__115
  replace ka_0_3__116 := cell_below bd1 ka_0_3__116
  replace kb_1_0 := cell_below bd1 kb_1_0
  replace kb_1_1 := cell_below bd1 kb_1_1
  replace kb_1_2 := cell_below bd1 kb_1_2
  replace kb_1_3 := cell_below bd1 kb_1_3
  clear bd1
  replace H := bind_hid H
  obtain ⟨t_7, qt_7, H⟩ := H
  replace H := bind_hid H
  obtain ⟨t_12, qt_12, H⟩ := H
  replace H := bind_hid H
  obtain ⟨t_17, qt_17, H⟩ := H
  replace H := bind_hid H
  obtain ⟨t_22, qt_22, H⟩ := H
  replace H := let_hid H
  obtain ⟨t_23, ht_23, H⟩ := H
  replace H := bind_hid H
  obtain ⟨t_24, qt_24, H⟩ := H
  go_region_held3 (fun w' => w'.cell? ⟨w.heap.size, 0, none⟩ = some (.int .i64 a_leave) ∧ w'.cell? ⟨w.heap.size, 1, none⟩ = some (.int .i64 a_from_) ∧ w'.cell? ⟨w.heap.size, 2, none⟩ = some (.int .i64 a_to_) ∧ w'.cell? ⟨w.heap.size, 3, none⟩ = some (.int .i64 a_arrive) ∧ w'.cell? ⟨w_a_0.heap.size, 0, none⟩ = some (.int .i64 b_leave) ∧ w'.cell? ⟨w_a_0.heap.size, 1, none⟩ = some (.int .i64 b_from_) ∧ w'.cell? ⟨w_a_0.heap.size, 2, none⟩ = some (.int .i64 b_to_) ∧ w'.cell? ⟨w_a_0.heap.size, 3, none⟩ = some (.int .i64 b_arrive)) (first | exact ⟨ka_0_0__113, ka_0_1__114, ka_0_2__115, ka_0_3__116, kb_1_0, kb_1_1, kb_1_2, kb_1_3⟩ | exact ⟨ka_0_0__117, ka_0_1__118, ka_0_2__119, ka_0_3__120, kb_1_0__121, kb_1_1__122, kb_1_2__123, kb_1_3__124⟩)
      (first
        | (go_at_call 82
           refine (Go.Proofs.YtfjcibkgbalkaaaDoor.GxCmpCompareInt.C (a_leave) (b_leave)  _    qt_7).mono ?_
           rintro e_t_7 wt_7 ⟨rfl, bt_7⟩
           have HBwt_7 := Lib.hid (Below.step HBw_b_1.drew.out bt_7)
           replace ka_0_0__113 := cell_below bt_7 ka_0_0__113
           replace ka_0_1__114 := cell_below bt_7 ka_0_1__114
           replace ka_0_2__115 := cell_below bt_7 ka_0_2__115
           replace ka_0_3__116 := cell_below bt_7 ka_0_3__116
           replace kb_1_0 := cell_below bt_7 kb_1_0
           replace kb_1_1 := cell_below bt_7 kb_1_1
           replace kb_1_2 := cell_below bt_7 kb_1_2
           replace kb_1_3 := cell_below bt_7 kb_1_3
           clear bt_7
           clear qt_7)
        | (go_at_call 82
           refine (Go.Proofs.YtfjcibkgbalkaaaDoor.GxCmpCompareInt.C (a_from_) (b_from_)  _    qt_12).mono ?_
           rintro e_t_12 wt_12 ⟨rfl, bt_12⟩
           have HBwt_12 := Lib.hid (Below.step HBwt_7.out bt_12)
           replace ka_0_0__113 := cell_below bt_12 ka_0_0__113
           replace ka_0_1__114 := cell_below bt_12 ka_0_1__114
           replace ka_0_2__115 := cell_below bt_12 ka_0_2__115
           replace ka_0_3__116 := cell_below bt_12 ka_0_3__116
           replace kb_1_0 := cell_below bt_12 kb_1_0
           replace kb_1_1 := cell_below bt_12 kb_1_1
           replace kb_1_2 := cell_below bt_12 kb_1_2
           replace kb_1_3 := cell_below bt_12 kb_1_3
           clear bt_12
           clear qt_12)
        | (go_at_call 82
           refine (Go.Proofs.YtfjcibkgbalkaaaDoor.GxCmpCompareInt.C (a_to_) (b_to_)  _    qt_17).mono ?_
           rintro e_t_17 wt_17 ⟨rfl, bt_17⟩
           have HBwt_17 := Lib.hid (Below.step HBwt_12.out bt_17)
           replace ka_0_0__113 := cell_below bt_17 ka_0_0__113
           replace ka_0_1__114 := cell_below bt_17 ka_0_1__114
           replace ka_0_2__115 := cell_below bt_17 ka_0_2__115
           replace ka_0_3__116 := cell_below bt_17 ka_0_3__116
           replace kb_1_0 := cell_below bt_17 kb_1_0
           replace kb_1_1 := cell_below bt_17 kb_1_1
           replace kb_1_2 := cell_below bt_17 kb_1_2
           replace kb_1_3 := cell_below bt_17 kb_1_3
           clear bt_17
           clear qt_17)
        | (go_at_call 82
           refine (Go.Proofs.YtfjcibkgbalkaaaDoor.GxCmpCompareInt.C (a_arrive) (b_arrive)  _    qt_22).mono ?_
           rintro e_t_22 wt_22 ⟨rfl, bt_22⟩
           have HBwt_22 := Lib.hid (Below.step HBwt_17.out bt_22)
           replace ka_0_0__113 := cell_below bt_22 ka_0_0__113
           replace ka_0_1__114 := cell_below bt_22 ka_0_1__114
           replace ka_0_2__115 := cell_below bt_22 ka_0_2__115
           replace ka_0_3__116 := cell_below bt_22 ka_0_3__116
           replace kb_1_0 := cell_below bt_22 kb_1_0
           replace kb_1_1 := cell_below bt_22 kb_1_1
           replace kb_1_2 := cell_below bt_22 kb_1_2
           replace kb_1_3 := cell_below bt_22 kb_1_3
           clear bt_22
           clear qt_22
           obtain ⟨w_t_23, hw_t_23⟩ : ∃ x, wt_22.alloc (.cells #[.int .i64 t_7, .int .i64 t_12, .int .i64 t_17, .int .i64 t_22] 3) = x := ⟨_, rfl⟩
           have bw_t_23 : Below wt_22.heap.size wt_22 w_t_23 := by rw [← hw_t_23]; exact (Below.refl _ _).alloc (Nat.le_refl _) _
           have hs_t_23 := HBwt_22.out.size
           have nt_23 : t_23.length = 4 := by rw [← ht_23]; rfl
           have Ot_23 : Hid (w_t_23.ownsRow w.heap.size 3 1 (.slice (some ⟨wt_22.heap.size, 0, none⟩) 4 4) 4 (Go.Proofs.YtfjcibkgbalkaaaDoor.HelpInt.iv t_23)) := by
             rw [← hw_t_23, ← ht_23]
             have e_ : ([.int .i64 t_7, .int .i64 t_12, .int .i64 t_17, .int .i64 t_22] : List Value) = (Go.Proofs.YtfjcibkgbalkaaaDoor.HelpInt.iv ([t_7, t_12, t_17, t_22] : List Int)) := rfl
             exact Lib.hid (own_laid (n := 4) hs_t_23 e_ rfl (by unfold maxLen; omega))
           clear hs_t_23
           have hht_23 := Lib.hid ht_23
           clear ht_23
           replace nt_23 := Lib.hid nt_23
           have Dt_23_a_0 := Lib.hid (apart_box ka_0_0__113)
           have Dt_23_b_1 := Lib.hid (apart_box kb_1_0)
           have HBw_t_23 := Lib.hid (Below.step HBwt_22.out bw_t_23)
           have ka_0_0__117 := cell_below bw_t_23 ka_0_0__113
           have ka_0_1__118 := cell_below bw_t_23 ka_0_1__114
           have ka_0_2__119 := cell_below bw_t_23 ka_0_2__115
           have ka_0_3__120 := cell_below bw_t_23 ka_0_3__116
           have kb_1_0__121 := cell_below bw_t_23 kb_1_0
           have kb_1_1__122 := cell_below bw_t_23 kb_1_1
           have kb_1_2__123 := cell_below bw_t_23 kb_1_2
           have kb_1_3__124 := cell_below bw_t_23 kb_1_3
           clear bw_t_23)
        | (have hc0_ := nt_23.out
           have Oct_24_1 := Lib.hid (own_len hc0_ Ot_23.out)
           have con_ := Go.Proofs.YtfjcibkgbalkaaaDoor.GxCmpOrInt.C (t_23) (some ⟨wt_22.heap.size, 0, none⟩) 4 _   (Lib.hid (own_cells Oct_24_1.out)) (Lib.hid (own_max Oct_24_1.out)) qt_24
           rw [hc0_] at con_
           clear hc0_ Oct_24_1
           go_at_call 81
           refine con_.mono ?_
           rintro e_t_24 wt_24 ⟨rfl, bt_24⟩
           have HBwt_24 := Lib.hid (Below.step HBw_t_23.out bt_24)
           replace ka_0_0__117 := cell_below bt_24 ka_0_0__117
           replace ka_0_1__118 := cell_below bt_24 ka_0_1__118
           replace ka_0_2__119 := cell_below bt_24 ka_0_2__119
           replace ka_0_3__120 := cell_below bt_24 ka_0_3__120
           replace kb_1_0__121 := cell_below bt_24 kb_1_0__121
           replace kb_1_1__122 := cell_below bt_24 kb_1_1__122
           replace kb_1_2__123 := cell_below bt_24 kb_1_2__123
           replace kb_1_3__124 := cell_below bt_24 kb_1_3__124
           replace Ot_23 := Lib.hid (own_below Ot_23.out bt_24)
           clear bt_24
           clear qt_24))
  try clear ka_0_0__113
  try clear ka_0_1__114
  try clear ka_0_2__115
  try clear ka_0_3__116
  try clear kb_1_0
  try clear kb_1_1
  try clear kb_1_2
  try clear kb_1_3
  obtain rfl := ret_hid H
  go_wp2_with fail
  go_ret
  exact ⟨rfl, HBwt_24.out⟩
end Go.Proofs.YtfjcibkgbalkaaaDoor.GiCompareMails

/- loop.example/g01062/impl.IsTimetable as a plain function, and the contract of the program's: where the plain one has an answer, the program has it. Conditions: slices read as lists. -/
namespace Go.Proofs.YtfjcibkgbalkaaaDoor.GiIsTimetable
set_option linter.unusedVariables false
set_option linter.unusedSimpArgs false
open Go.RowKit
open Go.Proofs.YtfjcibkgbalkaaaDoor.Rowed Go.Proofs.YtfjcibkgbalkaaaDoor.Turn Go.Proofs.YtfjcibkgbalkaaaDoor.Aid Go.Proofs.YtfjcibkgbalkaaaDoor.GoP Go.Proofs.YtfjcibkgbalkaaaDoor.GoM

def l0 (list : (List Go.Proofs.YtfjcibkgbalkaaaDoor.PMail.Mail)) (k0 : Nat) (s : Unit) (nx0 bk0 : Unit → Option (Bool)) : Option (Bool) :=
  
  Option.bind (idx list (k0 : Int)) fun (yt_10 : Go.Proofs.YtfjcibkgbalkaaaDoor.PMail.Mail) =>
  unMail yt_10 fun (t_10_leave : Int) (t_10_from_ : Int) (t_10_to_ : Int) (t_10_arrive : Int) =>
  Option.bind (Go.Proofs.YtfjcibkgbalkaaaDoor.GiIsMail.P (Go.Proofs.YtfjcibkgbalkaaaDoor.PMail.Mail.mk t_10_leave t_10_from_ t_10_to_ t_10_arrive)) fun (t_16 : Bool) =>
  letK (!t_16) fun (t_17 : Bool) =>
  joinK (fun (t_31 : Bool) =>
  iteK t_31
  (some false)
  (appK nx0 ())) fun jt_31 => iteK t_17 (appK jt_31 true) (letK (decide (0 < (k0 : Int))) fun (t_20 : Bool) =>
  joinK (fun (t_30 : Bool) =>
  appK jt_31 t_30) fun jt_30 => iteK t_20 (letK (IntKind.i64.wrap ((k0 : Int) - 1)) fun (t_24 : Int) =>
  Option.bind (idx list t_24) fun (yt_25 : Go.Proofs.YtfjcibkgbalkaaaDoor.PMail.Mail) =>
  unMail yt_25 fun (t_25_leave : Int) (t_25_from_ : Int) (t_25_to_ : Int) (t_25_arrive : Int) =>
  Option.bind (Go.Proofs.YtfjcibkgbalkaaaDoor.GiCompareMails.P (Go.Proofs.YtfjcibkgbalkaaaDoor.PMail.Mail.mk t_25_leave t_25_from_ t_25_to_ t_25_arrive) (Go.Proofs.YtfjcibkgbalkaaaDoor.PMail.Mail.mk t_10_leave t_10_from_ t_10_to_ t_10_arrive)) fun (t_28 : Int) =>
  letK (decide (0 ≤ t_28)) fun (t_29 : Bool) =>
  appK jt_30 t_29) (appK jt_30 false))

def e0  (s : Unit) : Option (Bool) :=
  
  some true

def P (list : (List Go.Proofs.YtfjcibkgbalkaaaDoor.PMail.Mail)) : Option (Bool) :=
  letK (decide (20 < (list.length : Int))) fun (t_3 : Bool) =>
  iteK t_3
  (some false)
  (cntK (l0 list) (list.length) 0 () (e0 ))

set_option maxRecDepth 100000 in
set_option maxHeartbeats 2000000 in
theorem C (list : (List Go.Proofs.YtfjcibkgbalkaaaDoor.PMail.Mail)) (A0 : Option Addr) (c0 : Nat)  (w : World) (M0 : Hid (Cells w 4 A0 list.length (Go.Proofs.YtfjcibkgbalkaaaDoor.PMail.flat list))) (N0 : Hid (list.length ≤ 9223372036854775807))  {r : Bool} (H : Hid (P list = some r)) :
    Calls Tryd.prog 62 #[.slice A0 list.length c0] w (Gives (.bool r) w) := by
  have HB := Lib.hid (Below.refl w.heap.size w)
  unfold P at H
  have N0o := N0.out
  go_enter Tryd.func62, Tryd.ntmps62
  replace H := let_hid H
  obtain ⟨t_3, ht_3, H⟩ := H
  cases t_3 with
  | false =>
    have nht_3 : ¬ (20 < list.length) := by have := of_decide_eq_false ht_3; omega
    replace H := ite_f H
    go_wp2_with fail
    go_loopg [10] (list.length) (fun m_ v10_ wr => ∃ (k0 : Nat) , k0 + m_ = list.length ∧ v10_ = .int .i64 (k0 : Int) ∧ Hid (cntK (l0 list) m_ k0 () (e0 ) = some r) ∧ Hid (Below w.heap.size w wr))
    case atStart => exact ⟨0, by omega, rfl, H, HB⟩
    case round =>
      obtain ⟨k0, hkm0, rfl, H, HBwr0⟩ := hrel
      rename World => wr0
      cases gk with
      | zero =>
        obtain rfl : k0 = list.length := by omega
        have hc0 : decide (((list.length : Nat) : Int) < ((list.length : Nat) : Int)) = false := by simp
        replace H := cnt_zero H
        unfold e0 at H
        obtain rfl := ret_hid H
        go_wp2_with fail
        go_ret
        exact ⟨rfl, HBwr0.out⟩
      | succ m0 =>
        have hlt0 : k0 < list.length := by omega
        have hc0 : decide ((k0 : Int) < ((list.length : Nat) : Int)) = true := by simp; omega
        replace H := cnt_succ H
        unfold l0 at H
        replace H := idx_hid H
        obtain ⟨nt_10, yt_10, et_10, lt_10, gt_10, H⟩ := H
        obtain rfl : k0 = nt_10 := by omega
        clear et_10
        obtain ⟨t_10_leave, t_10_from_, t_10_to_, t_10_arrive⟩ := yt_10
        replace H := unMail_hid H
        obtain ⟨ab_t_10, ao_t_10, zt_10, At_10, z_t_10, ct_10_0, ct_10_1, ct_10_2, ct_10_3⟩ := Go.Proofs.YtfjcibkgbalkaaaDoor.OMail.at_ M0.out lt_10
        obtain rfl := Option.some.inj (gt_10.out.symm.trans z_t_10)
        subst At_10
        have ltt_10 := cell_lt ct_10_0
        replace ct_10_0 := cell_below HBwr0.out ct_10_0
        replace ct_10_1 := cell_below HBwr0.out ct_10_1
        replace ct_10_2 := cell_below HBwr0.out ct_10_2
        replace ct_10_3 := cell_below HBwr0.out ct_10_3
        clear z_t_10
        have b0t_10 : (0 : Int) ≤ (k0 : Int) := by omega
        have b1t_10 : (k0 : Int) < ((list.length : Nat) : Int) := by omega
        have b2t_10 : ((k0 : Int)).toNat = k0 := by omega
        obtain ⟨w_x_12, hw_x_12⟩ : ∃ x, wr0.alloc (.cells #[.int .i64 t_10_leave, .int .i64 t_10_from_, .int .i64 t_10_to_, .int .i64 t_10_arrive] 54) = x := ⟨_, rfl⟩
        have bw_x_12 : Below wr0.heap.size wr0 w_x_12 := by rw [← hw_x_12]; exact (Below.refl _ _).alloc (Nat.le_refl _) _
        have HBw_x_12 := Lib.hid (Below.step HBwr0.out bw_x_12)
        have ct_10_0__125 := cell_below bw_x_12 ct_10_0
        have ct_10_1__126 := cell_below bw_x_12 ct_10_1
        have ct_10_2__127 := cell_below bw_x_12 ct_10_2
        have ct_10_3__128 := cell_below bw_x_12 ct_10_3
        clear bw_x_12
        have kx_12_0 : w_x_12.cell? ⟨wr0.heap.size, 0, none⟩ = some (.int .i64 t_10_leave) := by rw [← hw_x_12]; exact box_new _ _ _ 0 _ rfl
        have kx_12_1 : w_x_12.cell? ⟨wr0.heap.size, 1, none⟩ = some (.int .i64 t_10_from_) := by rw [← hw_x_12]; exact box_new _ _ _ 1 _ rfl
        have kx_12_2 : w_x_12.cell? ⟨wr0.heap.size, 2, none⟩ = some (.int .i64 t_10_to_) := by rw [← hw_x_12]; exact box_new _ _ _ 2 _ rfl
        have kx_12_3 : w_x_12.cell? ⟨wr0.heap.size, 3, none⟩ = some (.int .i64 t_10_arrive) := by rw [← hw_x_12]; exact box_new _ _ _ 3 _ rfl
        go_wp2_with fail
        clear ct_10_0 ct_10_1 ct_10_2 ct_10_3
        have Hct_10_0__125 := Lib.hid ct_10_0__125
        replace ct_10_0__125 := cell_regrown ct_10_0__125
        have Hct_10_1__126 := Lib.hid ct_10_1__126
        replace ct_10_1__126 := cell_regrown ct_10_1__126
        have Hct_10_2__127 := Lib.hid ct_10_2__127
        replace ct_10_2__127 := cell_regrown ct_10_2__127
        have Hct_10_3__128 := Lib.hid ct_10_3__128
        replace ct_10_3__128 := cell_regrown ct_10_3__128
        have Hkx_12_0 := Lib.hid kx_12_0
        replace kx_12_0 := cell_regrown kx_12_0
        have Hkx_12_1 := Lib.hid kx_12_1
        replace kx_12_1 := cell_regrown kx_12_1
        have Hkx_12_2 := Lib.hid kx_12_2
        replace kx_12_2 := cell_regrown kx_12_2
        have Hkx_12_3 := Lib.hid kx_12_3
        replace kx_12_3 := cell_regrown kx_12_3
        replace H := bind_hid H
        obtain ⟨t_16, qt_16, H⟩ := H
        have nt_16 : ∀ d os, Calls Tryd.prog 73 #[.agg #[.int .i64 t_10_leave, .int .i64 t_10_from_, .int .i64 t_10_to_, .int .i64 t_10_arrive]] (Go.Sort.grow (redrawn w_x_12 d) os) fun e w'' => e = .returned (.bool t_16) ∧ ∃ p : Regrown, w'' = Go.Sort.grow (redrawn w_x_12 p.d) p.os := fun d os => Calls.regrown_of (Go.Proofs.YtfjcibkgbalkaaaDoor.GiIsMail.C ((Go.Proofs.YtfjcibkgbalkaaaDoor.PMail.Mail.mk t_10_leave t_10_from_ t_10_to_ t_10_arrive))  _    qt_16)
        cases t_16 with
        | false =>
          replace H := let_hid H
          obtain ⟨t_17, ht_17, H⟩ := H
          obtain rfl : t_17 = true := ht_17.symm
          replace H := join_hid H
          replace H := ite_t H
          replace H := app_hid H
          refine wp_region_quiet_below (by kernel_rfl) (by kernel_rfl) ?_
          repeat (go_big_quiet_step (first | (go_at_call 73; exact nt_16 _ _)))
          refine wpQuiet_nil ?_
          intro Y6 hY6
          replace hY6 := below_class hY6
          clear nt_16
          replace ct_10_0__125 := Hct_10_0__125.out
          clear Hct_10_0__125
          replace ct_10_1__126 := Hct_10_1__126.out
          clear Hct_10_1__126
          replace ct_10_2__127 := Hct_10_2__127.out
          clear Hct_10_2__127
          replace ct_10_3__128 := Hct_10_3__128.out
          clear Hct_10_3__128
          replace kx_12_0 := Hkx_12_0.out
          clear Hkx_12_0
          replace kx_12_1 := Hkx_12_1.out
          clear Hkx_12_1
          replace kx_12_2 := Hkx_12_2.out
          clear Hkx_12_2
          replace kx_12_3 := Hkx_12_3.out
          clear Hkx_12_3
          have HBY6 := Lib.hid (Below.step HBw_x_12.out hY6)
          replace ct_10_0__125 := cell_below hY6 ct_10_0__125
          replace ct_10_1__126 := cell_below hY6 ct_10_1__126
          replace ct_10_2__127 := cell_below hY6 ct_10_2__127
          replace ct_10_3__128 := cell_below hY6 ct_10_3__128
          replace kx_12_0 := cell_below hY6 kx_12_0
          replace kx_12_1 := cell_below hY6 kx_12_1
          replace kx_12_2 := cell_below hY6 kx_12_2
          replace kx_12_3 := cell_below hY6 kx_12_3
          clear hY6
          replace H := ite_t H
          obtain rfl := ret_hid H
          go_wp2_with fail
          go_ret
          exact ⟨rfl, HBY6.out⟩
        | true =>
          replace H := let_hid H
          obtain ⟨t_17, ht_17, H⟩ := H
          obtain rfl : t_17 = false := ht_17.symm
          replace H := join_hid H
          replace H := ite_f H
          replace H := let_hid H
          obtain ⟨t_20, ht_20, H⟩ := H
          replace H := join_hid H
          cases t_20 with
          | false =>
            have nht_20 : ¬ (0 < k0) := by have := of_decide_eq_false ht_20; omega
            replace H := ite_f H
            replace H := app_hid H
            replace H := app_hid H
            refine wp_region_quiet_below (by kernel_rfl) (by kernel_rfl) ?_
            repeat (go_big_quiet_step (first | (go_at_call 73; exact nt_16 _ _)))
            refine wpQuiet_nil ?_
            intro Y6 hY6
            replace hY6 := below_class hY6
            clear nt_16
            replace ct_10_0__125 := Hct_10_0__125.out
            clear Hct_10_0__125
            replace ct_10_1__126 := Hct_10_1__126.out
            clear Hct_10_1__126
            replace ct_10_2__127 := Hct_10_2__127.out
            clear Hct_10_2__127
            replace ct_10_3__128 := Hct_10_3__128.out
            clear Hct_10_3__128
            replace kx_12_0 := Hkx_12_0.out
            clear Hkx_12_0
            replace kx_12_1 := Hkx_12_1.out
            clear Hkx_12_1
            replace kx_12_2 := Hkx_12_2.out
            clear Hkx_12_2
            replace kx_12_3 := Hkx_12_3.out
            clear Hkx_12_3
            have HBY6 := Lib.hid (Below.step HBw_x_12.out hY6)
            replace ct_10_0__125 := cell_below hY6 ct_10_0__125
            replace ct_10_1__126 := cell_below hY6 ct_10_1__126
            replace ct_10_2__127 := cell_below hY6 ct_10_2__127
            replace ct_10_3__128 := cell_below hY6 ct_10_3__128
            replace kx_12_0 := cell_below hY6 kx_12_0
            replace kx_12_1 := cell_below hY6 kx_12_1
            replace kx_12_2 := cell_below hY6 kx_12_2
            replace kx_12_3 := cell_below hY6 kx_12_3
            clear hY6
            replace H := ite_f H
            replace H := app_hid H
            go_wp2_with fail
            go_roundg m0
            case measure => omega
            case rel => exact ⟨k0 + 1, by omega, by go_num, H, HBY6⟩
          | true =>
            have nht_20 : 0 < k0 := by have := of_decide_eq_true ht_20; omega
            replace H := ite_t H
            replace H := let_hid H
            obtain ⟨t_24, ht_24, H⟩ := H
            replace H := idx_hid H
            obtain ⟨nt_25, yt_25, et_25, lt_25, gt_25, H⟩ := H
            subst et_25
            obtain ⟨t_25_leave, t_25_from_, t_25_to_, t_25_arrive⟩ := yt_25
            replace H := unMail_hid H
            obtain ⟨ab_t_25, ao_t_25, zt_25, At_25, z_t_25, ct_25_0, ct_25_1, ct_25_2, ct_25_3⟩ := Go.Proofs.YtfjcibkgbalkaaaDoor.OMail.at_ M0.out lt_25
            obtain rfl := Option.some.inj (gt_25.out.symm.trans z_t_25)
            simp only [Option.some.injEq, Addr.mk.injEq] at At_25
            obtain ⟨rfl, rfl, _⟩ := At_25
            have ltt_25 := cell_lt ct_25_0
            replace ct_25_0 := cell_below HBw_x_12.out ct_25_0
            replace ct_25_1 := cell_below HBw_x_12.out ct_25_1
            replace ct_25_2 := cell_below HBw_x_12.out ct_25_2
            replace ct_25_3 := cell_below HBw_x_12.out ct_25_3
            clear z_t_25
            have b0t_25 : (0 : Int) ≤ (nt_25 : Int) := by omega
            have b1t_25 : (nt_25 : Int) < ((list.length : Nat) : Int) := by omega
            have b2t_25 : ((nt_25 : Int)).toNat = nt_25 := by omega
            have Hct_25_0 := Lib.hid ct_25_0
            replace ct_25_0 := cell_regrown ct_25_0
            have Hct_25_1 := Lib.hid ct_25_1
            replace ct_25_1 := cell_regrown ct_25_1
            have Hct_25_2 := Lib.hid ct_25_2
            replace ct_25_2 := cell_regrown ct_25_2
            have Hct_25_3 := Lib.hid ct_25_3
            replace ct_25_3 := cell_regrown ct_25_3
            replace H := bind_hid H
            obtain ⟨t_28, qt_28, H⟩ := H
            have nt_28 : ∀ d os, Calls Tryd.prog 86 #[.agg #[.int .i64 t_25_leave, .int .i64 t_25_from_, .int .i64 t_25_to_, .int .i64 t_25_arrive], .agg #[.int .i64 t_10_leave, .int .i64 t_10_from_, .int .i64 t_10_to_, .int .i64 t_10_arrive]] (Go.Sort.grow (redrawn w_x_12 d) os) fun e w'' => e = .returned (.int .i64 t_28) ∧ ∃ p : Regrown, w'' = Go.Sort.grow (redrawn w_x_12 p.d) p.os := fun d os => Calls.regrown_of (Go.Proofs.YtfjcibkgbalkaaaDoor.GiCompareMails.C ((Go.Proofs.YtfjcibkgbalkaaaDoor.PMail.Mail.mk t_25_leave t_25_from_ t_25_to_ t_25_arrive)) ((Go.Proofs.YtfjcibkgbalkaaaDoor.PMail.Mail.mk t_10_leave t_10_from_ t_10_to_ t_10_arrive))  _    qt_28)
            replace H := let_hid H
            obtain ⟨t_29, ht_29, H⟩ := H
            replace H := app_hid H
            replace H := app_hid H
            refine wp_region_quiet_below (by kernel_rfl) (by kernel_rfl) ?_
            repeat (go_big_quiet_step (first | (go_at_call 73; exact nt_16 _ _) | (go_at_call 86; exact nt_28 _ _)))
            refine wpQuiet_nil ?_
            intro Y6 hY6
            replace hY6 := below_class hY6
            clear nt_16 nt_28
            replace ct_10_0__125 := Hct_10_0__125.out
            clear Hct_10_0__125
            replace ct_10_1__126 := Hct_10_1__126.out
            clear Hct_10_1__126
            replace ct_10_2__127 := Hct_10_2__127.out
            clear Hct_10_2__127
            replace ct_10_3__128 := Hct_10_3__128.out
            clear Hct_10_3__128
            replace kx_12_0 := Hkx_12_0.out
            clear Hkx_12_0
            replace kx_12_1 := Hkx_12_1.out
            clear Hkx_12_1
            replace kx_12_2 := Hkx_12_2.out
            clear Hkx_12_2
            replace kx_12_3 := Hkx_12_3.out
            clear Hkx_12_3
            replace ct_25_0 := Hct_25_0.out
            clear Hct_25_0
            replace ct_25_1 := Hct_25_1.out
            clear Hct_25_1
            replace ct_25_2 := Hct_25_2.out
            clear Hct_25_2
            replace ct_25_3 := Hct_25_3.out
            clear Hct_25_3
            have HBY6 := Lib.hid (Below.step HBw_x_12.out hY6)
            replace ct_10_0__125 := cell_below hY6 ct_10_0__125
            replace ct_10_1__126 := cell_below hY6 ct_10_1__126
            replace ct_10_2__127 := cell_below hY6 ct_10_2__127
            replace ct_10_3__128 := cell_below hY6 ct_10_3__128
            replace kx_12_0 := cell_below hY6 kx_12_0
            replace kx_12_1 := cell_below hY6 kx_12_1
            replace kx_12_2 := cell_below hY6 kx_12_2
            replace kx_12_3 := cell_below hY6 kx_12_3
            replace ct_25_0 := cell_below hY6 ct_25_0
            replace ct_25_1 := cell_below hY6 ct_25_1
            replace ct_25_2 := cell_below hY6 ct_25_2
            replace ct_25_3 := cell_below hY6 ct_25_3
            clear hY6
            cases t_29 with
            | false =>
              replace H := ite_f H
              replace H := app_hid H
              go_wp2_with fail
              go_roundg m0
              case measure => omega
              case rel => exact ⟨k0 + 1, by omega, by go_num, H, HBY6⟩
            | true =>
              replace H := ite_t H
              obtain rfl := ret_hid H
              go_wp2_with fail
              go_ret
              exact ⟨rfl, HBY6.out⟩
  | true =>
    have nht_3 : 20 < list.length := by have := of_decide_eq_true ht_3; omega
    replace H := ite_t H
    obtain rfl := ret_hid H
    go_wp2_with fail
    go_ret
    exact ⟨rfl, HB.out⟩
end Go.Proofs.YtfjcibkgbalkaaaDoor.GiIsTimetable

/- Words on arrays that are variables, and on jumps back to a label. No condition but those of each theorem. -/
namespace Go.Proofs.YtfjcibkgbalkaaaDoor.GoA
set_option linter.unusedVariables false
open Go.RowKit
open Go.Proofs.YtfjcibkgbalkaaaDoor.HelpInt

/-- the number at a place of an array's list -/
def nth (l : List Int) (j : Nat) : Int := l.getD j 0
theorem row_at {w : World} {b T n c g : Nat} {l : List Int} (h : w.ownsRow b T 1 (.slice (some ⟨g, 0, none⟩) n c) n (iv l)) (hl : l.length = n) (j : Nat) (hj : j < n) : w.cell? ⟨g, j, none⟩ = some (.int .i64 (nth l j)) := by
  unfold nth
  have hc := h.cells rfl j (.int .i64 (l.getD j 0)) (by
    rw [iv_at, List.getD_eq_getElem?_getD, List.getElem?_eq_getElem (show j < l.length by omega)]; rfl)
  rw [add_none] at hc
  simpa using hc

/-- what holds at a jump to a label: a relation that bears a number, which each pass from the label to the next jump lowers -/
def Jumps (P : Program) (rest : Code) (l : Nat) (Q : Exit → Act → World → Prop) (a : Act) (w : World) (m : Nat) : Prop :=
  ∃ J : Nat → Act → World → Prop, J m a w ∧ ∀ m a w, J m a w → rest.wp P (Exit.jump l (Handed J m) Q) a w

theorem jump_mono {l : Nat} {J J' : Act → World → Prop} {Q : Exit → Act → World → Prop} (h : ∀ a w, J a w → J' a w) : ∀ e a w, Exit.jump l J Q e a w → Exit.jump l J' Q e a w := by
  intro e a w he
  cases e with
  | goto l' => exact ⟨he.1, h _ _ he.2⟩
  | _ => exact he

theorem wp_scope_goto {P : Program} {A rest : Code} {l : Nat} {Q : Exit → Act → World → Prop} {a : Act} {w : World} (hf : findLabel (Code.seq A (Code.seq (Code.label l) rest)) l = some (Code.seq Code.skip rest))
    (first : ∀ K : Act → World → Prop, (∀ a w, (∃ m, Jumps P rest l Q a w m) → K a w) → A.wp P (Exit.then K (fun _ _ _ => False)) a w) :
    (Code.scope (Code.seq A (Code.seq (Code.label l) rest))).wp P Q a w := by
  have pass : ∀ m a w, Jumps P rest l Q a w m → rest.wp P (Exit.jump l (fun a' w' => ∃ m', m' < m ∧ Jumps P rest l Q a' w' m') Q) a w := by
    rintro m a w ⟨J, hJ, hp⟩
    refine wp_mono (hp m a w hJ) (jump_mono ?_)
    rintro a' w' ⟨m', hlt, hJ'⟩
    exact ⟨m', hlt, J, hJ', hp⟩
  refine wp_scope_jumps l (fun a w => ∃ m, Jumps P rest l Q a w m) (fun a w => leastOf (Jumps P rest l Q a w)) hf ?_ ?_
  · refine wp_seq (wp_mono (first _ fun _ _ h => h) ?_)
    intro e a1 w1 he
    cases e with
    | normal =>
      obtain ⟨m, hm⟩ := he
      refine wp_seq (wp_label ?_)
      refine wp_mono (pass m a1 w1 hm) (jump_mono ?_)
      rintro a' w' ⟨m', _, h'⟩
      exact ⟨m', h'⟩
    | _ => exact he.elim
  · intro a1 w1 h1
    refine wp_seq (wp_skip ?_)
    have hl := (leastOf_spec h1).1
    refine wp_mono (pass _ a1 w1 hl) (jump_mono ?_)
    rintro a' w' ⟨m', hlt, h'⟩
    exact ⟨⟨m', h'⟩, Nat.lt_of_le_of_lt ((leastOf_spec ⟨m', h'⟩).2 m' h') hlt⟩

/-- the frame with the slots that are marked put to new values -/
def over (u : Nat → Value) : List Bool → Nat → List Value → List Value
  | true :: bs, i, _ :: l => u i :: over u bs (i + 1) l
  | false :: bs, i, v :: l => v :: over u bs (i + 1) l
  | [], _, l => l
  | _ :: _, _, [] => []
theorem over_self (bs : List Bool) : ∀ (i : Nat) (l : List Value) (u : Nat → Value), (∀ j, j < l.length → u (i + j) = l.getD j undef) → over u bs i l = l := by
  induction bs with
  | nil => intro i l u h; cases l <;> rfl
  | cons b bs ih =>
    intro i l u h
    cases l with
    | nil => cases b <;> rfl
    | cons v l =>
      have h0 := h 0 (by simp)
      have ht := ih (i + 1) l u (fun j hj => by
        have := h (j + 1) (by simp; omega)
        rw [show i + 1 + j = i + (j + 1) by omega, this]; rfl)
      cases b
      · show v :: over u bs (i + 1) l = _; rw [ht]
      · show u i :: over u bs (i + 1) l = _; rw [ht]
        have : u i = v := h0
        rw [this]
/-- the pass from the label, as the walk wants it: the frame stands at the label the first time; the marked slots change -/
theorem jumps_intro {P : Program} {rest : Code} {l : Nat} {Q : Exit → Act → World → Prop} {ts : List Value} {de : List Deferred} {w : World} (bs : List Bool) (m : Nat) (R : Nat → (Nat → Value) → World → Prop)
    (start : R m (fun i => ts.getD i undef) w)
    (pass : ∀ m u w, R m u w → ∀ J : Nat → Act → World → Prop, (∀ m u w a, a = ⟨(over u bs 0 ts).toArray, de⟩ → R m u w → J m a w) → rest.wp P (Exit.jump l (Handed J m) Q) ⟨(over u bs 0 ts).toArray, de⟩ w) :
    ∃ m, Jumps P rest l Q ⟨ts.toArray, de⟩ w m := by
  refine ⟨m, fun m a w => ∃ u, a = ⟨(over u bs 0 ts).toArray, de⟩ ∧ R m u w, ⟨fun i => ts.getD i undef, ?_, start⟩, ?_⟩
  · rw [over_self bs 0 ts _ (fun j _ => by rw [Nat.zero_add])]
  · rintro m a w ⟨u, rfl, hR⟩
    exact pass m u w hR _ fun m u w a e h => ⟨u, e, h⟩
theorem handed_goto {J : Nat → Act → World → Prop} {R : Nat → (Nat → Value) → World → Prop} {bs : List Bool} {ts ts' : List Value} {de : List Deferred} {w : World} {m : Nat}
    (hJ : ∀ m u w a, a = ⟨(over u bs 0 ts).toArray, de⟩ → R m u w → J m a w) (m' : Nat) (hlt : m' < m) (he : ts' = over (fun i => ts'.getD i undef) bs 0 ts) (hR : R m' (fun i => ts'.getD i undef) w) : Handed J m ⟨ts'.toArray, de⟩ w :=
  Handed.intro m' hlt (hJ m' _ w _ (congrArg (fun z => (⟨z.toArray, de⟩ : Act)) he) hR)
end Go.Proofs.YtfjcibkgbalkaaaDoor.GoA

/- loop.example/g01062/impl.filledWith as a plain function, and the contract of the program's: where the plain one has an answer, the program has it. Conditions: slices read as lists. -/
namespace Go.Proofs.YtfjcibkgbalkaaaDoor.GiFilledWith
set_option linter.unusedVariables false
set_option linter.unusedSimpArgs false
open Go.RowKit
open Go.Proofs.YtfjcibkgbalkaaaDoor.Rowed Go.Proofs.YtfjcibkgbalkaaaDoor.Turn Go.Proofs.YtfjcibkgbalkaaaDoor.Aid Go.Proofs.YtfjcibkgbalkaaaDoor.GoP Go.Proofs.YtfjcibkgbalkaaaDoor.GoM

def l0 (minute : Int) (k0 : Nat) (s : (List Int)) (nx0 bk0 : (List Int) → Option (Go.Proofs.YtfjcibkgbalkaaaDoor.PIntA10.IntA10)) : Option (Go.Proofs.YtfjcibkgbalkaaaDoor.PIntA10.IntA10) :=
  letK s fun minutes_3l0 =>
  Option.bind (idx minutes_3l0 (k0 : Int)) fun (yt_8 : Int) =>
  letK (minutes_3l0.set k0 minute) fun (l9_9 : (List Int)) =>
  appK nx0 (l9_9)

def e0  (s : (List Int)) : Option (Go.Proofs.YtfjcibkgbalkaaaDoor.PIntA10.IntA10) :=
  letK s fun minutes_3l0 =>
  some (Go.Proofs.YtfjcibkgbalkaaaDoor.PIntA10.IntA10.mk (Go.Proofs.YtfjcibkgbalkaaaDoor.GoA.nth minutes_3l0 0) (Go.Proofs.YtfjcibkgbalkaaaDoor.GoA.nth minutes_3l0 1) (Go.Proofs.YtfjcibkgbalkaaaDoor.GoA.nth minutes_3l0 2) (Go.Proofs.YtfjcibkgbalkaaaDoor.GoA.nth minutes_3l0 3) (Go.Proofs.YtfjcibkgbalkaaaDoor.GoA.nth minutes_3l0 4) (Go.Proofs.YtfjcibkgbalkaaaDoor.GoA.nth minutes_3l0 5) (Go.Proofs.YtfjcibkgbalkaaaDoor.GoA.nth minutes_3l0 6) (Go.Proofs.YtfjcibkgbalkaaaDoor.GoA.nth minutes_3l0 7) (Go.Proofs.YtfjcibkgbalkaaaDoor.GoA.nth minutes_3l0 8) (Go.Proofs.YtfjcibkgbalkaaaDoor.GoA.nth minutes_3l0 9))

def P (minute : Int) : Option (Go.Proofs.YtfjcibkgbalkaaaDoor.PIntA10.IntA10) :=
  letK ([0, 0, 0, 0, 0, 0, 0, 0, 0, 0]) fun (vminutes_1 : (List Int)) =>
  cntK (l0 minute) (10) 0 (vminutes_1) (e0 )

set_option maxRecDepth 100000 in
set_option maxHeartbeats 2000000 in
theorem C (minute : Int)   (w : World)   {r : Go.Proofs.YtfjcibkgbalkaaaDoor.PIntA10.IntA10} (H : Hid (P minute = some r)) :
    Calls Tryd.prog 87 #[.int .i64 minute] w (Gives ((Go.Proofs.YtfjcibkgbalkaaaDoor.PIntA10.IntA10.val r)) w) := by
  have HB := Lib.hid (Below.refl w.heap.size w)
  unfold P at H
  go_enter Tryd.func87, Tryd.ntmps87
  obtain ⟨w_t_0, hw_t_0⟩ : ∃ x, w.alloc (.cells #[.int .i64 0, .int .i64 0, .int .i64 0, .int .i64 0, .int .i64 0, .int .i64 0, .int .i64 0, .int .i64 0, .int .i64 0, .int .i64 0] 78) = x := ⟨_, rfl⟩
  have bw_t_0 : Below w.heap.size w w_t_0 := by rw [← hw_t_0]; exact (Below.refl _ _).alloc (Nat.le_refl _) _
  have HBw_t_0 := Lib.hid (Below.step HB.out bw_t_0)
  clear bw_t_0
  have kt_0_0 : w_t_0.cell? ⟨w.heap.size, 0, none⟩ = some (.int .i64 0) := by rw [← hw_t_0]; exact box_new _ _ _ 0 _ rfl
  have kt_0_1 : w_t_0.cell? ⟨w.heap.size, 1, none⟩ = some (.int .i64 0) := by rw [← hw_t_0]; exact box_new _ _ _ 1 _ rfl
  have kt_0_2 : w_t_0.cell? ⟨w.heap.size, 2, none⟩ = some (.int .i64 0) := by rw [← hw_t_0]; exact box_new _ _ _ 2 _ rfl
  have kt_0_3 : w_t_0.cell? ⟨w.heap.size, 3, none⟩ = some (.int .i64 0) := by rw [← hw_t_0]; exact box_new _ _ _ 3 _ rfl
  have kt_0_4 : w_t_0.cell? ⟨w.heap.size, 4, none⟩ = some (.int .i64 0) := by rw [← hw_t_0]; exact box_new _ _ _ 4 _ rfl
  have kt_0_5 : w_t_0.cell? ⟨w.heap.size, 5, none⟩ = some (.int .i64 0) := by rw [← hw_t_0]; exact box_new _ _ _ 5 _ rfl
  have kt_0_6 : w_t_0.cell? ⟨w.heap.size, 6, none⟩ = some (.int .i64 0) := by rw [← hw_t_0]; exact box_new _ _ _ 6 _ rfl
  have kt_0_7 : w_t_0.cell? ⟨w.heap.size, 7, none⟩ = some (.int .i64 0) := by rw [← hw_t_0]; exact box_new _ _ _ 7 _ rfl
  have kt_0_8 : w_t_0.cell? ⟨w.heap.size, 8, none⟩ = some (.int .i64 0) := by rw [← hw_t_0]; exact box_new _ _ _ 8 _ rfl
  have kt_0_9 : w_t_0.cell? ⟨w.heap.size, 9, none⟩ = some (.int .i64 0) := by rw [← hw_t_0]; exact box_new _ _ _ 9 _ rfl
  have Ot_0 : Hid (w_t_0.ownsRow w.heap.size 78 10 (.slice (some ⟨w.heap.size, 0, none⟩) 1 1) 1 [.int .i64 0, .int .i64 0, .int .i64 0, .int .i64 0, .int .i64 0, .int .i64 0, .int .i64 0, .int .i64 0, .int .i64 0, .int .i64 0]) := Lib.hid (by rw [← hw_t_0]; exact own_laid (n := 1) HB.out.size rfl rfl (by unfold maxLen; omega))
  replace H := let_hid H
  obtain ⟨vminutes_1, hvminutes_1, H⟩ := H
  obtain ⟨w_minutes_1, hw_minutes_1⟩ : ∃ x, w_t_0.alloc (.cells #[.int .i64 0, .int .i64 0, .int .i64 0, .int .i64 0, .int .i64 0, .int .i64 0, .int .i64 0, .int .i64 0, .int .i64 0, .int .i64 0] 78) = x := ⟨_, rfl⟩
  have bw_minutes_1 : Below w_t_0.heap.size w_t_0 w_minutes_1 := by rw [← hw_minutes_1]; exact (Below.refl _ _).alloc (Nat.le_refl _) _
  have hs_minutes_1 := HBw_t_0.out.size
  have nminutes_1 : vminutes_1.length = 10 := by rw [← hvminutes_1]; rfl
  have Ominutes_1 : Hid (w_minutes_1.ownsRow w.heap.size 78 1 (.slice (some ⟨w_t_0.heap.size, 0, none⟩) 10 10) 10 (Go.Proofs.YtfjcibkgbalkaaaDoor.HelpInt.iv vminutes_1)) := by
    rw [← hw_minutes_1, ← hvminutes_1]
    have e_ : ([.int .i64 0, .int .i64 0, .int .i64 0, .int .i64 0, .int .i64 0, .int .i64 0, .int .i64 0, .int .i64 0, .int .i64 0, .int .i64 0] : List Value) = Go.Proofs.YtfjcibkgbalkaaaDoor.HelpInt.iv [0, 0, 0, 0, 0, 0, 0, 0, 0, 0] := rfl
    exact Lib.hid (own_laid (n := 10) hs_minutes_1 e_ rfl (by unfold maxLen; omega))
  clear hs_minutes_1
  have hhminutes_1 := Lib.hid hvminutes_1
  clear hvminutes_1
  replace nminutes_1 := Lib.hid nminutes_1
  have Dminutes_1_t_0 := Lib.hid (apart_box kt_0_0)
  have HBw_minutes_1 := Lib.hid (Below.step HBw_t_0.out bw_minutes_1)
  have kt_0_0__129 := cell_below bw_minutes_1 kt_0_0
  have kt_0_1__130 := cell_below bw_minutes_1 kt_0_1
  have kt_0_2__131 := cell_below bw_minutes_1 kt_0_2
  have kt_0_3__132 := cell_below bw_minutes_1 kt_0_3
  have kt_0_4__133 := cell_below bw_minutes_1 kt_0_4
  have kt_0_5__134 := cell_below bw_minutes_1 kt_0_5
  have kt_0_6__135 := cell_below bw_minutes_1 kt_0_6
  have kt_0_7__136 := cell_below bw_minutes_1 kt_0_7
  have kt_0_8__137 := cell_below bw_minutes_1 kt_0_8
  have kt_0_9__138 := cell_below bw_minutes_1 kt_0_9
  replace Ot_0 := Lib.hid (own_below Ot_0.out bw_minutes_1)
  clear bw_minutes_1
  go_wp2_with fail
  clear kt_0_0 kt_0_1 kt_0_2 kt_0_3 kt_0_4 kt_0_5 kt_0_6 kt_0_7 kt_0_8 kt_0_9
  go_wp2_with fail
  go_loopg [5] (10) (fun m_ v5_ wr => ∃ (k0 : Nat) (minutes_3l0 : (List Int)), k0 + m_ = 10 ∧ v5_ = .int .i64 (k0 : Int) ∧ Hid (cntK (l0 minute) m_ k0 (minutes_3l0) (e0 ) = some r) ∧ Hid (Below w.heap.size w wr) ∧ wr.cell? ⟨w.heap.size, 0, none⟩ = some (.int .i64 0) ∧ wr.cell? ⟨w.heap.size, 1, none⟩ = some (.int .i64 0) ∧ wr.cell? ⟨w.heap.size, 2, none⟩ = some (.int .i64 0) ∧ wr.cell? ⟨w.heap.size, 3, none⟩ = some (.int .i64 0) ∧ wr.cell? ⟨w.heap.size, 4, none⟩ = some (.int .i64 0) ∧ wr.cell? ⟨w.heap.size, 5, none⟩ = some (.int .i64 0) ∧ wr.cell? ⟨w.heap.size, 6, none⟩ = some (.int .i64 0) ∧ wr.cell? ⟨w.heap.size, 7, none⟩ = some (.int .i64 0) ∧ wr.cell? ⟨w.heap.size, 8, none⟩ = some (.int .i64 0) ∧ wr.cell? ⟨w.heap.size, 9, none⟩ = some (.int .i64 0) ∧ Hid (wr.ownsRow w.heap.size 78 10 (.slice (some ⟨w.heap.size, 0, none⟩) 1 1) 1 [.int .i64 0, .int .i64 0, .int .i64 0, .int .i64 0, .int .i64 0, .int .i64 0, .int .i64 0, .int .i64 0, .int .i64 0, .int .i64 0]) ∧ Hid (wr.ownsRow w.heap.size 78 1 (.slice (some ⟨w_t_0.heap.size, 0, none⟩) 10 10) 10 (Go.Proofs.YtfjcibkgbalkaaaDoor.HelpInt.iv minutes_3l0)) ∧ Hid (minutes_3l0.length = 10) ∧ Hid (Apart (some ⟨w_t_0.heap.size, 0, none⟩) (some ⟨w.heap.size, 0, none⟩)))
  case atStart => exact ⟨0, _, by omega, rfl, H, HBw_minutes_1, kt_0_0__129, kt_0_1__130, kt_0_2__131, kt_0_3__132, kt_0_4__133, kt_0_5__134, kt_0_6__135, kt_0_7__136, kt_0_8__137, kt_0_9__138, Ot_0, Ominutes_1, Lib.hid (nminutes_1.out), Lib.hid Dminutes_1_t_0.out⟩
  case round =>
    obtain ⟨k0, minutes_3l0, hkm0, rfl, H, HBwr0, kt_0_0__129, kt_0_1__130, kt_0_2__131, kt_0_3__132, kt_0_4__133, kt_0_5__134, kt_0_6__135, kt_0_7__136, kt_0_8__137, kt_0_9__138, Ot_0, Ominutes_3l0, hnminutes_3l0, Dminutes_3l0_t_0⟩ := hrel
    rename World => wr0
    cases gk with
    | zero =>
      obtain rfl : k0 = 10 := by omega
      have hc0 : decide (((10 : Nat) : Int) < ((10 : Nat) : Int)) = false := by simp
      replace H := cnt_zero H
      unfold e0 at H
      replace H := let_hid H
      obtain ⟨_, rfl, H⟩ := H
      have ka_139 : wr0.cell? ⟨w_t_0.heap.size, 0, none⟩ = some (.int .i64 (Go.Proofs.YtfjcibkgbalkaaaDoor.GoA.nth minutes_3l0 0)) := Go.Proofs.YtfjcibkgbalkaaaDoor.GoA.row_at Ominutes_3l0.out hnminutes_3l0.out 0 (by omega)
      have ka_140 : wr0.cell? ⟨w_t_0.heap.size, 1, none⟩ = some (.int .i64 (Go.Proofs.YtfjcibkgbalkaaaDoor.GoA.nth minutes_3l0 1)) := Go.Proofs.YtfjcibkgbalkaaaDoor.GoA.row_at Ominutes_3l0.out hnminutes_3l0.out 1 (by omega)
      have ka_141 : wr0.cell? ⟨w_t_0.heap.size, 2, none⟩ = some (.int .i64 (Go.Proofs.YtfjcibkgbalkaaaDoor.GoA.nth minutes_3l0 2)) := Go.Proofs.YtfjcibkgbalkaaaDoor.GoA.row_at Ominutes_3l0.out hnminutes_3l0.out 2 (by omega)
      have ka_142 : wr0.cell? ⟨w_t_0.heap.size, 3, none⟩ = some (.int .i64 (Go.Proofs.YtfjcibkgbalkaaaDoor.GoA.nth minutes_3l0 3)) := Go.Proofs.YtfjcibkgbalkaaaDoor.GoA.row_at Ominutes_3l0.out hnminutes_3l0.out 3 (by omega)
      have ka_143 : wr0.cell? ⟨w_t_0.heap.size, 4, none⟩ = some (.int .i64 (Go.Proofs.YtfjcibkgbalkaaaDoor.GoA.nth minutes_3l0 4)) := Go.Proofs.YtfjcibkgbalkaaaDoor.GoA.row_at Ominutes_3l0.out hnminutes_3l0.out 4 (by omega)
      have ka_144 : wr0.cell? ⟨w_t_0.heap.size, 5, none⟩ = some (.int .i64 (Go.Proofs.YtfjcibkgbalkaaaDoor.GoA.nth minutes_3l0 5)) := Go.Proofs.YtfjcibkgbalkaaaDoor.GoA.row_at Ominutes_3l0.out hnminutes_3l0.out 5 (by omega)
      have ka_145 : wr0.cell? ⟨w_t_0.heap.size, 6, none⟩ = some (.int .i64 (Go.Proofs.YtfjcibkgbalkaaaDoor.GoA.nth minutes_3l0 6)) := Go.Proofs.YtfjcibkgbalkaaaDoor.GoA.row_at Ominutes_3l0.out hnminutes_3l0.out 6 (by omega)
      have ka_146 : wr0.cell? ⟨w_t_0.heap.size, 7, none⟩ = some (.int .i64 (Go.Proofs.YtfjcibkgbalkaaaDoor.GoA.nth minutes_3l0 7)) := Go.Proofs.YtfjcibkgbalkaaaDoor.GoA.row_at Ominutes_3l0.out hnminutes_3l0.out 7 (by omega)
      have ka_147 : wr0.cell? ⟨w_t_0.heap.size, 8, none⟩ = some (.int .i64 (Go.Proofs.YtfjcibkgbalkaaaDoor.GoA.nth minutes_3l0 8)) := Go.Proofs.YtfjcibkgbalkaaaDoor.GoA.row_at Ominutes_3l0.out hnminutes_3l0.out 8 (by omega)
      have ka_148 : wr0.cell? ⟨w_t_0.heap.size, 9, none⟩ = some (.int .i64 (Go.Proofs.YtfjcibkgbalkaaaDoor.GoA.nth minutes_3l0 9)) := Go.Proofs.YtfjcibkgbalkaaaDoor.GoA.row_at Ominutes_3l0.out hnminutes_3l0.out 9 (by omega)
      obtain ⟨wb13_13, hwb13_13⟩ : ∃ x, ((((((((((wr0).setCell ⟨w.heap.size, 0, none⟩ (.int .i64 (Go.Proofs.YtfjcibkgbalkaaaDoor.GoA.nth minutes_3l0 0))).setCell ⟨w.heap.size, 1, none⟩ (.int .i64 (Go.Proofs.YtfjcibkgbalkaaaDoor.GoA.nth minutes_3l0 1))).setCell ⟨w.heap.size, 2, none⟩ (.int .i64 (Go.Proofs.YtfjcibkgbalkaaaDoor.GoA.nth minutes_3l0 2))).setCell ⟨w.heap.size, 3, none⟩ (.int .i64 (Go.Proofs.YtfjcibkgbalkaaaDoor.GoA.nth minutes_3l0 3))).setCell ⟨w.heap.size, 4, none⟩ (.int .i64 (Go.Proofs.YtfjcibkgbalkaaaDoor.GoA.nth minutes_3l0 4))).setCell ⟨w.heap.size, 5, none⟩ (.int .i64 (Go.Proofs.YtfjcibkgbalkaaaDoor.GoA.nth minutes_3l0 5))).setCell ⟨w.heap.size, 6, none⟩ (.int .i64 (Go.Proofs.YtfjcibkgbalkaaaDoor.GoA.nth minutes_3l0 6))).setCell ⟨w.heap.size, 7, none⟩ (.int .i64 (Go.Proofs.YtfjcibkgbalkaaaDoor.GoA.nth minutes_3l0 7))).setCell ⟨w.heap.size, 8, none⟩ (.int .i64 (Go.Proofs.YtfjcibkgbalkaaaDoor.GoA.nth minutes_3l0 8))).setCell ⟨w.heap.size, 9, none⟩ (.int .i64 (Go.Proofs.YtfjcibkgbalkaaaDoor.GoA.nth minutes_3l0 9)) = x := ⟨_, rfl⟩
      have z0b13_13 := Ot_0.out.frozenAt 0
      have z1b13_13 := Ot_0.out.frozenAt 1
      have z2b13_13 := Ot_0.out.frozenAt 2
      have z3b13_13 := Ot_0.out.frozenAt 3
      have z4b13_13 := Ot_0.out.frozenAt 4
      have z5b13_13 := Ot_0.out.frozenAt 5
      have z6b13_13 := Ot_0.out.frozenAt 6
      have z7b13_13 := Ot_0.out.frozenAt 7
      have z8b13_13 := Ot_0.out.frozenAt 8
      have z9b13_13 := Ot_0.out.frozenAt 9
      have Sb13_13 := Lib.hid (own_stores [(0, .int .i64 (Go.Proofs.YtfjcibkgbalkaaaDoor.GoA.nth minutes_3l0 0)), (1, .int .i64 (Go.Proofs.YtfjcibkgbalkaaaDoor.GoA.nth minutes_3l0 1)), (2, .int .i64 (Go.Proofs.YtfjcibkgbalkaaaDoor.GoA.nth minutes_3l0 2)), (3, .int .i64 (Go.Proofs.YtfjcibkgbalkaaaDoor.GoA.nth minutes_3l0 3)), (4, .int .i64 (Go.Proofs.YtfjcibkgbalkaaaDoor.GoA.nth minutes_3l0 4)), (5, .int .i64 (Go.Proofs.YtfjcibkgbalkaaaDoor.GoA.nth minutes_3l0 5)), (6, .int .i64 (Go.Proofs.YtfjcibkgbalkaaaDoor.GoA.nth minutes_3l0 6)), (7, .int .i64 (Go.Proofs.YtfjcibkgbalkaaaDoor.GoA.nth minutes_3l0 7)), (8, .int .i64 (Go.Proofs.YtfjcibkgbalkaaaDoor.GoA.nth minutes_3l0 8)), (9, .int .i64 (Go.Proofs.YtfjcibkgbalkaaaDoor.GoA.nth minutes_3l0 9))] Ot_0.out)
      have Pb13_13 : Hid (wb13_13.ownsRow w.heap.size 78 10 (.slice (some ⟨w.heap.size, 0, none⟩) 1 1) 1 [.int .i64 (Go.Proofs.YtfjcibkgbalkaaaDoor.GoA.nth minutes_3l0 0), .int .i64 (Go.Proofs.YtfjcibkgbalkaaaDoor.GoA.nth minutes_3l0 1), .int .i64 (Go.Proofs.YtfjcibkgbalkaaaDoor.GoA.nth minutes_3l0 2), .int .i64 (Go.Proofs.YtfjcibkgbalkaaaDoor.GoA.nth minutes_3l0 3), .int .i64 (Go.Proofs.YtfjcibkgbalkaaaDoor.GoA.nth minutes_3l0 4), .int .i64 (Go.Proofs.YtfjcibkgbalkaaaDoor.GoA.nth minutes_3l0 5), .int .i64 (Go.Proofs.YtfjcibkgbalkaaaDoor.GoA.nth minutes_3l0 6), .int .i64 (Go.Proofs.YtfjcibkgbalkaaaDoor.GoA.nth minutes_3l0 7), .int .i64 (Go.Proofs.YtfjcibkgbalkaaaDoor.GoA.nth minutes_3l0 8), .int .i64 (Go.Proofs.YtfjcibkgbalkaaaDoor.GoA.nth minutes_3l0 9)]) := Lib.hid (by rw [← hwb13_13]; exact Sb13_13.out.1)
      have Gb13_13 : Hid (wr0.grownBy wb13_13 (Value.slice (some ⟨w.heap.size, 0, none⟩) 1 1).ownBlock) := Lib.hid (by rw [← hwb13_13]; exact Sb13_13.out.2)
      have HBwb13_13 := Lib.hid (HBwr0.out.grown Gb13_13.out HBwr0.out.size (fun q hq => (Ot_0.out.lt q hq).1))
      clear Sb13_13
      replace Ominutes_3l0 := Lib.hid (own_other Ominutes_3l0.out Gb13_13.out (Apart.symm Dminutes_3l0_t_0.out))
      clear Ot_0 Gb13_13
      have kt_0_0__149 : wb13_13.cell? ⟨w.heap.size, 0, none⟩ = some (.int .i64 (Go.Proofs.YtfjcibkgbalkaaaDoor.GoA.nth minutes_3l0 0)) := Pb13_13.out.cells rfl 0 _ rfl
      have kt_0_1__150 : wb13_13.cell? ⟨w.heap.size, 1, none⟩ = some (.int .i64 (Go.Proofs.YtfjcibkgbalkaaaDoor.GoA.nth minutes_3l0 1)) := Pb13_13.out.cells rfl 1 _ rfl
      have kt_0_2__151 : wb13_13.cell? ⟨w.heap.size, 2, none⟩ = some (.int .i64 (Go.Proofs.YtfjcibkgbalkaaaDoor.GoA.nth minutes_3l0 2)) := Pb13_13.out.cells rfl 2 _ rfl
      have kt_0_3__152 : wb13_13.cell? ⟨w.heap.size, 3, none⟩ = some (.int .i64 (Go.Proofs.YtfjcibkgbalkaaaDoor.GoA.nth minutes_3l0 3)) := Pb13_13.out.cells rfl 3 _ rfl
      have kt_0_4__153 : wb13_13.cell? ⟨w.heap.size, 4, none⟩ = some (.int .i64 (Go.Proofs.YtfjcibkgbalkaaaDoor.GoA.nth minutes_3l0 4)) := Pb13_13.out.cells rfl 4 _ rfl
      have kt_0_5__154 : wb13_13.cell? ⟨w.heap.size, 5, none⟩ = some (.int .i64 (Go.Proofs.YtfjcibkgbalkaaaDoor.GoA.nth minutes_3l0 5)) := Pb13_13.out.cells rfl 5 _ rfl
      have kt_0_6__155 : wb13_13.cell? ⟨w.heap.size, 6, none⟩ = some (.int .i64 (Go.Proofs.YtfjcibkgbalkaaaDoor.GoA.nth minutes_3l0 6)) := Pb13_13.out.cells rfl 6 _ rfl
      have kt_0_7__156 : wb13_13.cell? ⟨w.heap.size, 7, none⟩ = some (.int .i64 (Go.Proofs.YtfjcibkgbalkaaaDoor.GoA.nth minutes_3l0 7)) := Pb13_13.out.cells rfl 7 _ rfl
      have kt_0_8__157 : wb13_13.cell? ⟨w.heap.size, 8, none⟩ = some (.int .i64 (Go.Proofs.YtfjcibkgbalkaaaDoor.GoA.nth minutes_3l0 8)) := Pb13_13.out.cells rfl 8 _ rfl
      have kt_0_9__158 : wb13_13.cell? ⟨w.heap.size, 9, none⟩ = some (.int .i64 (Go.Proofs.YtfjcibkgbalkaaaDoor.GoA.nth minutes_3l0 9)) := Pb13_13.out.cells rfl 9 _ rfl
      cases ret_hid H
      go_wp2_with fail
      (try simp only [Exit.inBlock, Exit.then])
      refine bodyPost_ret (v := .agg #[.int .i64 (Go.Proofs.YtfjcibkgbalkaaaDoor.GoA.nth minutes_3l0 0), .int .i64 (Go.Proofs.YtfjcibkgbalkaaaDoor.GoA.nth minutes_3l0 1), .int .i64 (Go.Proofs.YtfjcibkgbalkaaaDoor.GoA.nth minutes_3l0 2), .int .i64 (Go.Proofs.YtfjcibkgbalkaaaDoor.GoA.nth minutes_3l0 3), .int .i64 (Go.Proofs.YtfjcibkgbalkaaaDoor.GoA.nth minutes_3l0 4), .int .i64 (Go.Proofs.YtfjcibkgbalkaaaDoor.GoA.nth minutes_3l0 5), .int .i64 (Go.Proofs.YtfjcibkgbalkaaaDoor.GoA.nth minutes_3l0 6), .int .i64 (Go.Proofs.YtfjcibkgbalkaaaDoor.GoA.nth minutes_3l0 7), .int .i64 (Go.Proofs.YtfjcibkgbalkaaaDoor.GoA.nth minutes_3l0 8), .int .i64 (Go.Proofs.YtfjcibkgbalkaaaDoor.GoA.nth minutes_3l0 9)]) ?hr_ ?hd_ ?_
      case hd_ => rfl
      case hr_ => simp [results, Tryd.results87, kt_0_0__149, kt_0_1__150, kt_0_2__151, kt_0_3__152, kt_0_4__153, kt_0_5__154, kt_0_6__155, kt_0_7__156, kt_0_8__157, kt_0_9__158, go_sem]
      exact ⟨rfl, HBwb13_13.out⟩
    | succ m0 =>
      have hlt0 : k0 < 10 := by omega
      have hc0 : decide ((k0 : Int) < ((10 : Nat) : Int)) = true := by simp; omega
      replace H := cnt_succ H
      have hd0 : decide ((k0 : Int) < 10) = true := by simp; omega
      unfold l0 at H
      replace H := let_hid H
      obtain ⟨_, rfl, H⟩ := H
      replace H := idx_hid H
      obtain ⟨nt_8, yt_8, et_8, lt_8, gt_8, H⟩ := H
      obtain rfl : k0 = nt_8 := by omega
      clear et_8
      have hqt_8 := hnminutes_3l0.out
      obtain ⟨ab_t_8, ao_t_8, zt_8, At_8, z_t_8, ct_8_0⟩ := Go.Proofs.YtfjcibkgbalkaaaDoor.HelpInt.Ints.at_ (own_cells Ominutes_3l0.out) (k := k0) (by omega)
      obtain rfl := Option.some.inj (gt_8.out.symm.trans z_t_8)
      simp only [Option.some.injEq, Addr.mk.injEq] at At_8
      obtain ⟨rfl, rfl, _⟩ := At_8
      clear z_t_8
      simp only [Nat.zero_add] at ct_8_0
      have b0t_8 : (0 : Int) ≤ (k0 : Int) := by omega
      have b1t_8 : (k0 : Int) < ((10 : Nat) : Int) := by omega
      have b2t_8 : ((k0 : Int)).toNat = k0 := by omega
      clear hqt_8
      have b3t_8 : k0 < 10 := by have h_ := lt_8; have hn_ := hnminutes_3l0.out; omega
      have b4t_8 : (k0 : Int) < (10 : Int) := by omega
      replace H := let_hid H
      obtain ⟨l9_9, hl9_9, H⟩ := H
      try simp only [Int.toNat_natCast] at hl9_9
      obtain ⟨wl9_9, hwl9_9⟩ : ∃ x, (wr0).setCell ⟨w_t_0.heap.size, k0, none⟩ (.int .i64 minute) = x := ⟨_, rfl⟩
      have z0l9_9 := Ominutes_3l0.out.frozenAt (k0)
      have Sl9_9 := Lib.hid (own_stores [(k0, .int .i64 minute)] Ominutes_3l0.out)
      have nl9_9 : Hid (l9_9.length = 10) := Lib.hid (by rw [← hl9_9, List.length_set]; exact hnminutes_3l0.out)
      have Pl9_9 : Hid (wl9_9.ownsRow w.heap.size 78 1 (.slice (some ⟨w_t_0.heap.size, 0, none⟩) 10 10) 10 (Go.Proofs.YtfjcibkgbalkaaaDoor.HelpInt.iv l9_9)) := Lib.hid (by have e_ : ([(k0, .int .i64 minute)] : List (Nat × Value)).foldl (fun xs p => xs.set p.1 p.2) (Go.Proofs.YtfjcibkgbalkaaaDoor.HelpInt.iv minutes_3l0) = (Go.Proofs.YtfjcibkgbalkaaaDoor.HelpInt.iv l9_9) := (by rw [← hl9_9]; first | done | simp [Go.Proofs.YtfjcibkgbalkaaaDoor.HelpInt.iv, List.map_set]); rw [← hwl9_9, ← e_]; exact Sl9_9.out.1)
      have Gl9_9 : Hid (wr0.grownBy wl9_9 (Value.slice (some ⟨w_t_0.heap.size, 0, none⟩) 10 10).ownBlock) := Lib.hid (by rw [← hwl9_9]; exact Sl9_9.out.2)
      have HBwl9_9 := Lib.hid (HBwr0.out.grown Gl9_9.out HBwr0.out.size (fun q hq => (Ominutes_3l0.out.lt q hq).1))
      have hhl9_9 := Lib.hid hl9_9
      clear hl9_9 Sl9_9
      have kt_0_0__159 := cell_other kt_0_0__129 Gl9_9.out Dminutes_3l0_t_0.out
      have kt_0_1__160 := cell_other kt_0_1__130 Gl9_9.out Dminutes_3l0_t_0.out
      have kt_0_2__161 := cell_other kt_0_2__131 Gl9_9.out Dminutes_3l0_t_0.out
      have kt_0_3__162 := cell_other kt_0_3__132 Gl9_9.out Dminutes_3l0_t_0.out
      have kt_0_4__163 := cell_other kt_0_4__133 Gl9_9.out Dminutes_3l0_t_0.out
      have kt_0_5__164 := cell_other kt_0_5__134 Gl9_9.out Dminutes_3l0_t_0.out
      have kt_0_6__165 := cell_other kt_0_6__135 Gl9_9.out Dminutes_3l0_t_0.out
      have kt_0_7__166 := cell_other kt_0_7__136 Gl9_9.out Dminutes_3l0_t_0.out
      have kt_0_8__167 := cell_other kt_0_8__137 Gl9_9.out Dminutes_3l0_t_0.out
      have kt_0_9__168 := cell_other kt_0_9__138 Gl9_9.out Dminutes_3l0_t_0.out
      replace Ot_0 := Lib.hid (own_other Ot_0.out Gl9_9.out Dminutes_3l0_t_0.out)
      clear Ominutes_3l0 Gl9_9
      replace H := app_hid H
      go_wp2_with fail
      clear z0l9_9 kt_0_0__129 kt_0_1__130 kt_0_2__131 kt_0_3__132 kt_0_4__133 kt_0_5__134 kt_0_6__135 kt_0_7__136 kt_0_8__137 kt_0_9__138 ct_8_0
      go_roundg m0
      case measure => omega
      case rel => exact ⟨k0 + 1, _, by omega, by go_num, H, HBwl9_9, kt_0_0__159, kt_0_1__160, kt_0_2__161, kt_0_3__162, kt_0_4__163, kt_0_5__164, kt_0_6__165, kt_0_7__166, kt_0_8__167, kt_0_9__168, Ot_0, Pl9_9, Lib.hid (nl9_9.out), Lib.hid Dminutes_3l0_t_0.out⟩
end Go.Proofs.YtfjcibkgbalkaaaDoor.GiFilledWith

/- loop.example/g01062/impl.latestMinutes as a plain function, and the contract of the program's: where the plain one has an answer, the program has it. Conditions: slices read as lists. -/
namespace Go.Proofs.YtfjcibkgbalkaaaDoor.GiLatestMinutes
set_option linter.unusedVariables false
set_option linter.unusedSimpArgs false
open Go.RowKit
open Go.Proofs.YtfjcibkgbalkaaaDoor.Rowed Go.Proofs.YtfjcibkgbalkaaaDoor.Turn Go.Proofs.YtfjcibkgbalkaaaDoor.Aid Go.Proofs.YtfjcibkgbalkaaaDoor.GoP Go.Proofs.YtfjcibkgbalkaaaDoor.GoM

def l0 (list : (List Go.Proofs.YtfjcibkgbalkaaaDoor.PMail.Mail)) (s : (List Int) × Int) (nx0 bk0 : (List Int) × Int → Option (Go.Proofs.YtfjcibkgbalkaaaDoor.PIntA10.IntA10)) : Option (Go.Proofs.YtfjcibkgbalkaaaDoor.PIntA10.IntA10) :=
  unp2 s fun latest_7l0 i_8l0 =>
  letK (decide (0 ≤ i_8l0)) fun (t_13 : Bool) =>
  iteK t_13
  (Option.bind (idx list i_8l0) fun (yt_16 : Go.Proofs.YtfjcibkgbalkaaaDoor.PMail.Mail) =>
  unMail yt_16 fun (t_16_leave : Int) (t_16_from_ : Int) (t_16_to_ : Int) (t_16_arrive : Int) =>
  Option.bind (idx latest_7l0 t_16_to_) fun (yt_24 : Int) =>
  letK (decide (t_16_arrive ≤ yt_24)) fun (t_26 : Bool) =>
  iteK t_26
  (Option.bind (idx latest_7l0 t_16_from_) fun (yt_31 : Int) =>
  letK (max yt_31 t_16_leave) fun (t_35 : Int) =>
  Option.bind (idx latest_7l0 t_16_from_) fun (yt_36 : Int) =>
  letK (latest_7l0.set (t_16_from_).toNat t_35) fun (l37_37 : (List Int)) =>
  letK (IntKind.i64.wrap (i_8l0 - 1)) fun (t_39 : Int) =>
  appK nx0 (l37_37, t_39))
  (letK (IntKind.i64.wrap (i_8l0 - 1)) fun (t_39 : Int) =>
  appK nx0 (latest_7l0, t_39)))
  (appK bk0 (latest_7l0, i_8l0))

def e0  (s : (List Int) × Int) : Option (Go.Proofs.YtfjcibkgbalkaaaDoor.PIntA10.IntA10) :=
  unp2 s fun latest_7l0 i_8l0 =>
  some (Go.Proofs.YtfjcibkgbalkaaaDoor.PIntA10.IntA10.mk (Go.Proofs.YtfjcibkgbalkaaaDoor.GoA.nth latest_7l0 0) (Go.Proofs.YtfjcibkgbalkaaaDoor.GoA.nth latest_7l0 1) (Go.Proofs.YtfjcibkgbalkaaaDoor.GoA.nth latest_7l0 2) (Go.Proofs.YtfjcibkgbalkaaaDoor.GoA.nth latest_7l0 3) (Go.Proofs.YtfjcibkgbalkaaaDoor.GoA.nth latest_7l0 4) (Go.Proofs.YtfjcibkgbalkaaaDoor.GoA.nth latest_7l0 5) (Go.Proofs.YtfjcibkgbalkaaaDoor.GoA.nth latest_7l0 6) (Go.Proofs.YtfjcibkgbalkaaaDoor.GoA.nth latest_7l0 7) (Go.Proofs.YtfjcibkgbalkaaaDoor.GoA.nth latest_7l0 8) (Go.Proofs.YtfjcibkgbalkaaaDoor.GoA.nth latest_7l0 9))

def P (fuel : Nat) (list : (List Go.Proofs.YtfjcibkgbalkaaaDoor.PMail.Mail)) (to_1 : Int) (by_2 : Int) : Option (Go.Proofs.YtfjcibkgbalkaaaDoor.PIntA10.IntA10) :=
  Option.bind (Go.Proofs.YtfjcibkgbalkaaaDoor.GiFilledWith.P (-1)) fun (t_1 : Go.Proofs.YtfjcibkgbalkaaaDoor.PIntA10.IntA10) =>
  unIntA10 t_1 fun (t_1_x0 : Int) (t_1_x1 : Int) (t_1_x2 : Int) (t_1_x3 : Int) (t_1_x4 : Int) (t_1_x5 : Int) (t_1_x6 : Int) (t_1_x7 : Int) (t_1_x8 : Int) (t_1_x9 : Int) =>
  letK ([t_1_x0, t_1_x1, t_1_x2, t_1_x3, t_1_x4, t_1_x5, t_1_x6, t_1_x7, t_1_x8, t_1_x9]) fun (vlatest_2 : (List Int)) =>
  Option.bind (idx vlatest_2 to_1) fun (yt_6 : Int) =>
  letK (vlatest_2.set (to_1).toNat by_2) fun (l7_7 : (List Int)) =>
  letK (IntKind.i64.wrap ((list.length : Int) - 1)) fun (t_10 : Int) =>
  loopK (l0 list) fuel (l7_7, t_10) (e0 )

set_option maxRecDepth 100000 in
set_option maxHeartbeats 2000000 in
theorem C (fuel : Nat) (list : (List Go.Proofs.YtfjcibkgbalkaaaDoor.PMail.Mail)) (to_1 : Int) (by_2 : Int) (A0 : Option Addr) (c0 : Nat)  (w : World) (M0 : Hid (Cells w 4 A0 list.length (Go.Proofs.YtfjcibkgbalkaaaDoor.PMail.flat list))) (N0 : Hid (list.length ≤ 9223372036854775807))  {r : Go.Proofs.YtfjcibkgbalkaaaDoor.PIntA10.IntA10} (H : Hid (P fuel list to_1 by_2 = some r)) :
    Calls Tryd.prog 65 #[.slice A0 list.length c0, .int .i64 to_1, .int .i64 by_2] w (Gives ((Go.Proofs.YtfjcibkgbalkaaaDoor.PIntA10.IntA10.val r)) w) := by
  have HB := Lib.hid (Below.refl w.heap.size w)
  unfold P at H
  have N0o := N0.out
  go_enter Tryd.func65, Tryd.ntmps65
  obtain ⟨w_t_0, hw_t_0⟩ : ∃ x, w.alloc (.cells #[.int .i64 0, .int .i64 0, .int .i64 0, .int .i64 0, .int .i64 0, .int .i64 0, .int .i64 0, .int .i64 0, .int .i64 0, .int .i64 0] 78) = x := ⟨_, rfl⟩
  have bw_t_0 : Below w.heap.size w w_t_0 := by rw [← hw_t_0]; exact (Below.refl _ _).alloc (Nat.le_refl _) _
  have HBw_t_0 := Lib.hid (Below.step HB.out bw_t_0)
  clear bw_t_0
  have kt_0_0 : w_t_0.cell? ⟨w.heap.size, 0, none⟩ = some (.int .i64 0) := by rw [← hw_t_0]; exact box_new _ _ _ 0 _ rfl
  have kt_0_1 : w_t_0.cell? ⟨w.heap.size, 1, none⟩ = some (.int .i64 0) := by rw [← hw_t_0]; exact box_new _ _ _ 1 _ rfl
  have kt_0_2 : w_t_0.cell? ⟨w.heap.size, 2, none⟩ = some (.int .i64 0) := by rw [← hw_t_0]; exact box_new _ _ _ 2 _ rfl
  have kt_0_3 : w_t_0.cell? ⟨w.heap.size, 3, none⟩ = some (.int .i64 0) := by rw [← hw_t_0]; exact box_new _ _ _ 3 _ rfl
  have kt_0_4 : w_t_0.cell? ⟨w.heap.size, 4, none⟩ = some (.int .i64 0) := by rw [← hw_t_0]; exact box_new _ _ _ 4 _ rfl
  have kt_0_5 : w_t_0.cell? ⟨w.heap.size, 5, none⟩ = some (.int .i64 0) := by rw [← hw_t_0]; exact box_new _ _ _ 5 _ rfl
  have kt_0_6 : w_t_0.cell? ⟨w.heap.size, 6, none⟩ = some (.int .i64 0) := by rw [← hw_t_0]; exact box_new _ _ _ 6 _ rfl
  have kt_0_7 : w_t_0.cell? ⟨w.heap.size, 7, none⟩ = some (.int .i64 0) := by rw [← hw_t_0]; exact box_new _ _ _ 7 _ rfl
  have kt_0_8 : w_t_0.cell? ⟨w.heap.size, 8, none⟩ = some (.int .i64 0) := by rw [← hw_t_0]; exact box_new _ _ _ 8 _ rfl
  have kt_0_9 : w_t_0.cell? ⟨w.heap.size, 9, none⟩ = some (.int .i64 0) := by rw [← hw_t_0]; exact box_new _ _ _ 9 _ rfl
  have Ot_0 : Hid (w_t_0.ownsRow w.heap.size 78 10 (.slice (some ⟨w.heap.size, 0, none⟩) 1 1) 1 [.int .i64 0, .int .i64 0, .int .i64 0, .int .i64 0, .int .i64 0, .int .i64 0, .int .i64 0, .int .i64 0, .int .i64 0, .int .i64 0]) := Lib.hid (by rw [← hw_t_0]; exact own_laid (n := 1) HB.out.size rfl rfl (by unfold maxLen; omega))
  replace H := bind_hid H
  obtain ⟨t_1, qt_1, H⟩ := H
  obtain ⟨t_1_x0, t_1_x1, t_1_x2, t_1_x3, t_1_x4, t_1_x5, t_1_x6, t_1_x7, t_1_x8, t_1_x9⟩ := t_1
  replace H := unIntA10_hid H
  go_wp2_with fail
  go_at_call 87
  refine (Go.Proofs.YtfjcibkgbalkaaaDoor.GiFilledWith.C ((-1))  _    qt_1).mono ?_
  rintro e_t_1 wt_1 ⟨rfl, bt_1⟩
  unfold Go.Proofs.YtfjcibkgbalkaaaDoor.PIntA10.IntA10.val
  have HBwt_1 := Lib.hid (Below.step HBw_t_0.out bt_1)
  replace kt_0_0 := cell_below bt_1 kt_0_0
  replace kt_0_1 := cell_below bt_1 kt_0_1
  replace kt_0_2 := cell_below bt_1 kt_0_2
  replace kt_0_3 := cell_below bt_1 kt_0_3
  replace kt_0_4 := cell_below bt_1 kt_0_4
  replace kt_0_5 := cell_below bt_1 kt_0_5
  replace kt_0_6 := cell_below bt_1 kt_0_6
  replace kt_0_7 := cell_below bt_1 kt_0_7
  replace kt_0_8 := cell_below bt_1 kt_0_8
  replace kt_0_9 := cell_below bt_1 kt_0_9
  replace Ot_0 := Lib.hid (own_below Ot_0.out bt_1)
  clear bt_1
  replace H := let_hid H
  obtain ⟨vlatest_2, hvlatest_2, H⟩ := H
  obtain ⟨w_latest_2, hw_latest_2⟩ : ∃ x, wt_1.alloc (.cells #[.int .i64 t_1_x0, .int .i64 t_1_x1, .int .i64 t_1_x2, .int .i64 t_1_x3, .int .i64 t_1_x4, .int .i64 t_1_x5, .int .i64 t_1_x6, .int .i64 t_1_x7, .int .i64 t_1_x8, .int .i64 t_1_x9] 78) = x := ⟨_, rfl⟩
  have bw_latest_2 : Below wt_1.heap.size wt_1 w_latest_2 := by rw [← hw_latest_2]; exact (Below.refl _ _).alloc (Nat.le_refl _) _
  have hs_latest_2 := HBwt_1.out.size
  have nlatest_2 : vlatest_2.length = 10 := by rw [← hvlatest_2]; rfl
  have Olatest_2 : Hid (w_latest_2.ownsRow w.heap.size 78 1 (.slice (some ⟨wt_1.heap.size, 0, none⟩) 10 10) 10 (Go.Proofs.YtfjcibkgbalkaaaDoor.HelpInt.iv vlatest_2)) := by
    rw [← hw_latest_2, ← hvlatest_2]
    have e_ : ([.int .i64 t_1_x0, .int .i64 t_1_x1, .int .i64 t_1_x2, .int .i64 t_1_x3, .int .i64 t_1_x4, .int .i64 t_1_x5, .int .i64 t_1_x6, .int .i64 t_1_x7, .int .i64 t_1_x8, .int .i64 t_1_x9] : List Value) = Go.Proofs.YtfjcibkgbalkaaaDoor.HelpInt.iv [t_1_x0, t_1_x1, t_1_x2, t_1_x3, t_1_x4, t_1_x5, t_1_x6, t_1_x7, t_1_x8, t_1_x9] := rfl
    exact Lib.hid (own_laid (n := 10) hs_latest_2 e_ rfl (by unfold maxLen; omega))
  clear hs_latest_2
  have hhlatest_2 := Lib.hid hvlatest_2
  clear hvlatest_2
  replace nlatest_2 := Lib.hid nlatest_2
  have Dlatest_2_t_0 := Lib.hid (apart_box kt_0_0)
  have HBw_latest_2 := Lib.hid (Below.step HBwt_1.out bw_latest_2)
  have kt_0_0__169 := cell_below bw_latest_2 kt_0_0
  have kt_0_1__170 := cell_below bw_latest_2 kt_0_1
  have kt_0_2__171 := cell_below bw_latest_2 kt_0_2
  have kt_0_3__172 := cell_below bw_latest_2 kt_0_3
  have kt_0_4__173 := cell_below bw_latest_2 kt_0_4
  have kt_0_5__174 := cell_below bw_latest_2 kt_0_5
  have kt_0_6__175 := cell_below bw_latest_2 kt_0_6
  have kt_0_7__176 := cell_below bw_latest_2 kt_0_7
  have kt_0_8__177 := cell_below bw_latest_2 kt_0_8
  have kt_0_9__178 := cell_below bw_latest_2 kt_0_9
  replace Ot_0 := Lib.hid (own_below Ot_0.out bw_latest_2)
  clear bw_latest_2
  replace H := idx_hid H
  obtain ⟨nt_6, yt_6, et_6, lt_6, gt_6, H⟩ := H
  subst et_6
  have hqt_6 := nlatest_2.out
  obtain ⟨ab_t_6, ao_t_6, zt_6, At_6, z_t_6, ct_6_0⟩ := Go.Proofs.YtfjcibkgbalkaaaDoor.HelpInt.Ints.at_ (own_cells Olatest_2.out) (k := nt_6) (by omega)
  obtain rfl := Option.some.inj (gt_6.out.symm.trans z_t_6)
  simp only [Option.some.injEq, Addr.mk.injEq] at At_6
  obtain ⟨rfl, rfl, _⟩ := At_6
  clear z_t_6
  simp only [Nat.zero_add] at ct_6_0
  have b0t_6 : (0 : Int) ≤ (nt_6 : Int) := by omega
  have b1t_6 : (nt_6 : Int) < ((10 : Nat) : Int) := by omega
  have b2t_6 : ((nt_6 : Int)).toNat = nt_6 := by omega
  clear hqt_6
  have b3t_6 : nt_6 < 10 := by have h_ := lt_6; have hn_ := nlatest_2.out; omega
  have b4t_6 : (nt_6 : Int) < (10 : Int) := by omega
  replace H := let_hid H
  obtain ⟨l7_7, hl7_7, H⟩ := H
  try simp only [Int.toNat_natCast] at hl7_7
  obtain ⟨wl7_7, hwl7_7⟩ : ∃ x, (w_latest_2).setCell ⟨wt_1.heap.size, nt_6, none⟩ (.int .i64 by_2) = x := ⟨_, rfl⟩
  have z0l7_7 := Olatest_2.out.frozenAt (nt_6)
  have Sl7_7 := Lib.hid (own_stores [(nt_6, .int .i64 by_2)] Olatest_2.out)
  have nl7_7 : Hid (l7_7.length = 10) := Lib.hid (by rw [← hl7_7, List.length_set]; exact nlatest_2.out)
  have Pl7_7 : Hid (wl7_7.ownsRow w.heap.size 78 1 (.slice (some ⟨wt_1.heap.size, 0, none⟩) 10 10) 10 (Go.Proofs.YtfjcibkgbalkaaaDoor.HelpInt.iv l7_7)) := Lib.hid (by have e_ : ([(nt_6, .int .i64 by_2)] : List (Nat × Value)).foldl (fun xs p => xs.set p.1 p.2) (Go.Proofs.YtfjcibkgbalkaaaDoor.HelpInt.iv vlatest_2) = (Go.Proofs.YtfjcibkgbalkaaaDoor.HelpInt.iv l7_7) := (by rw [← hl7_7]; first | done | simp [Go.Proofs.YtfjcibkgbalkaaaDoor.HelpInt.iv, List.map_set]); rw [← hwl7_7, ← e_]; exact Sl7_7.out.1)
  have Gl7_7 : Hid (w_latest_2.grownBy wl7_7 (Value.slice (some ⟨wt_1.heap.size, 0, none⟩) 10 10).ownBlock) := Lib.hid (by rw [← hwl7_7]; exact Sl7_7.out.2)
  have HBwl7_7 := Lib.hid (HBw_latest_2.out.grown Gl7_7.out HBw_latest_2.out.size (fun q hq => (Olatest_2.out.lt q hq).1))
  have hhl7_7 := Lib.hid hl7_7
  clear hl7_7 Sl7_7
  have kt_0_0__179 := cell_other kt_0_0__169 Gl7_7.out Dlatest_2_t_0.out
  have kt_0_1__180 := cell_other kt_0_1__170 Gl7_7.out Dlatest_2_t_0.out
  have kt_0_2__181 := cell_other kt_0_2__171 Gl7_7.out Dlatest_2_t_0.out
  have kt_0_3__182 := cell_other kt_0_3__172 Gl7_7.out Dlatest_2_t_0.out
  have kt_0_4__183 := cell_other kt_0_4__173 Gl7_7.out Dlatest_2_t_0.out
  have kt_0_5__184 := cell_other kt_0_5__174 Gl7_7.out Dlatest_2_t_0.out
  have kt_0_6__185 := cell_other kt_0_6__175 Gl7_7.out Dlatest_2_t_0.out
  have kt_0_7__186 := cell_other kt_0_7__176 Gl7_7.out Dlatest_2_t_0.out
  have kt_0_8__187 := cell_other kt_0_8__177 Gl7_7.out Dlatest_2_t_0.out
  have kt_0_9__188 := cell_other kt_0_9__178 Gl7_7.out Dlatest_2_t_0.out
  replace Ot_0 := Lib.hid (own_other Ot_0.out Gl7_7.out Dlatest_2_t_0.out)
  clear Olatest_2 Gl7_7
  replace H := let_hid H
  obtain ⟨t_10, ht_10, H⟩ := H
  try have hv_t_10 : (list.length : Int) - 1 = t_10 := by rw [← ht_10]; exact (IntWalk.i64_in _ (by omega)).symm
  try have hv2_t_10 : IntKind.i64.wrap t_10 = t_10 := by rw [← hv_t_10]; exact IntWalk.i64_in _ (by omega)
  go_wp2_with fail
  clear kt_0_0 kt_0_1 kt_0_2 kt_0_3 kt_0_4 kt_0_5 kt_0_6 kt_0_7 kt_0_8 kt_0_9 z0l7_7 kt_0_0__169 kt_0_1__170 kt_0_2__171 kt_0_3__172 kt_0_4__173 kt_0_5__174 kt_0_6__175 kt_0_7__176 kt_0_8__177 kt_0_9__178 ct_6_0
  go_wp2_with fail
  go_loopg [8] (fuel) (fun m_ v8_ wr => ∃ (latest_7l0 : (List Int)) (i_8l0 : Int), v8_ = .int .i64 i_8l0 ∧ Hid (loopK (l0 list) m_ (latest_7l0, i_8l0) (e0 ) = some r) ∧ Hid (Below w.heap.size w wr) ∧ wr.cell? ⟨w.heap.size, 0, none⟩ = some (.int .i64 0) ∧ wr.cell? ⟨w.heap.size, 1, none⟩ = some (.int .i64 0) ∧ wr.cell? ⟨w.heap.size, 2, none⟩ = some (.int .i64 0) ∧ wr.cell? ⟨w.heap.size, 3, none⟩ = some (.int .i64 0) ∧ wr.cell? ⟨w.heap.size, 4, none⟩ = some (.int .i64 0) ∧ wr.cell? ⟨w.heap.size, 5, none⟩ = some (.int .i64 0) ∧ wr.cell? ⟨w.heap.size, 6, none⟩ = some (.int .i64 0) ∧ wr.cell? ⟨w.heap.size, 7, none⟩ = some (.int .i64 0) ∧ wr.cell? ⟨w.heap.size, 8, none⟩ = some (.int .i64 0) ∧ wr.cell? ⟨w.heap.size, 9, none⟩ = some (.int .i64 0) ∧ Hid (wr.ownsRow w.heap.size 78 10 (.slice (some ⟨w.heap.size, 0, none⟩) 1 1) 1 [.int .i64 0, .int .i64 0, .int .i64 0, .int .i64 0, .int .i64 0, .int .i64 0, .int .i64 0, .int .i64 0, .int .i64 0, .int .i64 0]) ∧ Hid (wr.ownsRow w.heap.size 78 1 (.slice (some ⟨wt_1.heap.size, 0, none⟩) 10 10) 10 (Go.Proofs.YtfjcibkgbalkaaaDoor.HelpInt.iv latest_7l0)) ∧ Hid (latest_7l0.length = 10) ∧ Hid (Apart (some ⟨wt_1.heap.size, 0, none⟩) (some ⟨w.heap.size, 0, none⟩)))
  case atStart => exact ⟨_, _, rfl, H, HBwl7_7, kt_0_0__179, kt_0_1__180, kt_0_2__181, kt_0_3__182, kt_0_4__183, kt_0_5__184, kt_0_6__185, kt_0_7__186, kt_0_8__187, kt_0_9__188, Ot_0, Pl7_7, Lib.hid (nl7_7.out), Lib.hid Dlatest_2_t_0.out⟩
  case round =>
    obtain ⟨latest_7l0, i_8l0, rfl, H, HBwr0, kt_0_0__179, kt_0_1__180, kt_0_2__181, kt_0_3__182, kt_0_4__183, kt_0_5__184, kt_0_6__185, kt_0_7__186, kt_0_8__187, kt_0_9__188, Ot_0, Olatest_7l0, hnlatest_7l0, Dlatest_7l0_t_0⟩ := hrel
    rename World => wr0
    cases gk with
    | zero => exact (loop_zero H).elim
    | succ m0 =>
      replace H := loop_succ H
      unfold l0 at H
      replace H := unp2_hid H
      replace H := let_hid H
      obtain ⟨t_13, ht_13, H⟩ := H
      cases t_13 with
      | false =>
        replace H := ite_f H
        replace H := app_hid H
        unfold e0 at H
        replace H := unp2_hid H
        have ka_189 : wr0.cell? ⟨wt_1.heap.size, 0, none⟩ = some (.int .i64 (Go.Proofs.YtfjcibkgbalkaaaDoor.GoA.nth latest_7l0 0)) := Go.Proofs.YtfjcibkgbalkaaaDoor.GoA.row_at Olatest_7l0.out hnlatest_7l0.out 0 (by omega)
        have ka_190 : wr0.cell? ⟨wt_1.heap.size, 1, none⟩ = some (.int .i64 (Go.Proofs.YtfjcibkgbalkaaaDoor.GoA.nth latest_7l0 1)) := Go.Proofs.YtfjcibkgbalkaaaDoor.GoA.row_at Olatest_7l0.out hnlatest_7l0.out 1 (by omega)
        have ka_191 : wr0.cell? ⟨wt_1.heap.size, 2, none⟩ = some (.int .i64 (Go.Proofs.YtfjcibkgbalkaaaDoor.GoA.nth latest_7l0 2)) := Go.Proofs.YtfjcibkgbalkaaaDoor.GoA.row_at Olatest_7l0.out hnlatest_7l0.out 2 (by omega)
        have ka_192 : wr0.cell? ⟨wt_1.heap.size, 3, none⟩ = some (.int .i64 (Go.Proofs.YtfjcibkgbalkaaaDoor.GoA.nth latest_7l0 3)) := Go.Proofs.YtfjcibkgbalkaaaDoor.GoA.row_at Olatest_7l0.out hnlatest_7l0.out 3 (by omega)
        have ka_193 : wr0.cell? ⟨wt_1.heap.size, 4, none⟩ = some (.int .i64 (Go.Proofs.YtfjcibkgbalkaaaDoor.GoA.nth latest_7l0 4)) := Go.Proofs.YtfjcibkgbalkaaaDoor.GoA.row_at Olatest_7l0.out hnlatest_7l0.out 4 (by omega)
        have ka_194 : wr0.cell? ⟨wt_1.heap.size, 5, none⟩ = some (.int .i64 (Go.Proofs.YtfjcibkgbalkaaaDoor.GoA.nth latest_7l0 5)) := Go.Proofs.YtfjcibkgbalkaaaDoor.GoA.row_at Olatest_7l0.out hnlatest_7l0.out 5 (by omega)
        have ka_195 : wr0.cell? ⟨wt_1.heap.size, 6, none⟩ = some (.int .i64 (Go.Proofs.YtfjcibkgbalkaaaDoor.GoA.nth latest_7l0 6)) := Go.Proofs.YtfjcibkgbalkaaaDoor.GoA.row_at Olatest_7l0.out hnlatest_7l0.out 6 (by omega)
        have ka_196 : wr0.cell? ⟨wt_1.heap.size, 7, none⟩ = some (.int .i64 (Go.Proofs.YtfjcibkgbalkaaaDoor.GoA.nth latest_7l0 7)) := Go.Proofs.YtfjcibkgbalkaaaDoor.GoA.row_at Olatest_7l0.out hnlatest_7l0.out 7 (by omega)
        have ka_197 : wr0.cell? ⟨wt_1.heap.size, 8, none⟩ = some (.int .i64 (Go.Proofs.YtfjcibkgbalkaaaDoor.GoA.nth latest_7l0 8)) := Go.Proofs.YtfjcibkgbalkaaaDoor.GoA.row_at Olatest_7l0.out hnlatest_7l0.out 8 (by omega)
        have ka_198 : wr0.cell? ⟨wt_1.heap.size, 9, none⟩ = some (.int .i64 (Go.Proofs.YtfjcibkgbalkaaaDoor.GoA.nth latest_7l0 9)) := Go.Proofs.YtfjcibkgbalkaaaDoor.GoA.row_at Olatest_7l0.out hnlatest_7l0.out 9 (by omega)
        obtain ⟨wb42_42, hwb42_42⟩ : ∃ x, ((((((((((wr0).setCell ⟨w.heap.size, 0, none⟩ (.int .i64 (Go.Proofs.YtfjcibkgbalkaaaDoor.GoA.nth latest_7l0 0))).setCell ⟨w.heap.size, 1, none⟩ (.int .i64 (Go.Proofs.YtfjcibkgbalkaaaDoor.GoA.nth latest_7l0 1))).setCell ⟨w.heap.size, 2, none⟩ (.int .i64 (Go.Proofs.YtfjcibkgbalkaaaDoor.GoA.nth latest_7l0 2))).setCell ⟨w.heap.size, 3, none⟩ (.int .i64 (Go.Proofs.YtfjcibkgbalkaaaDoor.GoA.nth latest_7l0 3))).setCell ⟨w.heap.size, 4, none⟩ (.int .i64 (Go.Proofs.YtfjcibkgbalkaaaDoor.GoA.nth latest_7l0 4))).setCell ⟨w.heap.size, 5, none⟩ (.int .i64 (Go.Proofs.YtfjcibkgbalkaaaDoor.GoA.nth latest_7l0 5))).setCell ⟨w.heap.size, 6, none⟩ (.int .i64 (Go.Proofs.YtfjcibkgbalkaaaDoor.GoA.nth latest_7l0 6))).setCell ⟨w.heap.size, 7, none⟩ (.int .i64 (Go.Proofs.YtfjcibkgbalkaaaDoor.GoA.nth latest_7l0 7))).setCell ⟨w.heap.size, 8, none⟩ (.int .i64 (Go.Proofs.YtfjcibkgbalkaaaDoor.GoA.nth latest_7l0 8))).setCell ⟨w.heap.size, 9, none⟩ (.int .i64 (Go.Proofs.YtfjcibkgbalkaaaDoor.GoA.nth latest_7l0 9)) = x := ⟨_, rfl⟩
        have z0b42_42 := Ot_0.out.frozenAt 0
        have z1b42_42 := Ot_0.out.frozenAt 1
        have z2b42_42 := Ot_0.out.frozenAt 2
        have z3b42_42 := Ot_0.out.frozenAt 3
        have z4b42_42 := Ot_0.out.frozenAt 4
        have z5b42_42 := Ot_0.out.frozenAt 5
        have z6b42_42 := Ot_0.out.frozenAt 6
        have z7b42_42 := Ot_0.out.frozenAt 7
        have z8b42_42 := Ot_0.out.frozenAt 8
        have z9b42_42 := Ot_0.out.frozenAt 9
        have Sb42_42 := Lib.hid (own_stores [(0, .int .i64 (Go.Proofs.YtfjcibkgbalkaaaDoor.GoA.nth latest_7l0 0)), (1, .int .i64 (Go.Proofs.YtfjcibkgbalkaaaDoor.GoA.nth latest_7l0 1)), (2, .int .i64 (Go.Proofs.YtfjcibkgbalkaaaDoor.GoA.nth latest_7l0 2)), (3, .int .i64 (Go.Proofs.YtfjcibkgbalkaaaDoor.GoA.nth latest_7l0 3)), (4, .int .i64 (Go.Proofs.YtfjcibkgbalkaaaDoor.GoA.nth latest_7l0 4)), (5, .int .i64 (Go.Proofs.YtfjcibkgbalkaaaDoor.GoA.nth latest_7l0 5)), (6, .int .i64 (Go.Proofs.YtfjcibkgbalkaaaDoor.GoA.nth latest_7l0 6)), (7, .int .i64 (Go.Proofs.YtfjcibkgbalkaaaDoor.GoA.nth latest_7l0 7)), (8, .int .i64 (Go.Proofs.YtfjcibkgbalkaaaDoor.GoA.nth latest_7l0 8)), (9, .int .i64 (Go.Proofs.YtfjcibkgbalkaaaDoor.GoA.nth latest_7l0 9))] Ot_0.out)
        have Pb42_42 : Hid (wb42_42.ownsRow w.heap.size 78 10 (.slice (some ⟨w.heap.size, 0, none⟩) 1 1) 1 [.int .i64 (Go.Proofs.YtfjcibkgbalkaaaDoor.GoA.nth latest_7l0 0), .int .i64 (Go.Proofs.YtfjcibkgbalkaaaDoor.GoA.nth latest_7l0 1), .int .i64 (Go.Proofs.YtfjcibkgbalkaaaDoor.GoA.nth latest_7l0 2), .int .i64 (Go.Proofs.YtfjcibkgbalkaaaDoor.GoA.nth latest_7l0 3), .int .i64 (Go.Proofs.YtfjcibkgbalkaaaDoor.GoA.nth latest_7l0 4), .int .i64 (Go.Proofs.YtfjcibkgbalkaaaDoor.GoA.nth latest_7l0 5), .int .i64 (Go.Proofs.YtfjcibkgbalkaaaDoor.GoA.nth latest_7l0 6), .int .i64 (Go.Proofs.YtfjcibkgbalkaaaDoor.GoA.nth latest_7l0 7), .int .i64 (Go.Proofs.YtfjcibkgbalkaaaDoor.GoA.nth latest_7l0 8), .int .i64 (Go.Proofs.YtfjcibkgbalkaaaDoor.GoA.nth latest_7l0 9)]) := Lib.hid (by rw [← hwb42_42]; exact Sb42_42.out.1)
        have Gb42_42 : Hid (wr0.grownBy wb42_42 (Value.slice (some ⟨w.heap.size, 0, none⟩) 1 1).ownBlock) := Lib.hid (by rw [← hwb42_42]; exact Sb42_42.out.2)
        have HBwb42_42 := Lib.hid (HBwr0.out.grown Gb42_42.out HBwr0.out.size (fun q hq => (Ot_0.out.lt q hq).1))
        clear Sb42_42
        replace Olatest_7l0 := Lib.hid (own_other Olatest_7l0.out Gb42_42.out (Apart.symm Dlatest_7l0_t_0.out))
        clear Ot_0 Gb42_42
        have kt_0_0__199 : wb42_42.cell? ⟨w.heap.size, 0, none⟩ = some (.int .i64 (Go.Proofs.YtfjcibkgbalkaaaDoor.GoA.nth latest_7l0 0)) := Pb42_42.out.cells rfl 0 _ rfl
        have kt_0_1__200 : wb42_42.cell? ⟨w.heap.size, 1, none⟩ = some (.int .i64 (Go.Proofs.YtfjcibkgbalkaaaDoor.GoA.nth latest_7l0 1)) := Pb42_42.out.cells rfl 1 _ rfl
        have kt_0_2__201 : wb42_42.cell? ⟨w.heap.size, 2, none⟩ = some (.int .i64 (Go.Proofs.YtfjcibkgbalkaaaDoor.GoA.nth latest_7l0 2)) := Pb42_42.out.cells rfl 2 _ rfl
        have kt_0_3__202 : wb42_42.cell? ⟨w.heap.size, 3, none⟩ = some (.int .i64 (Go.Proofs.YtfjcibkgbalkaaaDoor.GoA.nth latest_7l0 3)) := Pb42_42.out.cells rfl 3 _ rfl
        have kt_0_4__203 : wb42_42.cell? ⟨w.heap.size, 4, none⟩ = some (.int .i64 (Go.Proofs.YtfjcibkgbalkaaaDoor.GoA.nth latest_7l0 4)) := Pb42_42.out.cells rfl 4 _ rfl
        have kt_0_5__204 : wb42_42.cell? ⟨w.heap.size, 5, none⟩ = some (.int .i64 (Go.Proofs.YtfjcibkgbalkaaaDoor.GoA.nth latest_7l0 5)) := Pb42_42.out.cells rfl 5 _ rfl
        have kt_0_6__205 : wb42_42.cell? ⟨w.heap.size, 6, none⟩ = some (.int .i64 (Go.Proofs.YtfjcibkgbalkaaaDoor.GoA.nth latest_7l0 6)) := Pb42_42.out.cells rfl 6 _ rfl
        have kt_0_7__206 : wb42_42.cell? ⟨w.heap.size, 7, none⟩ = some (.int .i64 (Go.Proofs.YtfjcibkgbalkaaaDoor.GoA.nth latest_7l0 7)) := Pb42_42.out.cells rfl 7 _ rfl
        have kt_0_8__207 : wb42_42.cell? ⟨w.heap.size, 8, none⟩ = some (.int .i64 (Go.Proofs.YtfjcibkgbalkaaaDoor.GoA.nth latest_7l0 8)) := Pb42_42.out.cells rfl 8 _ rfl
        have kt_0_9__208 : wb42_42.cell? ⟨w.heap.size, 9, none⟩ = some (.int .i64 (Go.Proofs.YtfjcibkgbalkaaaDoor.GoA.nth latest_7l0 9)) := Pb42_42.out.cells rfl 9 _ rfl
        cases ret_hid H
        go_wp2_with fail
        (try simp only [Exit.inBlock, Exit.then])
        refine bodyPost_ret (v := .agg #[.int .i64 (Go.Proofs.YtfjcibkgbalkaaaDoor.GoA.nth latest_7l0 0), .int .i64 (Go.Proofs.YtfjcibkgbalkaaaDoor.GoA.nth latest_7l0 1), .int .i64 (Go.Proofs.YtfjcibkgbalkaaaDoor.GoA.nth latest_7l0 2), .int .i64 (Go.Proofs.YtfjcibkgbalkaaaDoor.GoA.nth latest_7l0 3), .int .i64 (Go.Proofs.YtfjcibkgbalkaaaDoor.GoA.nth latest_7l0 4), .int .i64 (Go.Proofs.YtfjcibkgbalkaaaDoor.GoA.nth latest_7l0 5), .int .i64 (Go.Proofs.YtfjcibkgbalkaaaDoor.GoA.nth latest_7l0 6), .int .i64 (Go.Proofs.YtfjcibkgbalkaaaDoor.GoA.nth latest_7l0 7), .int .i64 (Go.Proofs.YtfjcibkgbalkaaaDoor.GoA.nth latest_7l0 8), .int .i64 (Go.Proofs.YtfjcibkgbalkaaaDoor.GoA.nth latest_7l0 9)]) ?hr_ ?hd_ ?_
        case hd_ => rfl
        case hr_ => simp [results, Tryd.results65, kt_0_0__199, kt_0_1__200, kt_0_2__201, kt_0_3__202, kt_0_4__203, kt_0_5__204, kt_0_6__205, kt_0_7__206, kt_0_8__207, kt_0_9__208, go_sem]
        exact ⟨rfl, HBwb42_42.out⟩
      | true =>
        replace H := ite_t H
        replace H := idx_hid H
        obtain ⟨nt_16, yt_16, et_16, lt_16, gt_16, H⟩ := H
        subst et_16
        have nc_209 : 0 ≤ nt_16 := by have := of_decide_eq_true ht_13; omega
        obtain ⟨t_16_leave, t_16_from_, t_16_to_, t_16_arrive⟩ := yt_16
        replace H := unMail_hid H
        obtain ⟨ab_t_16, ao_t_16, zt_16, At_16, z_t_16, ct_16_0, ct_16_1, ct_16_2, ct_16_3⟩ := Go.Proofs.YtfjcibkgbalkaaaDoor.OMail.at_ M0.out lt_16
        obtain rfl := Option.some.inj (gt_16.out.symm.trans z_t_16)
        subst At_16
        have ltt_16 := cell_lt ct_16_0
        replace ct_16_0 := cell_below HBwr0.out ct_16_0
        replace ct_16_1 := cell_below HBwr0.out ct_16_1
        replace ct_16_2 := cell_below HBwr0.out ct_16_2
        replace ct_16_3 := cell_below HBwr0.out ct_16_3
        clear z_t_16
        have b0t_16 : (0 : Int) ≤ (nt_16 : Int) := by omega
        have b1t_16 : (nt_16 : Int) < ((list.length : Nat) : Int) := by omega
        have b2t_16 : ((nt_16 : Int)).toNat = nt_16 := by omega
        obtain ⟨w_x_18, hw_x_18⟩ : ∃ x, wr0.alloc (.cells #[.int .i64 t_16_leave, .int .i64 t_16_from_, .int .i64 t_16_to_, .int .i64 t_16_arrive] 54) = x := ⟨_, rfl⟩
        have bw_x_18 : Below wr0.heap.size wr0 w_x_18 := by rw [← hw_x_18]; exact (Below.refl _ _).alloc (Nat.le_refl _) _
        have Dx_18_latest_7l0 := Lib.hid (apart_fresh Olatest_7l0.out)
        have Dx_18_t_0 := Lib.hid (apart_box kt_0_0__179)
        have HBw_x_18 := Lib.hid (Below.step HBwr0.out bw_x_18)
        have kt_0_0__210 := cell_below bw_x_18 kt_0_0__179
        have kt_0_1__211 := cell_below bw_x_18 kt_0_1__180
        have kt_0_2__212 := cell_below bw_x_18 kt_0_2__181
        have kt_0_3__213 := cell_below bw_x_18 kt_0_3__182
        have kt_0_4__214 := cell_below bw_x_18 kt_0_4__183
        have kt_0_5__215 := cell_below bw_x_18 kt_0_5__184
        have kt_0_6__216 := cell_below bw_x_18 kt_0_6__185
        have kt_0_7__217 := cell_below bw_x_18 kt_0_7__186
        have kt_0_8__218 := cell_below bw_x_18 kt_0_8__187
        have kt_0_9__219 := cell_below bw_x_18 kt_0_9__188
        have ct_16_0__220 := cell_below bw_x_18 ct_16_0
        have ct_16_1__221 := cell_below bw_x_18 ct_16_1
        have ct_16_2__222 := cell_below bw_x_18 ct_16_2
        have ct_16_3__223 := cell_below bw_x_18 ct_16_3
        replace Olatest_7l0 := Lib.hid (own_below Olatest_7l0.out bw_x_18)
        replace Ot_0 := Lib.hid (own_below Ot_0.out bw_x_18)
        clear bw_x_18
        have kx_18_0 : w_x_18.cell? ⟨wr0.heap.size, 0, none⟩ = some (.int .i64 t_16_leave) := by rw [← hw_x_18]; exact box_new _ _ _ 0 _ rfl
        have kx_18_1 : w_x_18.cell? ⟨wr0.heap.size, 1, none⟩ = some (.int .i64 t_16_from_) := by rw [← hw_x_18]; exact box_new _ _ _ 1 _ rfl
        have kx_18_2 : w_x_18.cell? ⟨wr0.heap.size, 2, none⟩ = some (.int .i64 t_16_to_) := by rw [← hw_x_18]; exact box_new _ _ _ 2 _ rfl
        have kx_18_3 : w_x_18.cell? ⟨wr0.heap.size, 3, none⟩ = some (.int .i64 t_16_arrive) := by rw [← hw_x_18]; exact box_new _ _ _ 3 _ rfl
        go_wp2_with fail
        clear kt_0_0__179 kt_0_1__180 kt_0_2__181 kt_0_3__182 kt_0_4__183 kt_0_5__184 kt_0_6__185 kt_0_7__186 kt_0_8__187 kt_0_9__188 ct_16_0 ct_16_1 ct_16_2 ct_16_3
        have Hkt_0_0__210 := Lib.hid kt_0_0__210
        replace kt_0_0__210 := cell_regrown kt_0_0__210
        have Hkt_0_1__211 := Lib.hid kt_0_1__211
        replace kt_0_1__211 := cell_regrown kt_0_1__211
        have Hkt_0_2__212 := Lib.hid kt_0_2__212
        replace kt_0_2__212 := cell_regrown kt_0_2__212
        have Hkt_0_3__213 := Lib.hid kt_0_3__213
        replace kt_0_3__213 := cell_regrown kt_0_3__213
        have Hkt_0_4__214 := Lib.hid kt_0_4__214
        replace kt_0_4__214 := cell_regrown kt_0_4__214
        have Hkt_0_5__215 := Lib.hid kt_0_5__215
        replace kt_0_5__215 := cell_regrown kt_0_5__215
        have Hkt_0_6__216 := Lib.hid kt_0_6__216
        replace kt_0_6__216 := cell_regrown kt_0_6__216
        have Hkt_0_7__217 := Lib.hid kt_0_7__217
        replace kt_0_7__217 := cell_regrown kt_0_7__217
        have Hkt_0_8__218 := Lib.hid kt_0_8__218
        replace kt_0_8__218 := cell_regrown kt_0_8__218
        have Hkt_0_9__219 := Lib.hid kt_0_9__219
        replace kt_0_9__219 := cell_regrown kt_0_9__219
        have Hct_16_0__220 := Lib.hid ct_16_0__220
        replace ct_16_0__220 := cell_regrown ct_16_0__220
        have Hct_16_1__221 := Lib.hid ct_16_1__221
        replace ct_16_1__221 := cell_regrown ct_16_1__221
        have Hct_16_2__222 := Lib.hid ct_16_2__222
        replace ct_16_2__222 := cell_regrown ct_16_2__222
        have Hct_16_3__223 := Lib.hid ct_16_3__223
        replace ct_16_3__223 := cell_regrown ct_16_3__223
        have Hkx_18_0 := Lib.hid kx_18_0
        replace kx_18_0 := cell_regrown kx_18_0
        have Hkx_18_1 := Lib.hid kx_18_1
        replace kx_18_1 := cell_regrown kx_18_1
        have Hkx_18_2 := Lib.hid kx_18_2
        replace kx_18_2 := cell_regrown kx_18_2
        have Hkx_18_3 := Lib.hid kx_18_3
        replace kx_18_3 := cell_regrown kx_18_3
        replace H := idx_hid H
        obtain ⟨nt_24, yt_24, et_24, lt_24, gt_24, H⟩ := H
        subst et_24
        have hqt_24 := hnlatest_7l0.out
        obtain ⟨ab_t_24, ao_t_24, zt_24, At_24, z_t_24, ct_24_0⟩ := Go.Proofs.YtfjcibkgbalkaaaDoor.HelpInt.Ints.at_ (own_cells Olatest_7l0.out) (k := nt_24) (by omega)
        obtain rfl := Option.some.inj (gt_24.out.symm.trans z_t_24)
        simp only [Option.some.injEq, Addr.mk.injEq] at At_24
        obtain ⟨rfl, rfl, _⟩ := At_24
        clear z_t_24
        simp only [Nat.zero_add] at ct_24_0
        have b0t_24 : (0 : Int) ≤ (nt_24 : Int) := by omega
        have b1t_24 : (nt_24 : Int) < ((10 : Nat) : Int) := by omega
        have b2t_24 : ((nt_24 : Int)).toNat = nt_24 := by omega
        clear hqt_24
        have Hct_24_0 := Lib.hid ct_24_0
        replace ct_24_0 := cell_regrown ct_24_0
        have b3t_24 : nt_24 < 10 := by have h_ := lt_24; have hn_ := hnlatest_7l0.out; omega
        have b4t_24 : (nt_24 : Int) < (10 : Int) := by omega
        replace H := let_hid H
        obtain ⟨t_26, ht_26, H⟩ := H
        refine wp_region_quiet_below (by kernel_rfl) (by kernel_rfl) ?_
        repeat (go_big_quiet_step (fail))
        refine wpQuiet_nil ?_
        intro Y7 hY7
        replace hY7 := below_class hY7
        replace kt_0_0__210 := Hkt_0_0__210.out
        clear Hkt_0_0__210
        replace kt_0_1__211 := Hkt_0_1__211.out
        clear Hkt_0_1__211
        replace kt_0_2__212 := Hkt_0_2__212.out
        clear Hkt_0_2__212
        replace kt_0_3__213 := Hkt_0_3__213.out
        clear Hkt_0_3__213
        replace kt_0_4__214 := Hkt_0_4__214.out
        clear Hkt_0_4__214
        replace kt_0_5__215 := Hkt_0_5__215.out
        clear Hkt_0_5__215
        replace kt_0_6__216 := Hkt_0_6__216.out
        clear Hkt_0_6__216
        replace kt_0_7__217 := Hkt_0_7__217.out
        clear Hkt_0_7__217
        replace kt_0_8__218 := Hkt_0_8__218.out
        clear Hkt_0_8__218
        replace kt_0_9__219 := Hkt_0_9__219.out
        clear Hkt_0_9__219
        replace ct_16_0__220 := Hct_16_0__220.out
        clear Hct_16_0__220
        replace ct_16_1__221 := Hct_16_1__221.out
        clear Hct_16_1__221
        replace ct_16_2__222 := Hct_16_2__222.out
        clear Hct_16_2__222
        replace ct_16_3__223 := Hct_16_3__223.out
        clear Hct_16_3__223
        replace kx_18_0 := Hkx_18_0.out
        clear Hkx_18_0
        replace kx_18_1 := Hkx_18_1.out
        clear Hkx_18_1
        replace kx_18_2 := Hkx_18_2.out
        clear Hkx_18_2
        replace kx_18_3 := Hkx_18_3.out
        clear Hkx_18_3
        replace ct_24_0 := Hct_24_0.out
        clear Hct_24_0
        have HBY7 := Lib.hid (Below.step HBw_x_18.out hY7)
        replace kt_0_0__210 := cell_below hY7 kt_0_0__210
        replace kt_0_1__211 := cell_below hY7 kt_0_1__211
        replace kt_0_2__212 := cell_below hY7 kt_0_2__212
        replace kt_0_3__213 := cell_below hY7 kt_0_3__213
        replace kt_0_4__214 := cell_below hY7 kt_0_4__214
        replace kt_0_5__215 := cell_below hY7 kt_0_5__215
        replace kt_0_6__216 := cell_below hY7 kt_0_6__216
        replace kt_0_7__217 := cell_below hY7 kt_0_7__217
        replace kt_0_8__218 := cell_below hY7 kt_0_8__218
        replace kt_0_9__219 := cell_below hY7 kt_0_9__219
        replace ct_16_0__220 := cell_below hY7 ct_16_0__220
        replace ct_16_1__221 := cell_below hY7 ct_16_1__221
        replace ct_16_2__222 := cell_below hY7 ct_16_2__222
        replace ct_16_3__223 := cell_below hY7 ct_16_3__223
        replace kx_18_0 := cell_below hY7 kx_18_0
        replace kx_18_1 := cell_below hY7 kx_18_1
        replace kx_18_2 := cell_below hY7 kx_18_2
        replace kx_18_3 := cell_below hY7 kx_18_3
        replace ct_24_0 := cell_below hY7 ct_24_0
        replace Olatest_7l0 := Lib.hid (own_below Olatest_7l0.out hY7)
        replace Ot_0 := Lib.hid (own_below Ot_0.out hY7)
        clear hY7
        cases t_26 with
        | false =>
          replace H := ite_f H
          replace H := let_hid H
          obtain ⟨t_39, ht_39, H⟩ := H
          replace H := app_hid H
          go_wp2_with fail
          go_roundg m0
          case measure => omega
          case rel => exact ⟨_, _, rfl, H, HBY7, kt_0_0__210, kt_0_1__211, kt_0_2__212, kt_0_3__213, kt_0_4__214, kt_0_5__215, kt_0_6__216, kt_0_7__217, kt_0_8__218, kt_0_9__219, Ot_0, Olatest_7l0, Lib.hid (hnlatest_7l0.out), Lib.hid Dlatest_7l0_t_0.out⟩
        | true =>
          replace H := ite_t H
          go_wp2_with fail
          obtain ⟨Z8, hZ8⟩ : ∃ x, Y7.drew = x := ⟨_, rfl⟩
          have bd8 : Below Y7.heap.size Y7 Z8 := by rw [← hZ8]; exact (Below.refl _ _).drew
          have HBZ8 := Lib.hid (Below.step HBY7.out bd8)
          replace kt_0_0__210 := cell_below bd8 kt_0_0__210
          replace kt_0_1__211 := cell_below bd8 kt_0_1__211
          replace kt_0_2__212 := cell_below bd8 kt_0_2__212
          replace kt_0_3__213 := cell_below bd8 kt_0_3__213
          replace kt_0_4__214 := cell_below bd8 kt_0_4__214
          replace kt_0_5__215 := cell_below bd8 kt_0_5__215
          replace kt_0_6__216 := cell_below bd8 kt_0_6__216
          replace kt_0_7__217 := cell_below bd8 kt_0_7__217
          replace kt_0_8__218 := cell_below bd8 kt_0_8__218
          replace kt_0_9__219 := cell_below bd8 kt_0_9__219
          replace ct_16_0__220 := cell_below bd8 ct_16_0__220
          replace ct_16_1__221 := cell_below bd8 ct_16_1__221
          replace ct_16_2__222 := cell_below bd8 ct_16_2__222
          replace ct_16_3__223 := cell_below bd8 ct_16_3__223
          replace kx_18_0 := cell_below bd8 kx_18_0
          replace kx_18_1 := cell_below bd8 kx_18_1
          replace kx_18_2 := cell_below bd8 kx_18_2
          replace kx_18_3 := cell_below bd8 kx_18_3
          replace ct_24_0 := cell_below bd8 ct_24_0
          replace Olatest_7l0 := Lib.hid (own_below Olatest_7l0.out bd8)
          replace Ot_0 := Lib.hid (own_below Ot_0.out bd8)
          clear bd8
          replace H := idx_hid H
          obtain ⟨nt_31, yt_31, et_31, lt_31, gt_31, H⟩ := H
          subst et_31
          have hqt_31 := hnlatest_7l0.out
          obtain ⟨ab_t_31, ao_t_31, zt_31, At_31, z_t_31, ct_31_0⟩ := Go.Proofs.YtfjcibkgbalkaaaDoor.HelpInt.Ints.at_ (own_cells Olatest_7l0.out) (k := nt_31) (by omega)
          obtain rfl := Option.some.inj (gt_31.out.symm.trans z_t_31)
          simp only [Option.some.injEq, Addr.mk.injEq] at At_31
          obtain ⟨rfl, rfl, _⟩ := At_31
          clear z_t_31
          simp only [Nat.zero_add] at ct_31_0
          have b0t_31 : (0 : Int) ≤ (nt_31 : Int) := by omega
          have b1t_31 : (nt_31 : Int) < ((10 : Nat) : Int) := by omega
          have b2t_31 : ((nt_31 : Int)).toNat = nt_31 := by omega
          clear hqt_31
          have b3t_31 : nt_31 < 10 := by have h_ := lt_31; have hn_ := hnlatest_7l0.out; omega
          have b4t_31 : (nt_31 : Int) < (10 : Int) := by omega
          replace H := let_hid H
          obtain ⟨t_35, ht_35, H⟩ := H
          replace H := idx_hid H
          obtain ⟨nt_36, yt_36, et_36, lt_36, gt_36, H⟩ := H
          obtain rfl : nt_31 = nt_36 := by omega
          clear et_36
          obtain rfl := Option.some.inj (gt_31.out.symm.trans gt_36.out)
          clear gt_36 lt_36
          have b3t_36 : nt_31 < 10 := by have h_ := lt_31; have hn_ := hnlatest_7l0.out; omega
          have b4t_36 : (nt_31 : Int) < (10 : Int) := by omega
          refine wp_region_still_tail 10 (by kernel_rfl) (by kernel_rfl) ?_
          simp only [List.take_succ_cons, List.take_zero, List.drop_succ_cons, List.drop_zero]
          change wpStill _ _ Y7.drew _ _ _
          rw [hZ8]
          repeat still_step
          refine wpStill_nil ?_
          change wpList _ _ _ _ _ Y7.drew
          rw [hZ8]
          clear hZ8
          replace H := let_hid H
          obtain ⟨l37_37, hl37_37, H⟩ := H
          try simp only [Int.toNat_natCast] at hl37_37
          obtain ⟨wl37_37, hwl37_37⟩ : ∃ x, (Z8).setCell ⟨wt_1.heap.size, nt_31, none⟩ (.int .i64 t_35) = x := ⟨_, rfl⟩
          have z0l37_37 := Olatest_7l0.out.frozenAt (nt_31)
          have Sl37_37 := Lib.hid (own_stores [(nt_31, .int .i64 t_35)] Olatest_7l0.out)
          have nl37_37 : Hid (l37_37.length = 10) := Lib.hid (by rw [← hl37_37, List.length_set]; exact hnlatest_7l0.out)
          have Pl37_37 : Hid (wl37_37.ownsRow w.heap.size 78 1 (.slice (some ⟨wt_1.heap.size, 0, none⟩) 10 10) 10 (Go.Proofs.YtfjcibkgbalkaaaDoor.HelpInt.iv l37_37)) := Lib.hid (by have e_ : ([(nt_31, .int .i64 t_35)] : List (Nat × Value)).foldl (fun xs p => xs.set p.1 p.2) (Go.Proofs.YtfjcibkgbalkaaaDoor.HelpInt.iv latest_7l0) = (Go.Proofs.YtfjcibkgbalkaaaDoor.HelpInt.iv l37_37) := (by rw [← hl37_37]; first | done | simp [Go.Proofs.YtfjcibkgbalkaaaDoor.HelpInt.iv, List.map_set]); rw [← hwl37_37, ← e_]; exact Sl37_37.out.1)
          have Gl37_37 : Hid (Z8.grownBy wl37_37 (Value.slice (some ⟨wt_1.heap.size, 0, none⟩) 10 10).ownBlock) := Lib.hid (by rw [← hwl37_37]; exact Sl37_37.out.2)
          have HBwl37_37 := Lib.hid (HBZ8.out.grown Gl37_37.out HBZ8.out.size (fun q hq => (Olatest_7l0.out.lt q hq).1))
          have hhl37_37 := Lib.hid hl37_37
          clear hl37_37 Sl37_37
          have kt_0_0__224 := cell_other kt_0_0__210 Gl37_37.out Dlatest_7l0_t_0.out
          have kt_0_1__225 := cell_other kt_0_1__211 Gl37_37.out Dlatest_7l0_t_0.out
          have kt_0_2__226 := cell_other kt_0_2__212 Gl37_37.out Dlatest_7l0_t_0.out
          have kt_0_3__227 := cell_other kt_0_3__213 Gl37_37.out Dlatest_7l0_t_0.out
          have kt_0_4__228 := cell_other kt_0_4__214 Gl37_37.out Dlatest_7l0_t_0.out
          have kt_0_5__229 := cell_other kt_0_5__215 Gl37_37.out Dlatest_7l0_t_0.out
          have kt_0_6__230 := cell_other kt_0_6__216 Gl37_37.out Dlatest_7l0_t_0.out
          have kt_0_7__231 := cell_other kt_0_7__217 Gl37_37.out Dlatest_7l0_t_0.out
          have kt_0_8__232 := cell_other kt_0_8__218 Gl37_37.out Dlatest_7l0_t_0.out
          have kt_0_9__233 := cell_other kt_0_9__219 Gl37_37.out Dlatest_7l0_t_0.out
          have ct_16_0__234 := cell_other ct_16_0__220 Gl37_37.out (apart_old Olatest_7l0.out ltt_16)
          have ct_16_1__235 := cell_other ct_16_1__221 Gl37_37.out (apart_old Olatest_7l0.out ltt_16)
          have ct_16_2__236 := cell_other ct_16_2__222 Gl37_37.out (apart_old Olatest_7l0.out ltt_16)
          have ct_16_3__237 := cell_other ct_16_3__223 Gl37_37.out (apart_old Olatest_7l0.out ltt_16)
          have kx_18_0__238 := cell_other kx_18_0 Gl37_37.out (Apart.symm Dx_18_latest_7l0.out)
          have kx_18_1__239 := cell_other kx_18_1 Gl37_37.out (Apart.symm Dx_18_latest_7l0.out)
          have kx_18_2__240 := cell_other kx_18_2 Gl37_37.out (Apart.symm Dx_18_latest_7l0.out)
          have kx_18_3__241 := cell_other kx_18_3 Gl37_37.out (Apart.symm Dx_18_latest_7l0.out)
          replace Ot_0 := Lib.hid (own_other Ot_0.out Gl37_37.out Dlatest_7l0_t_0.out)
          clear Olatest_7l0 Gl37_37
          replace H := let_hid H
          obtain ⟨t_39, ht_39, H⟩ := H
          replace H := app_hid H
          go_wp2_with fail
          clear z0l37_37 kt_0_0__210 kt_0_1__211 kt_0_2__212 kt_0_3__213 kt_0_4__214 kt_0_5__215 kt_0_6__216 kt_0_7__217 kt_0_8__218 kt_0_9__219 ct_16_0__220 ct_16_1__221 ct_16_2__222 ct_16_3__223 kx_18_0 kx_18_1 kx_18_2 kx_18_3 ct_24_0 ct_31_0
          go_roundg m0
          case measure => omega
          case rel => exact ⟨_, _, rfl, H, HBwl37_37, kt_0_0__224, kt_0_1__225, kt_0_2__226, kt_0_3__227, kt_0_4__228, kt_0_5__229, kt_0_6__230, kt_0_7__231, kt_0_8__232, kt_0_9__233, Ot_0, Pl37_37, Lib.hid (nl37_37.out), Lib.hid Dlatest_7l0_t_0.out⟩
end Go.Proofs.YtfjcibkgbalkaaaDoor.GiLatestMinutes

