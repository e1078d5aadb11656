/- Texts on which the proofs of several laws stand, one behind the other (18 of 18). No condition of their own. -/
import Derived.Test.YtgbcdmlcmnaimaaChecked
import Derived.Test.YtgbcdmlcmnaimaaX10P1
import Derived.Test.YtgbcdmlcmnaimaaX10P16
import Derived.Test.YtgbcdmlcmnaimaaX10P8
import Derived.Test.YtgbcdmlcmnaimaaX10P12
import Derived.Test.YtgbcdmlcmnaimaaX10P11
import Derived.Test.YtgbcdmlcmnaimaaX10P17
import Derived.Test.YtgbcdmlcmnaimaaX10P10
import Derived.Test.YtgbcdmlcmnaimaaX10P13
import Derived.WalkKit
import Derived.Laws.StructEq
import Derived.ChangeKeysEq
import Derived.WalkSpells
import Derived.WalkLawsBesides
import Derived.BigQuiet
import Derived.OwnWalk
import Derived.Deep.LoopGhost
import Derived.Deep.QuietTactic
import Derived.IntWalk
import Derived.Lib.QuietBelow
import Derived.Deep.DeepCutAuto
set_option linter.unusedVariables false
set_option linter.unusedSimpArgs false
namespace Go.Proofs.Ytgbcdmlcmnaimaa.GlFnCoverLists
open Go.RowKit
open Go.Proofs.Ytgbcdmlcmnaimaa.Rowed Go.Proofs.Ytgbcdmlcmnaimaa.Turn Go.Proofs.Ytgbcdmlcmnaimaa.Aid Go.Proofs.Ytgbcdmlcmnaimaa.GoP Go.Proofs.Ytgbcdmlcmnaimaa.GoM

def j5  (s : Unit) : Option (Bool) :=
 some true

def q6 (nx1 : (Unit) → Option (Bool)) (s : Bool) : Option (Bool) :=
 letK s fun t_189q6 =>
 iteK t_189q6
 (some false)
 (appK nx1 ())

def l1 (fuel : Nat) (t_109a : (List PMail.Mail)) (t_109b : (List PCover.Cover)) (t_109c : Int) (t_120a : (List Int)) (k1 : Nat) (s : Unit) (nx1 bk1 : Unit → Option (Bool)) : Option (Bool) :=
 
 Option.bind (idx t_109b (k1 : Int)) fun (yt_154 : PCover.Cover) =>
 unCover yt_154 fun (t_154_id : Int) (t_154_day : Int) (t_154_zone : Int) (t_154_grams : Int) (t_154_paid : Int) (t_154_from_ : Int) (t_154_to_ : Int) (t_154_leave : Int) (t_154_arrive : Int) =>
 bind2 (GiRouteOn.P fuel t_109a (PCover.Cover.mk t_154_id t_154_day t_154_zone t_154_grams t_154_paid t_154_from_ t_154_to_ t_154_leave t_154_arrive)) fun (t_156a : (List Int)) (t_156b : Bool) =>
 joinK (fun (t_171 : Bool) =>
 joinK (fun (t_181 : Bool) =>
 joinK (fun (t_194 : Bool) =>
 q6 nx1 (t_194)) fun jt_194 => iteK t_181 (appK jt_194 true) (letK (!t_156b) fun (t_184 : Bool) =>
 joinK (fun (t_193 : Bool) =>
 appK jt_194 t_193) fun jt_193 => iteK t_184 (Option.bind (idx t_109b (k1 : Int)) fun (yt_189 : PCover.Cover) =>
 unCover yt_189 fun (t_189_id : Int) (t_189_day : Int) (t_189_zone : Int) (t_189_grams : Int) (t_189_paid : Int) (t_189_from_ : Int) (t_189_to_ : Int) (t_189_leave : Int) (t_189_arrive : Int) =>
 Option.bind (GlVHas.P t_120a t_189_id) fun (t_192 : Bool) =>
 appK jt_193 t_192) (appK jt_193 false))) fun jt_181 => iteK t_171 (Option.bind (idx t_109b (k1 : Int)) fun (yt_176 : PCover.Cover) =>
 unCover yt_176 fun (t_176_id : Int) (t_176_day : Int) (t_176_zone : Int) (t_176_grams : Int) (t_176_paid : Int) (t_176_from_ : Int) (t_176_to_ : Int) (t_176_leave : Int) (t_176_arrive : Int) =>
 Option.bind (GlVHas.P t_120a t_176_id) fun (t_179 : Bool) =>
 letK (!t_179) fun (t_180 : Bool) =>
 appK jt_181 t_180) (appK jt_181 false)) fun jt_171 => iteK t_156b (Option.bind (idx t_109b (k1 : Int)) fun (yt_166 : PCover.Cover) =>
 unCover yt_166 fun (t_166_id : Int) (t_166_day : Int) (t_166_zone : Int) (t_166_grams : Int) (t_166_paid : Int) (t_166_from_ : Int) (t_166_to_ : Int) (t_166_leave : Int) (t_166_arrive : Int) =>
 letK (t_166_to_ == t_109c) fun (t_170 : Bool) =>
 appK jt_171 t_170) (appK jt_171 false)

def e1 (code : (List Int)) (fuel : Nat) (tapes : List Int → GoC.Tape) (t_2 : Bool) (t_5a : (List PRate.Rate)) (t_5b : (List PMail.Mail)) (t_5c : (List PCover.Cover)) (t_16a : (List Int)) (t_16b : Bool) (t_25a : (List Int)) (t_25b : Bool) (t_63q0 : Bool) (t_51b : Bool) (t_51a_x0 : Int) (t_51a_x1 : Int) (t_51a_x2 : Int) (t_51a_x3 : Int) (t_51a_x4 : Int) (t_51a_x5 : Int) (vcounts_55 : (List Int)) (t_61b : Bool) (t_61a_x0 : Int) (t_61a_x1 : Int) (t_61a_x2 : Int) (t_61a_x3 : Int) (t_61a_x4 : Int) (t_61a_x5 : Int) (t_90q1 : Bool) (t_109a : (List PMail.Mail)) (t_109b : (List PCover.Cover)) (t_109c : Int) (t_120a : (List Int)) (t_120b : Bool) (t_129a : (List Int)) (t_129b : Bool) (t_140q4 : Bool) (s : Unit) : Option (Bool) :=
 
 j5  ()

def q4 (code : (List Int)) (fuel : Nat) (tapes : List Int → GoC.Tape) (t_2 : Bool) (t_5a : (List PRate.Rate)) (t_5b : (List PMail.Mail)) (t_5c : (List PCover.Cover)) (t_16a : (List Int)) (t_16b : Bool) (t_25a : (List Int)) (t_25b : Bool) (t_63q0 : Bool) (t_51b : Bool) (t_51a_x0 : Int) (t_51a_x1 : Int) (t_51a_x2 : Int) (t_51a_x3 : Int) (t_51a_x4 : Int) (t_51a_x5 : Int) (vcounts_55 : (List Int)) (t_61b : Bool) (t_61a_x0 : Int) (t_61a_x1 : Int) (t_61a_x2 : Int) (t_61a_x3 : Int) (t_61a_x4 : Int) (t_61a_x5 : Int) (t_90q1 : Bool) (t_109a : (List PMail.Mail)) (t_109b : (List PCover.Cover)) (t_109c : Int) (t_120a : (List Int)) (t_120b : Bool) (t_129a : (List Int)) (t_129b : Bool) (s : Bool) : Option (Bool) :=
 letK s fun t_140q4 =>
 iteK t_140q4
 (some false)
 (iteK t_120b
 (cntK (l1 fuel t_109a t_109b t_109c t_120a) (t_109b.length) 0 () (e1 code fuel tapes t_2 t_5a t_5b t_5c t_16a t_16b t_25a t_25b t_63q0 t_51b t_51a_x0 t_51a_x1 t_51a_x2 t_51a_x3 t_51a_x4 t_51a_x5 vcounts_55 t_61b t_61a_x0 t_61a_x1 t_61a_x2 t_61a_x3 t_61a_x4 t_61a_x5 t_90q1 t_109a t_109b t_109c t_120a t_120b t_129a t_129b t_140q4))
 (j5  ()))

def q2 (code : (List Int)) (fuel : Nat) (tapes : List Int → GoC.Tape) (t_2 : Bool) (t_5a : (List PRate.Rate)) (t_5b : (List PMail.Mail)) (t_5c : (List PCover.Cover)) (t_16a : (List Int)) (t_16b : Bool) (t_25a : (List Int)) (t_25b : Bool) (t_63q0 : Bool) (t_51b : Bool) (t_51a_x0 : Int) (t_51a_x1 : Int) (t_51a_x2 : Int) (t_51a_x3 : Int) (t_51a_x4 : Int) (t_51a_x5 : Int) (vcounts_55 : (List Int)) (t_61b : Bool) (t_61a_x0 : Int) (t_61a_x1 : Int) (t_61a_x2 : Int) (t_61a_x3 : Int) (t_61a_x4 : Int) (t_61a_x5 : Int) (t_90q1 : Bool) (s : Unit) : Option (Bool) :=
 bind3 (GsDrawCoversVia.P fuel tapes code) fun (t_109a : (List PMail.Mail)) (t_109b : (List PCover.Cover)) (t_109c : Int) =>
 bind2 (GiCoversVia.P fuel t_109a t_109b t_109c) fun (t_120a : (List Int)) (t_120b : Bool) =>
 bind2 (GsCoversVia.P fuel t_109a t_109b t_109c) fun (t_129a : (List Int)) (t_129b : Bool) =>
 letK (!(t_120b == t_129b)) fun (t_137 : Bool) =>
 joinK (fun (t_143 : Bool) =>
 q4 code fuel tapes t_2 t_5a t_5b t_5c t_16a t_16b t_25a t_25b t_63q0 t_51b t_51a_x0 t_51a_x1 t_51a_x2 t_51a_x3 t_51a_x4 t_51a_x5 vcounts_55 t_61b t_61a_x0 t_61a_x1 t_61a_x2 t_61a_x3 t_61a_x4 t_61a_x5 t_90q1 t_109a t_109b t_109c t_120a t_120b t_129a t_129b (t_143)) fun jt_143 => iteK t_137 (appK jt_143 true) (Option.bind (GlVInts.P t_120a t_129a) fun (t_141 : Bool) =>
 letK (!t_141) fun (t_142 : Bool) =>
 appK jt_143 t_142)

def l0 (vcounts_55 : (List Int)) (k0 : Nat) (s : Int) (nx0 bk0 : Int → Option (Bool)) : Option (Bool) :=
 letK s fun sum_14l0 =>
 Option.bind (idx vcounts_55 (k0 : Int)) fun (yt_89 : Int) =>
 letK (IntKind.i64.wrap (sum_14l0 + yt_89)) fun (t_91 : Int) =>
 appK nx0 (t_91)

def q3 (code : (List Int)) (fuel : Nat) (tapes : List Int → GoC.Tape) (t_2 : Bool) (t_5a : (List PRate.Rate)) (t_5b : (List PMail.Mail)) (t_5c : (List PCover.Cover)) (t_16a : (List Int)) (t_16b : Bool) (t_25a : (List Int)) (t_25b : Bool) (t_63q0 : Bool) (t_51b : Bool) (t_51a_x0 : Int) (t_51a_x1 : Int) (t_51a_x2 : Int) (t_51a_x3 : Int) (t_51a_x4 : Int) (t_51a_x5 : Int) (vcounts_55 : (List Int)) (t_61b : Bool) (t_61a_x0 : Int) (t_61a_x1 : Int) (t_61a_x2 : Int) (t_61a_x3 : Int) (t_61a_x4 : Int) (t_61a_x5 : Int) (t_90q1 : Bool) (sum_14l0 : Int) (s : Bool) : Option (Bool) :=
 letK s fun t_111q3 =>
 iteK t_111q3
 (some false)
 (q2 code fuel tapes t_2 t_5a t_5b t_5c t_16a t_16b t_25a t_25b t_63q0 t_51b t_51a_x0 t_51a_x1 t_51a_x2 t_51a_x3 t_51a_x4 t_51a_x5 vcounts_55 t_61b t_61a_x0 t_61a_x1 t_61a_x2 t_61a_x3 t_61a_x4 t_61a_x5 t_90q1 ())

def e0 (code : (List Int)) (fuel : Nat) (tapes : List Int → GoC.Tape) (t_2 : Bool) (t_5a : (List PRate.Rate)) (t_5b : (List PMail.Mail)) (t_5c : (List PCover.Cover)) (t_16a : (List Int)) (t_16b : Bool) (t_25a : (List Int)) (t_25b : Bool) (t_63q0 : Bool) (t_51b : Bool) (t_51a_x0 : Int) (t_51a_x1 : Int) (t_51a_x2 : Int) (t_51a_x3 : Int) (t_51a_x4 : Int) (t_51a_x5 : Int) (vcounts_55 : (List Int)) (t_61b : Bool) (t_61a_x0 : Int) (t_61a_x1 : Int) (t_61a_x2 : Int) (t_61a_x3 : Int) (t_61a_x4 : Int) (t_61a_x5 : Int) (t_90q1 : Bool) (s : Int) : Option (Bool) :=
 letK s fun sum_14l0 =>
 Option.bind (idx vcounts_55 0) fun (yt_96 : Int) =>
 letK (yt_96 != (t_16a.length : Int)) fun (t_100 : Bool) =>
 joinK (fun (t_106 : Bool) =>
 q3 code fuel tapes t_2 t_5a t_5b t_5c t_16a t_16b t_25a t_25b t_63q0 t_51b t_51a_x0 t_51a_x1 t_51a_x2 t_51a_x3 t_51a_x4 t_51a_x5 vcounts_55 t_61b t_61a_x0 t_61a_x1 t_61a_x2 t_61a_x3 t_61a_x4 t_61a_x5 t_90q1 sum_14l0 (t_106)) fun jt_106 => iteK t_100 (appK jt_106 true) (letK (sum_14l0 != (t_5c.length : Int)) fun (t_105 : Bool) =>
 appK jt_106 t_105)

def q1 (code : (List Int)) (fuel : Nat) (tapes : List Int → GoC.Tape) (t_2 : Bool) (t_5a : (List PRate.Rate)) (t_5b : (List PMail.Mail)) (t_5c : (List PCover.Cover)) (t_16a : (List Int)) (t_16b : Bool) (t_25a : (List Int)) (t_25b : Bool) (t_63q0 : Bool) (t_51b : Bool) (t_51a_x0 : Int) (t_51a_x1 : Int) (t_51a_x2 : Int) (t_51a_x3 : Int) (t_51a_x4 : Int) (t_51a_x5 : Int) (vcounts_55 : (List Int)) (t_61b : Bool) (t_61a_x0 : Int) (t_61a_x1 : Int) (t_61a_x2 : Int) (t_61a_x3 : Int) (t_61a_x4 : Int) (t_61a_x5 : Int) (s : Bool) : Option (Bool) :=
 letK s fun t_90q1 =>
 iteK t_90q1
 (some false)
 (iteK t_16b
 (cntK (l0 vcounts_55) (6) 0 (0) (e0 code fuel tapes t_2 t_5a t_5b t_5c t_16a t_16b t_25a t_25b t_63q0 t_51b t_51a_x0 t_51a_x1 t_51a_x2 t_51a_x3 t_51a_x4 t_51a_x5 vcounts_55 t_61b t_61a_x0 t_61a_x1 t_61a_x2 t_61a_x3 t_61a_x4 t_61a_x5 t_90q1))
 (q2 code fuel tapes t_2 t_5a t_5b t_5c t_16a t_16b t_25a t_25b t_63q0 t_51b t_51a_x0 t_51a_x1 t_51a_x2 t_51a_x3 t_51a_x4 t_51a_x5 vcounts_55 t_61b t_61a_x0 t_61a_x1 t_61a_x2 t_61a_x3 t_61a_x4 t_61a_x5 t_90q1 ()))

def q0 (code : (List Int)) (fuel : Nat) (tapes : List Int → GoC.Tape) (t_2 : Bool) (t_5a : (List PRate.Rate)) (t_5b : (List PMail.Mail)) (t_5c : (List PCover.Cover)) (t_16a : (List Int)) (t_16b : Bool) (t_25a : (List Int)) (t_25b : Bool) (s : Bool) : Option (Bool) :=
 letK s fun t_63q0 =>
 iteK t_63q0
 (some false)
 (bind2 (GiFaultCounts.P t_5a t_5b t_5c) fun (t_51a : PIntA6.IntA6) (t_51b : Bool) =>
 unIntA6 t_51a fun (t_51a_x0 : Int) (t_51a_x1 : Int) (t_51a_x2 : Int) (t_51a_x3 : Int) (t_51a_x4 : Int) (t_51a_x5 : Int) =>
 letK ([t_51a_x0, t_51a_x1, t_51a_x2, t_51a_x3, t_51a_x4, t_51a_x5]) fun (vcounts_55 : (List Int)) =>
 bind2 (GsFaultCounts.P fuel t_5a t_5b t_5c) fun (t_61a : PIntA6.IntA6) (t_61b : Bool) =>
 unIntA6 t_61a fun (t_61a_x0 : Int) (t_61a_x1 : Int) (t_61a_x2 : Int) (t_61a_x3 : Int) (t_61a_x4 : Int) (t_61a_x5 : Int) =>
 letK (!(t_51b == t_61b)) fun (t_70 : Bool) =>
 joinK (fun (t_75 : Bool) =>
 joinK (fun (t_80 : Bool) =>
 q1 code fuel tapes t_2 t_5a t_5b t_5c t_16a t_16b t_25a t_25b t_63q0 t_51b t_51a_x0 t_51a_x1 t_51a_x2 t_51a_x3 t_51a_x4 t_51a_x5 vcounts_55 t_61b t_61a_x0 t_61a_x1 t_61a_x2 t_61a_x3 t_61a_x4 t_61a_x5 (t_80)) fun jt_80 => iteK t_75 (appK jt_80 true) (letK (!((GoA.nth vcounts_55 0) == t_61a_x0 && (GoA.nth vcounts_55 1) == t_61a_x1 && (GoA.nth vcounts_55 2) == t_61a_x2 && (GoA.nth vcounts_55 3) == t_61a_x3 && (GoA.nth vcounts_55 4) == t_61a_x4 && (GoA.nth vcounts_55 5) == t_61a_x5)) fun (t_79 : Bool) =>
 appK jt_80 t_79)) fun jt_75 => iteK t_70 (appK jt_75 true) (letK (!(t_51b == t_16b)) fun (t_74 : Bool) =>
 appK jt_75 t_74))

def P (fuel : Nat) (tapes : List Int → GoC.Tape) (code : (List Int)) : Option (Bool) :=
 Option.bind (GlVBig.P code) fun (t_2 : Bool) =>
 iteK t_2
 (some true)
 (bind3 (GsDrawTrueCovers.P fuel tapes code) fun (t_5a : (List PRate.Rate)) (t_5b : (List PMail.Mail)) (t_5c : (List PCover.Cover)) =>
 bind2 (GiTrueCovers.P t_5a t_5b t_5c) fun (t_16a : (List Int)) (t_16b : Bool) =>
 bind2 (GsTrueCovers.P fuel t_5a t_5b t_5c) fun (t_25a : (List Int)) (t_25b : Bool) =>
 letK (!(t_16b == t_25b)) fun (t_33 : Bool) =>
 joinK (fun (t_39 : Bool) =>
 joinK (fun (t_46 : Bool) =>
 q0 code fuel tapes t_2 t_5a t_5b t_5c t_16a t_16b t_25a t_25b (t_46)) fun jt_46 => iteK t_39 (appK jt_46 true) (Option.bind (GiAreCovers.P t_5c) fun (t_42 : Bool) =>
 Option.bind (GsAreCovers.P t_5c) fun (t_44 : Bool) =>
 letK (!(t_42 == t_44)) fun (t_45 : Bool) =>
 appK jt_46 t_45)) fun jt_39 => iteK t_33 (appK jt_39 true) (Option.bind (GlVInts.P t_16a t_25a) fun (t_37 : Bool) =>
 letK (!t_37) fun (t_38 : Bool) =>
 appK jt_39 t_38))

set_option maxRecDepth 100000
theorem eqr_50 (x0 x1 x2 x3 x4 x5 y0 y1 y2 y3 y4 y5 : Int) : ∀ W, (Op.equalIn 10000 50 (.agg #[Value.int IntKind.i64 x0, Value.int IntKind.i64 x1, Value.int IntKind.i64 x2, Value.int IntKind.i64 x3, Value.int IntKind.i64 x4, Value.int IntKind.i64 x5]) (.agg #[Value.int IntKind.i64 y0, Value.int IntKind.i64 y1, Value.int IntKind.i64 y2, Value.int IntKind.i64 y3, Value.int IntKind.i64 y4, Value.int IntKind.i64 y5])).run Try.prog W = .ok (x0 == y0 && x1 == y1 && x2 == y2 && x3 == y3 && x4 == y4 && x5 == y5) W := by
 intro W
 obtain ⟨i0, hi, hz0, hz1, hz2⟩ := Aid.info_parts (P := Try.prog) (T := 3) (z := .int .i64 0) (s := 1) (b := 8) (by kernel_rfl)
 rw [run_equalIn_array W 9999 (n := 6) #[Value.int IntKind.i64 x0, Value.int IntKind.i64 x1, Value.int IntKind.i64 x2, Value.int IntKind.i64 x3, Value.int IntKind.i64 x4, Value.int IntKind.i64 x5] #[Value.int IntKind.i64 y0, Value.int IntKind.i64 y1, Value.int IntKind.i64 y2, Value.int IntKind.i64 y3, Value.int IntKind.i64 y4, Value.int IntKind.i64 y5] (by kernel_rfl) hi, show Try.prog.cellsOf 3 = 1 by kernel_rfl, show List.range 6 = [0, 1, 2, 3, 4, 5] from rfl]
 simp only [Op.eqItems, show 0 * 1 = 0 from rfl, show 1 * 1 = 1 from rfl, show 2 * 1 = 2 from rfl, show 3 * 1 = 3 from rfl, show 4 * 1 = 4 from rfl, show 5 * 1 = 5 from rfl]
 have p0 : ∀ (w : World) (x0 x1 x2 x3 x4 x5 : Int), (part 3 #[Value.int IntKind.i64 x0, Value.int IntKind.i64 x1, Value.int IntKind.i64 x2, Value.int IntKind.i64 x3, Value.int IntKind.i64 x4, Value.int IntKind.i64 x5] 0).run Try.prog w = .ok (.int .i64 x0) w := fun w x0 x1 x2 x3 x4 x5 => run_part_plain w (by kernel_rfl) rfl
 have p1 : ∀ (w : World) (x0 x1 x2 x3 x4 x5 : Int), (part 3 #[Value.int IntKind.i64 x0, Value.int IntKind.i64 x1, Value.int IntKind.i64 x2, Value.int IntKind.i64 x3, Value.int IntKind.i64 x4, Value.int IntKind.i64 x5] 1).run Try.prog w = .ok (.int .i64 x1) w := fun w x0 x1 x2 x3 x4 x5 => run_part_plain w (by kernel_rfl) rfl
 have p2 : ∀ (w : World) (x0 x1 x2 x3 x4 x5 : Int), (part 3 #[Value.int IntKind.i64 x0, Value.int IntKind.i64 x1, Value.int IntKind.i64 x2, Value.int IntKind.i64 x3, Value.int IntKind.i64 x4, Value.int IntKind.i64 x5] 2).run Try.prog w = .ok (.int .i64 x2) w := fun w x0 x1 x2 x3 x4 x5 => run_part_plain w (by kernel_rfl) rfl
 have p3 : ∀ (w : World) (x0 x1 x2 x3 x4 x5 : Int), (part 3 #[Value.int IntKind.i64 x0, Value.int IntKind.i64 x1, Value.int IntKind.i64 x2, Value.int IntKind.i64 x3, Value.int IntKind.i64 x4, Value.int IntKind.i64 x5] 3).run Try.prog w = .ok (.int .i64 x3) w := fun w x0 x1 x2 x3 x4 x5 => run_part_plain w (by kernel_rfl) rfl
 have p4 : ∀ (w : World) (x0 x1 x2 x3 x4 x5 : Int), (part 3 #[Value.int IntKind.i64 x0, Value.int IntKind.i64 x1, Value.int IntKind.i64 x2, Value.int IntKind.i64 x3, Value.int IntKind.i64 x4, Value.int IntKind.i64 x5] 4).run Try.prog w = .ok (.int .i64 x4) w := fun w x0 x1 x2 x3 x4 x5 => run_part_plain w (by kernel_rfl) rfl
 have p5 : ∀ (w : World) (x0 x1 x2 x3 x4 x5 : Int), (part 3 #[Value.int IntKind.i64 x0, Value.int IntKind.i64 x1, Value.int IntKind.i64 x2, Value.int IntKind.i64 x3, Value.int IntKind.i64 x4, Value.int IntKind.i64 x5] 5).run Try.prog w = .ok (.int .i64 x5) w := fun w x0 x1 x2 x3 x4 x5 => run_part_plain w (by kernel_rfl) rfl
 have e0 : ∀ (w : World) (d : Nat) (x y : Int), (Op.equalIn (d + 1) 3 (.int .i64 x) (.int .i64 y)).run Try.prog w = .ok (x == y) w := fun w d x y => run_equalIn_int w d 3 .i64 .i64 x y Try.underlying3
 have e1 : ∀ (w : World) (x y : Int), (Op.equalIn 9999 3 (.int .i64 x) (.int .i64 y)).run Try.prog w = .ok (x == y) w := fun w x y => e0 w 9998 x y
 simp only [Sem.run_bind, p0, p1, p2, p3, p4, p5, e1, Result.andThen_ok, Sem.run_ite, Sem.run_pure]
 cases x0 == y0 <;> cases x1 == y1 <;> cases x2 == y2 <;> cases x3 == y3 <;> cases x4 == y4 <;> cases x5 == y5 <;> rfl
theorem eqla_50 (x0 x1 x2 x3 x4 x5 y0 y1 y2 y3 y4 y5 : Int) : ∀ W, (binOp .eql 50 (.agg #[Value.int IntKind.i64 x0, Value.int IntKind.i64 x1, Value.int IntKind.i64 x2, Value.int IntKind.i64 x3, Value.int IntKind.i64 x4, Value.int IntKind.i64 x5]) (.agg #[Value.int IntKind.i64 y0, Value.int IntKind.i64 y1, Value.int IntKind.i64 y2, Value.int IntKind.i64 y3, Value.int IntKind.i64 y4, Value.int IntKind.i64 y5])).run Try.prog W = .ok (.bool (x0 == y0 && x1 == y1 && x2 == y2 && x3 == y3 && x4 == y4 && x5 == y5)) W := by
 intro W
 rw [run_eql_struct, eqr_50]; rfl
theorem neqa_50 (x0 x1 x2 x3 x4 x5 y0 y1 y2 y3 y4 y5 : Int) : ∀ W, (binOp .neq 50 (.agg #[Value.int IntKind.i64 x0, Value.int IntKind.i64 x1, Value.int IntKind.i64 x2, Value.int IntKind.i64 x3, Value.int IntKind.i64 x4, Value.int IntKind.i64 x5]) (.agg #[Value.int IntKind.i64 y0, Value.int IntKind.i64 y1, Value.int IntKind.i64 y2, Value.int IntKind.i64 y3, Value.int IntKind.i64 y4, Value.int IntKind.i64 y5])).run Try.prog W = .ok (.bool (!(x0 == y0 && x1 == y1 && x2 == y2 && x3 == y3 && x4 == y4 && x5 == y5))) W := by
 intro W
 rw [run_neq_struct, eqr_50]; rfl

set_option maxRecDepth 100000 in
set_option maxHeartbeats 20000000 in
theorem C (fuel : Nat) (tapes : List Int → GoC.Tape) (code : (List Int)) (A0 : Option Addr) (c0 : Nat)  (w : World) (HE : Hid (GoC.Tells tapes)) (M0 : Hid (Cells w 1 A0 code.length (GoC.u8s code))) (N0 : Hid (code.length ≤ 9223372036854775807)) (V0 : Hid (∀ z ∈ code, 0 ≤ z ∧ z ≤ 255))  {r : Bool} (H : Hid (P fuel tapes code = some r)) :
  Calls Try.prog 4 #[.slice A0 code.length c0] w (Gives (.bool r) w) := by
 have HB := Lib.hid (Below.refl w.heap.size w); unfold P at H; have N0o := N0.out
 go_enter Try.func4, Try.ntmps4
 replace H := bind_hid H; obtain ⟨t_2, qt_2, H⟩ := H; go_wp2_with fail; go_at_call 5; refine (GlVBig.C (code) A0 c0 _   (Lib.hid (Cells.below M0.out HB.out)) N0 V0 qt_2).mono ?_; rintro a22 wt_2 ⟨rfl, bt_2⟩; have j13 := Lib.hid (Below.step HB.out bt_2); clear bt_2
 cases t_2 with
 | false =>
  replace H := ite_f H; replace H := bind3_hid H; obtain ⟨t_5a, t_5b, t_5c, qt_5, H⟩ := H; go_wp2_with fail; go_at_call 23; refine (GsDrawTrueCovers.C fuel tapes (code) A0 c0 _  HE (Lib.hid (Cells.below M0.out j13.out)) N0 V0 qt_5).mono ?_; rintro l20 wt_5 ⟨t11, r11, s11, x11, m11, n11, rfl, q15, a16, w15, d0_1, d0_2, d1_2, bt_5⟩; have p20 := Lib.hid d0_1; have c22 := Lib.hid d0_2; have q20 := Lib.hid d1_2; have c10 := Lib.hid (own_lower q15 j13.out.size); clear q15; have b10 := Lib.hid (own_lower a16 j13.out.size); clear a16; have a10 := Lib.hid (own_lower w15 j13.out.size); clear w15; have y15 := Lib.hid (Below.step j13.out bt_5); clear bt_5; replace H := bind2_hid H; obtain ⟨q10, c13, l18, H⟩ := H; go_wp2_with fail; go_at_call 24; refine (GiTrueCovers.C (t_5a) (t_5b) (t_5c) t11 r11 s11 x11 m11 n11 _   (Lib.hid (own_cells c10.out)) (Lib.hid (own_max c10.out)) (Lib.hid (own_cells b10.out)) (Lib.hid (own_max b10.out)) (Lib.hid (own_cells a10.out)) (Lib.hid (own_max a10.out)) l18).mono ?_; rintro g20 j23 ⟨f12, h12, rfl, q13, t13⟩; have o23 := Lib.hid (apart_call q13 c10.out); have x19 := Lib.hid (apart_call q13 b10.out); have x21 := Lib.hid (apart_call q13 a10.out); have d10 := Lib.hid (own_lower q13 y15.out.size); clear q13; have l15 := Lib.hid (Below.step y15.out t13); replace c10 := Lib.hid (own_below c10.out t13); replace b10 := Lib.hid (own_below b10.out t13); replace a10 := Lib.hid (own_below a10.out t13); clear t13; replace H := bind2_hid H; obtain ⟨o10, m12, h17, H⟩ := H; go_wp2_with fail; go_at_call 25; refine (GsTrueCovers.C fuel (t_5a) (t_5b) (t_5c) t11 r11 s11 x11 m11 n11 _   (Lib.hid (own_cells c10.out)) (Lib.hid (own_max c10.out)) (Lib.hid (own_cells b10.out)) (Lib.hid (own_max b10.out)) (Lib.hid (own_cells a10.out)) (Lib.hid (own_max a10.out)) h17).mono ?_; rintro s19 z20 ⟨l12, k12, rfl, m13, k13⟩; have t21 := Lib.hid (apart_call m13 c10.out); have z19 := Lib.hid (apart_call m13 b10.out); have n19 := Lib.hid (apart_call m13 a10.out); have y18 := Lib.hid (apart_call m13 d10.out); have e10 := Lib.hid (own_lower m13 l15.out.size); clear m13; have p15 := Lib.hid (Below.step l15.out k13); replace c10 := Lib.hid (own_below c10.out k13); replace b10 := Lib.hid (own_below b10.out k13); replace a10 := Lib.hid (own_below a10.out k13); replace d10 := Lib.hid (own_below d10.out k13); clear k13; go_upto_region 6 with fail
  go_cut [63] (fun v63_ wr => ∃ (z13 : Bool), v63_ = .bool z13 ∧ Hid (q0 code fuel tapes false t_5a t_5b t_5c q10 c13 o10 m12 (z13) = some r) ∧ Hid (Below w.heap.size w wr) ∧ Hid (wr.ownsRow w.heap.size 92 5 (.slice t11 t_5a.length r11) t_5a.length (PRate.flat t_5a)) ∧ Hid (wr.ownsRow w.heap.size 77 4 (.slice s11 t_5b.length x11) t_5b.length (PMail.flat t_5b)) ∧ Hid (wr.ownsRow w.heap.size 27 9 (.slice m11 t_5c.length n11) t_5c.length (PCover.flat t_5c)) ∧ Hid (wr.ownsRow w.heap.size 3 1 (.slice f12 q10.length h12) q10.length (HelpInt.iv q10)) ∧ Hid (wr.ownsRow w.heap.size 3 1 (.slice l12 o10.length k12) o10.length (HelpInt.iv o10)))
  case first =>
   as_aux_lemma =>
    replace H := let_hid H; obtain ⟨t_33, c23, H⟩ := H; replace H := join_hid H
    cases t_33 with
    | false =>
     replace H := ite_f H; replace H := bind_hid H; obtain ⟨t_37, t18, H⟩ := H; go_wp2_with fail; go_at_call 13; refine (GlVInts.C (q10) (o10) f12 h12 l12 k12 _   (Lib.hid (own_cells d10.out)) (Lib.hid (own_max d10.out)) (Lib.hid (own_cells e10.out)) (Lib.hid (own_max e10.out)) t18).mono ?_; rintro h20 k21 ⟨rfl, f13⟩; have n15 := Lib.hid (Below.step p15.out f13); replace c10 := Lib.hid (own_below c10.out f13); replace b10 := Lib.hid (own_below b10.out f13); replace a10 := Lib.hid (own_below a10.out f13); replace d10 := Lib.hid (own_below d10.out f13); replace e10 := Lib.hid (own_below e10.out f13); clear f13
     cases t_37 with
     | false =>
      replace H := let_hid H; obtain ⟨t_38, l14, H⟩ := H; obtain rfl : t_38 = true := l14.symm; replace H := app_hid H; replace H := join_hid H; replace H := ite_t H; replace H := app_hid H; go_wp2_with fail
      go_meet
      case rel => exact ⟨_, rfl, H, n15, c10, b10, a10, d10, e10⟩
     | true =>
      replace H := let_hid H; obtain ⟨t_38, l14, H⟩ := H; obtain rfl : t_38 = false := l14.symm; replace H := app_hid H; replace H := join_hid H; replace H := ite_f H; replace H := bind_hid H; obtain ⟨t_42, q16, H⟩ := H; go_wp2_with fail; go_at_call 26; refine (GiAreCovers.C (t_5c) m11 n11 _   (Lib.hid (own_cells a10.out)) (Lib.hid (own_max a10.out)) q16).mono ?_; rintro s20 h22 ⟨rfl, y12⟩; have k16 := Lib.hid (Below.step n15.out y12); replace c10 := Lib.hid (own_below c10.out y12); replace b10 := Lib.hid (own_below b10.out y12); replace a10 := Lib.hid (own_below a10.out y12); replace d10 := Lib.hid (own_below d10.out y12); replace e10 := Lib.hid (own_below e10.out y12); clear y12; replace H := bind_hid H; obtain ⟨t_44, o17, H⟩ := H; go_wp2_with fail; go_at_call 27; refine (GsAreCovers.C (t_5c) m11 n11 _   (Lib.hid (own_cells a10.out)) (Lib.hid (own_max a10.out)) o17).mono ?_; rintro m20 s22 ⟨rfl, e13⟩; have c17 := Lib.hid (Below.step k16.out e13); replace c10 := Lib.hid (own_below c10.out e13); replace b10 := Lib.hid (own_below b10.out e13); replace a10 := Lib.hid (own_below a10.out e13); replace d10 := Lib.hid (own_below d10.out e13); replace e10 := Lib.hid (own_below e10.out e13); clear e13; replace H := let_hid H; obtain ⟨t_45, h19, H⟩ := H; replace H := app_hid H; go_wp2_with fail
      go_meet
      case rel => exact ⟨_, rfl, H, c17, c10, b10, a10, d10, e10⟩
    | true =>
     replace H := ite_t H; replace H := app_hid H; replace H := join_hid H; replace H := ite_t H; replace H := app_hid H; go_wp2_with fail
     go_meet
     case rel => exact ⟨_, rfl, H, p15, c10, b10, a10, d10, e10⟩
  case rest =>
   as_aux_lemma =>
    obtain ⟨z13, rfl, H, s15, c10, b10, a10, d10, e10⟩ := hcut; rename World => wq0; unfold q0 at H; replace H := let_hid H; obtain ⟨_, rfl, H⟩ := H
    cases z13 with
    | false =>
     replace H := ite_f H; replace H := bind2_hid H; obtain ⟨w17, p12, k17, H⟩ := H; obtain ⟨c12, e12, a12, d12, z11, b12⟩ := w17; replace H := unIntA6_hid H; go_wp2_with fail; go_at_call 28; refine (GiFaultCounts.C (t_5a) (t_5b) (t_5c) t11 r11 s11 x11 m11 n11 _   (Lib.hid (own_cells c10.out)) (Lib.hid (own_max c10.out)) (Lib.hid (own_cells b10.out)) (Lib.hid (own_max b10.out)) (Lib.hid (own_cells a10.out)) (Lib.hid (own_max a10.out)) k17).mono ?_; rintro o22 a11 ⟨rfl, r12⟩; unfold PIntA6.IntA6.val; have v15 := Lib.hid (Below.step s15.out r12); replace c10 := Lib.hid (own_below c10.out r12); replace b10 := Lib.hid (own_below b10.out r12); replace a10 := Lib.hid (own_below a10.out r12); replace d10 := Lib.hid (own_below d10.out r12); replace e10 := Lib.hid (own_below e10.out r12); clear r12; replace H := let_hid H; obtain ⟨s10, x13, H⟩ := H; obtain ⟨r15, g15⟩ : ∃ x, a11.alloc (.cells #[.int .i64 c12, .int .i64 e12, .int .i64 a12, .int .i64 d12, .int .i64 z11, .int .i64 b12] 50) = x := ⟨_, rfl⟩; have b13 : Below a11.heap.size a11 r15 := (by rw [← g15]; exact (Below.refl _ _).alloc (Nat.le_refl _) _); have b15 := v15.out.size; have w11 : s10.length = 6 := (by rw [← x13]; rfl)
     have f10 : Hid (r15.ownsRow w.heap.size 50 1 (.slice (some ⟨a11.heap.size, 0, none⟩) 6 6) 6 (HelpInt.iv s10)) := by
      rw [← g15, ← x13]; have e_ : ([.int .i64 c12, .int .i64 e12, .int .i64 a12, .int .i64 d12, .int .i64 z11, .int .i64 b12] : List Value) = HelpInt.iv [c12, e12, a12, d12, z11, b12] := rfl; exact Lib.hid (own_laid (n := 6) b15 e_ rfl (by unfold maxLen; omega))
     clear b15; have l23 := Lib.hid x13; clear x13; replace w11 := Lib.hid w11; have k19 := Lib.hid (apart_fresh c10.out); have r22 := Lib.hid (apart_fresh b10.out); have c21 := Lib.hid (apart_fresh a10.out); have e19 := Lib.hid (apart_fresh d10.out); have f20 := Lib.hid (apart_fresh e10.out); have l17 := Lib.hid (Below.step v15.out b13); replace c10 := Lib.hid (own_below c10.out b13); replace b10 := Lib.hid (own_below b10.out b13); replace a10 := Lib.hid (own_below a10.out b13); replace d10 := Lib.hid (own_below d10.out b13); replace e10 := Lib.hid (own_below e10.out b13); clear b13; replace H := bind2_hid H; obtain ⟨d18, g13, e18, H⟩ := H; obtain ⟨e11, g11, h11, d11, c11, j11⟩ := d18; replace H := unIntA6_hid H; go_wp2_with fail; go_at_call 29; refine (GsFaultCounts.C fuel (t_5a) (t_5b) (t_5c) t11 r11 s11 x11 m11 n11 _   (Lib.hid (own_cells c10.out)) (Lib.hid (own_max c10.out)) (Lib.hid (own_cells b10.out)) (Lib.hid (own_max b10.out)) (Lib.hid (own_cells a10.out)) (Lib.hid (own_max a10.out)) e18).mono ?_; rintro r19 g10 ⟨rfl, o12⟩; unfold PIntA6.IntA6.val; have x18 := Lib.hid (Below.step l17.out o12); replace c10 := Lib.hid (own_below c10.out o12); replace b10 := Lib.hid (own_below b10.out o12); replace a10 := Lib.hid (own_below a10.out o12); replace d10 := Lib.hid (own_below d10.out o12); replace e10 := Lib.hid (own_below e10.out o12); replace f10 := Lib.hid (own_below f10.out o12); clear o12; obtain ⟨p11, s12⟩ : ∃ x, g10.alloc (.cells #[.int .i64 e11, .int .i64 g11, .int .i64 h11, .int .i64 d11, .int .i64 c11, .int .i64 j11] 50) = x := ⟨_, rfl⟩; have n12 : Below g10.heap.size g10 p11 := (by rw [← s12]; exact (Below.refl _ _).alloc (Nat.le_refl _) _); have z21 := Lib.hid (apart_fresh c10.out); have w22 := Lib.hid (apart_fresh b10.out); have g19 := Lib.hid (apart_fresh a10.out); have d23 := Lib.hid (apart_fresh d10.out); have o21 := Lib.hid (apart_fresh e10.out); have d19 := Lib.hid (apart_fresh f10.out); have k14 := Lib.hid (Below.step x18.out n12); replace c10 := Lib.hid (own_below c10.out n12); replace b10 := Lib.hid (own_below b10.out n12); replace a10 := Lib.hid (own_below a10.out n12); replace d10 := Lib.hid (own_below d10.out n12); replace e10 := Lib.hid (own_below e10.out n12); replace f10 := Lib.hid (own_below f10.out n12); clear n12; have h10 : p11.cell? ⟨g10.heap.size, 0, none⟩ = some (.int .i64 e11) := (by rw [← s12]; exact box_new _ _ _ 0 _ rfl); have l10 : p11.cell? ⟨g10.heap.size, 1, none⟩ = some (.int .i64 g11) := (by rw [← s12]; exact box_new _ _ _ 1 _ rfl); have k10 : p11.cell? ⟨g10.heap.size, 2, none⟩ = some (.int .i64 h11) := (by rw [← s12]; exact box_new _ _ _ 2 _ rfl); have j10 : p11.cell? ⟨g10.heap.size, 3, none⟩ = some (.int .i64 d11) := (by rw [← s12]; exact box_new _ _ _ 3 _ rfl); have i10 : p11.cell? ⟨g10.heap.size, 4, none⟩ = some (.int .i64 c11) := (by rw [← s12]; exact box_new _ _ _ 4 _ rfl); have m10 : p11.cell? ⟨g10.heap.size, 5, none⟩ = some (.int .i64 j11) := (by rw [← s12]; exact box_new _ _ _ 5 _ rfl); go_upto_region 10 with fail
     go_cut [90] (fun v90_ wr => ∃ (f14 : Bool), v90_ = .bool f14 ∧ Hid (q1 code fuel tapes false t_5a t_5b t_5c q10 c13 o10 m12 false p12 c12 e12 a12 d12 z11 b12 s10 g13 e11 g11 h11 d11 c11 j11 (f14) = some r) ∧ Hid (Below w.heap.size w wr) ∧ wr.cell? ⟨g10.heap.size, 0, none⟩ = some (.int .i64 e11) ∧ wr.cell? ⟨g10.heap.size, 1, none⟩ = some (.int .i64 g11) ∧ wr.cell? ⟨g10.heap.size, 2, none⟩ = some (.int .i64 h11) ∧ wr.cell? ⟨g10.heap.size, 3, none⟩ = some (.int .i64 d11) ∧ wr.cell? ⟨g10.heap.size, 4, none⟩ = some (.int .i64 c11) ∧ wr.cell? ⟨g10.heap.size, 5, none⟩ = some (.int .i64 j11) ∧ Hid (wr.ownsRow w.heap.size 92 5 (.slice t11 t_5a.length r11) t_5a.length (PRate.flat t_5a)) ∧ Hid (wr.ownsRow w.heap.size 77 4 (.slice s11 t_5b.length x11) t_5b.length (PMail.flat t_5b)) ∧ Hid (wr.ownsRow w.heap.size 27 9 (.slice m11 t_5c.length n11) t_5c.length (PCover.flat t_5c)) ∧ Hid (wr.ownsRow w.heap.size 3 1 (.slice f12 q10.length h12) q10.length (HelpInt.iv q10)) ∧ Hid (wr.ownsRow w.heap.size 3 1 (.slice l12 o10.length k12) o10.length (HelpInt.iv o10)) ∧ Hid (wr.ownsRow w.heap.size 50 1 (.slice (some ⟨a11.heap.size, 0, none⟩) 6 6) 6 (HelpInt.iv s10)))
     case first =>
      as_aux_lemma =>
       replace H := let_hid H; obtain ⟨t_70, o20, H⟩ := H; replace H := join_hid H
       cases t_70 with
       | false =>
        replace H := ite_f H; replace H := let_hid H; obtain ⟨t_74, f19, H⟩ := H; replace H := app_hid H; replace H := join_hid H
        cases t_74 with
        | false =>
         replace H := ite_f H; have d16 : p11.cell? ⟨a11.heap.size, 0, none⟩ = some (.int .i64 (GoA.nth s10 0)) := GoA.row_at f10.out w11.out 0 (by omega); have l16 : p11.cell? ⟨a11.heap.size, 1, none⟩ = some (.int .i64 (GoA.nth s10 1)) := GoA.row_at f10.out w11.out 1 (by omega); have c18 : p11.cell? ⟨a11.heap.size, 2, none⟩ = some (.int .i64 (GoA.nth s10 2)) := GoA.row_at f10.out w11.out 2 (by omega); have o18 : p11.cell? ⟨a11.heap.size, 3, none⟩ = some (.int .i64 (GoA.nth s10 3)) := GoA.row_at f10.out w11.out 3 (by omega); have j18 : p11.cell? ⟨a11.heap.size, 4, none⟩ = some (.int .i64 (GoA.nth s10 4)) := GoA.row_at f10.out w11.out 4 (by omega); have w16 : p11.cell? ⟨a11.heap.size, 5, none⟩ = some (.int .i64 (GoA.nth s10 5)) := GoA.row_at f10.out w11.out 5 (by omega); replace H := let_hid H; obtain ⟨t_79, w18, H⟩ := H; have s21 : ∀ W, (binOp .neq 50 (.agg #[.int .i64 (GoA.nth s10 0), .int .i64 (GoA.nth s10 1), .int .i64 (GoA.nth s10 2), .int .i64 (GoA.nth s10 3), .int .i64 (GoA.nth s10 4), .int .i64 (GoA.nth s10 5)]) (.agg #[.int .i64 e11, .int .i64 g11, .int .i64 h11, .int .i64 d11, .int .i64 c11, .int .i64 j11])).run Try.prog W = .ok (.bool t_79) W := fun W => (by rw [neqa_50, w18]); replace H := app_hid H; go_wp2_with fail; clear d16 l16 c18 o18 j18 w16
         go_meet
         case rel => exact ⟨_, rfl, H, k14, h10, l10, k10, j10, i10, m10, c10, b10, a10, d10, e10, f10⟩
        | true =>
         replace H := ite_t H; replace H := app_hid H; go_wp2_with fail
         go_meet
         case rel => exact ⟨_, rfl, H, k14, h10, l10, k10, j10, i10, m10, c10, b10, a10, d10, e10, f10⟩
       | true =>
        replace H := ite_t H; replace H := app_hid H; replace H := join_hid H; replace H := ite_t H; replace H := app_hid H; go_wp2_with fail
        go_meet
        case rel => exact ⟨_, rfl, H, k14, h10, l10, k10, j10, i10, m10, c10, b10, a10, d10, e10, f10⟩
     case rest =>
      as_aux_lemma =>
       obtain ⟨f14, rfl, H, v14, h10, l10, k10, j10, i10, m10, c10, b10, a10, d10, e10, f10⟩ := hcut; rename World => wq1; unfold q1 at H; replace H := let_hid H; obtain ⟨_, rfl, H⟩ := H
       cases f14 with
       | false =>
        replace H := ite_f H; go_upto_if 91 with fail
        go_cut [] (fun  wr => Hid (q2 code fuel tapes false t_5a t_5b t_5c q10 c13 o10 m12 false p12 c12 e12 a12 d12 z11 b12 s10 g13 e11 g11 h11 d11 c11 j11 false () = some r) ∧ Hid (Below w.heap.size w wr) ∧ wr.cell? ⟨g10.heap.size, 0, none⟩ = some (.int .i64 e11) ∧ wr.cell? ⟨g10.heap.size, 1, none⟩ = some (.int .i64 g11) ∧ wr.cell? ⟨g10.heap.size, 2, none⟩ = some (.int .i64 h11) ∧ wr.cell? ⟨g10.heap.size, 3, none⟩ = some (.int .i64 d11) ∧ wr.cell? ⟨g10.heap.size, 4, none⟩ = some (.int .i64 c11) ∧ wr.cell? ⟨g10.heap.size, 5, none⟩ = some (.int .i64 j11) ∧ Hid (wr.ownsRow w.heap.size 92 5 (.slice t11 t_5a.length r11) t_5a.length (PRate.flat t_5a)) ∧ Hid (wr.ownsRow w.heap.size 77 4 (.slice s11 t_5b.length x11) t_5b.length (PMail.flat t_5b)) ∧ Hid (wr.ownsRow w.heap.size 27 9 (.slice m11 t_5c.length n11) t_5c.length (PCover.flat t_5c)) ∧ Hid (wr.ownsRow w.heap.size 3 1 (.slice f12 q10.length h12) q10.length (HelpInt.iv q10)) ∧ Hid (wr.ownsRow w.heap.size 3 1 (.slice l12 o10.length k12) o10.length (HelpInt.iv o10)) ∧ Hid (wr.ownsRow w.heap.size 50 1 (.slice (some ⟨a11.heap.size, 0, none⟩) 6 6) 6 (HelpInt.iv s10)))
        case first =>
         as_aux_lemma =>
          cases c13 with
          | false =>
           replace H := ite_f H; go_wp2_with fail
           go_meet
           case rel => exact ⟨H, v14, h10, l10, k10, j10, i10, m10, c10, b10, a10, d10, e10, f10⟩
          | true =>
           replace H := ite_t H; go_wp2_with fail; go_loopg [15, 14] (6) (fun m_ v15_ v14_ wr => ∃ (k0 : Nat) (y13 : Int), k0 + m_ = 6 ∧ v15_ = .int .i64 (k0 : Int) ∧ v14_ = .int .i64 y13 ∧ Hid (cntK (l0 s10) m_ k0 (y13) (e0 code fuel tapes false t_5a t_5b t_5c q10 true o10 m12 false p12 c12 e12 a12 d12 z11 b12 s10 g13 e11 g11 h11 d11 c11 j11 false) = some r) ∧ Hid (Below w.heap.size w wr) ∧ wr.cell? ⟨g10.heap.size, 0, none⟩ = some (.int .i64 e11) ∧ wr.cell? ⟨g10.heap.size, 1, none⟩ = some (.int .i64 g11) ∧ wr.cell? ⟨g10.heap.size, 2, none⟩ = some (.int .i64 h11) ∧ wr.cell? ⟨g10.heap.size, 3, none⟩ = some (.int .i64 d11) ∧ wr.cell? ⟨g10.heap.size, 4, none⟩ = some (.int .i64 c11) ∧ wr.cell? ⟨g10.heap.size, 5, none⟩ = some (.int .i64 j11) ∧ Hid (wr.ownsRow w.heap.size 92 5 (.slice t11 t_5a.length r11) t_5a.length (PRate.flat t_5a)) ∧ Hid (wr.ownsRow w.heap.size 77 4 (.slice s11 t_5b.length x11) t_5b.length (PMail.flat t_5b)) ∧ Hid (wr.ownsRow w.heap.size 27 9 (.slice m11 t_5c.length n11) t_5c.length (PCover.flat t_5c)) ∧ Hid (wr.ownsRow w.heap.size 3 1 (.slice f12 q10.length h12) q10.length (HelpInt.iv q10)) ∧ Hid (wr.ownsRow w.heap.size 3 1 (.slice l12 o10.length k12) o10.length (HelpInt.iv o10)) ∧ Hid (wr.ownsRow w.heap.size 50 1 (.slice (some ⟨a11.heap.size, 0, none⟩) 6 6) 6 (HelpInt.iv s10)))
           case atStart => exact ⟨0, _, by omega, rfl, rfl, H, v14, h10, l10, k10, j10, i10, m10, c10, b10, a10, d10, e10, f10⟩
           case round =>
            obtain ⟨k0, y13, hkm0, rfl, rfl, H, q14, h10, l10, k10, j10, i10, m10, c10, b10, a10, d10, e10, f10⟩ := hrel; rename World => wr0
            cases gk with
            | zero =>
             obtain rfl : k0 = 6 := (by omega); have hc0 : decide (((6 : Nat) : Int) < ((6 : Nat) : Int)) = false := (by simp); replace H := cnt_zero H; unfold e0 at H; replace H := let_hid H; obtain ⟨_, rfl, H⟩ := H; go_upto_region 18 with fail
             go_cut [111] (fun v111_ wr => ∃ (d14 : Bool), v111_ = .bool d14 ∧ Hid (q3 code fuel tapes false t_5a t_5b t_5c q10 true o10 m12 false p12 c12 e12 a12 d12 z11 b12 s10 g13 e11 g11 h11 d11 c11 j11 false y13 (d14) = some r) ∧ Hid (Below w.heap.size w wr) ∧ wr.cell? ⟨g10.heap.size, 0, none⟩ = some (.int .i64 e11) ∧ wr.cell? ⟨g10.heap.size, 1, none⟩ = some (.int .i64 g11) ∧ wr.cell? ⟨g10.heap.size, 2, none⟩ = some (.int .i64 h11) ∧ wr.cell? ⟨g10.heap.size, 3, none⟩ = some (.int .i64 d11) ∧ wr.cell? ⟨g10.heap.size, 4, none⟩ = some (.int .i64 c11) ∧ wr.cell? ⟨g10.heap.size, 5, none⟩ = some (.int .i64 j11) ∧ Hid (wr.ownsRow w.heap.size 92 5 (.slice t11 t_5a.length r11) t_5a.length (PRate.flat t_5a)) ∧ Hid (wr.ownsRow w.heap.size 77 4 (.slice s11 t_5b.length x11) t_5b.length (PMail.flat t_5b)) ∧ Hid (wr.ownsRow w.heap.size 27 9 (.slice m11 t_5c.length n11) t_5c.length (PCover.flat t_5c)) ∧ Hid (wr.ownsRow w.heap.size 3 1 (.slice f12 q10.length h12) q10.length (HelpInt.iv q10)) ∧ Hid (wr.ownsRow w.heap.size 3 1 (.slice l12 o10.length k12) o10.length (HelpInt.iv o10)) ∧ Hid (wr.ownsRow w.heap.size 50 1 (.slice (some ⟨a11.heap.size, 0, none⟩) 6 6) 6 (HelpInt.iv s10)))
             case first =>
              as_aux_lemma =>
               replace H := idx_hid H; obtain ⟨m18, b24, e16, p16, v16, H⟩ := H; obtain rfl : 0 = m18 := (by omega); clear e16; have x16 := w11.out; obtain ⟨e24, i21, l19, d15, z14, h16⟩ := HelpInt.Ints.at_ (own_cells f10.out) (k := 0) (by omega); obtain rfl := Option.some.inj (v16.out.symm.trans z14); simp only [Option.some.injEq, Addr.mk.injEq] at d15; obtain ⟨rfl, rfl, _⟩ := d15; clear z14; have h21 : (0 : Int) < ((6 : Nat) : Int) := (by omega); have j16 : 0 < 6 := (by omega)
               try simp only [Nat.zero_mul, Nat.add_zero, Nat.zero_add, Nat.reduceMul] at h16
               clear x16; have j16 : 0 < 6 := (by have h_ := p16; have hn_ := w11.out; omega); have x23 : (0 : Int) < (6 : Int) := (by omega); replace H := let_hid H; obtain ⟨r17, b22, H⟩ := H; replace H := join_hid H
               cases r17 with
               | false =>
                replace H := ite_f H; replace H := let_hid H; obtain ⟨w23, r21, H⟩ := H; replace H := app_hid H; go_wp2_with fail
                go_meet
                case rel => exact ⟨_, rfl, H, q14, h10, l10, k10, j10, i10, m10, c10, b10, a10, d10, e10, f10⟩
               | true =>
                replace H := ite_t H; replace H := app_hid H; go_wp2_with fail
                go_meet
                case rel => exact ⟨_, rfl, H, q14, h10, l10, k10, j10, i10, m10, c10, b10, a10, d10, e10, f10⟩
             case rest =>
              as_aux_lemma =>
               obtain ⟨d14, rfl, H, x15, h10, l10, k10, j10, i10, m10, c10, b10, a10, d10, e10, f10⟩ := hcut; rename World => wq3; unfold q3 at H; replace H := let_hid H; obtain ⟨_, rfl, H⟩ := H
               cases d14 with
               | false =>
                replace H := ite_f H; go_wp2_with fail
                go_meet
                case rel => exact ⟨H, x15, h10, l10, k10, j10, i10, m10, c10, b10, a10, d10, e10, f10⟩
               | true =>
                replace H := ite_t H; obtain rfl := ret_hid H; go_wp2_with fail; go_ret; exact ⟨rfl, x15.out⟩
            | succ m0 =>
             have hlt0 : k0 < 6 := (by omega); have hc0 : decide ((k0 : Int) < ((6 : Nat) : Int)) = true := (by simp; omega); replace H := cnt_succ H; have hd0 : decide ((k0 : Int) < 6) = true := (by simp; omega); unfold l0 at H; replace H := let_hid H; obtain ⟨_, rfl, H⟩ := H; replace H := idx_hid H; obtain ⟨i17, v19, t17, p17, m17, H⟩ := H; obtain rfl : k0 = i17 := (by omega); clear t17; have j17 := w11.out; obtain ⟨x20, v22, e21, m15, a15, n16⟩ := HelpInt.Ints.at_ (own_cells f10.out) (k := k0) (by omega); obtain rfl := Option.some.inj (m17.out.symm.trans a15); simp only [Option.some.injEq, Addr.mk.injEq] at m15; obtain ⟨rfl, rfl, _⟩ := m15; clear a15; simp only [Nat.zero_add] at n16; have b21 : (0 : Int) ≤ (k0 : Int) := (by omega); have g21 : (k0 : Int) < ((6 : Nat) : Int) := (by omega); have q19 : ((k0 : Int)).toNat = k0 := (by omega); have f16 : (k0 : Int) < (6 : Int) := (by omega); have f23 : k0 < 6 := (by omega); clear j17; have n23 : k0 < 6 := (by have h_ := p17; have hn_ := w11.out; omega); have f16 : (k0 : Int) < (6 : Int) := (by omega); replace H := let_hid H; obtain ⟨t_91, c19, H⟩ := H; replace H := app_hid H; go_wp2_with fail
             go_roundg m0
             case measure => omega
             case rel => exact ⟨k0 + 1, _, by omega, by go_num, rfl, H, q14, h10, l10, k10, j10, i10, m10, c10, b10, a10, d10, e10, f10⟩
        case rest =>
         as_aux_lemma =>
          obtain ⟨H, b14, h10, l10, k10, j10, i10, m10, c10, b10, a10, d10, e10, f10⟩ := hcut; rename World => wq2; unfold q2 at H; replace H := bind3_hid H; obtain ⟨f11, x10, w12, i16, H⟩ := H; go_wp2_with fail; go_at_call 30; refine (GsDrawCoversVia.C fuel tapes (code) A0 c0 _  HE (Lib.hid (Cells.below M0.out b14.out)) N0 V0 i16).mono ?_; rintro t23 j19 ⟨n13, o13, h14, s13, rfl, g12, j12, d0_1, l11⟩; have n22 := Lib.hid (apart_call g12 c10.out); have l21 := Lib.hid (apart_call g12 b10.out); have j22 := Lib.hid (apart_call g12 a10.out); have t22 := Lib.hid (apart_call g12 d10.out); have n20 := Lib.hid (apart_call g12 e10.out); have y20 := Lib.hid (apart_call g12 f10.out); have m23 := Lib.hid (apart_callbox g12 h10); have e23 := Lib.hid (apart_call j12 c10.out); have o19 := Lib.hid (apart_call j12 b10.out); have b19 := Lib.hid (apart_call j12 a10.out); have w21 := Lib.hid (apart_call j12 d10.out); have f21 := Lib.hid (apart_call j12 e10.out); have p23 := Lib.hid (apart_call j12 f10.out); have j20 := Lib.hid (apart_callbox j12 h10); have m22 := Lib.hid d0_1; have p10 := Lib.hid (own_lower g12 b14.out.size); clear g12; have n10 := Lib.hid (own_lower j12 b14.out.size); clear j12; have x14 := Lib.hid (Below.step b14.out l11); replace h10 := cell_below l11 h10; replace l10 := cell_below l11 l10; replace k10 := cell_below l11 k10; replace j10 := cell_below l11 j10; replace i10 := cell_below l11 i10; replace m10 := cell_below l11 m10; replace c10 := Lib.hid (own_below c10.out l11); replace b10 := Lib.hid (own_below b10.out l11); replace a10 := Lib.hid (own_below a10.out l11); replace d10 := Lib.hid (own_below d10.out l11); replace e10 := Lib.hid (own_below e10.out l11); replace f10 := Lib.hid (own_below f10.out l11); clear l11; replace H := bind2_hid H; obtain ⟨i11, t15, b18, H⟩ := H; go_wp2_with fail; go_at_call 31; refine (GiCoversVia.C fuel (f11) (x10) (w12) n13 o13 h14 s13 _   (Lib.hid (own_cells p10.out)) (Lib.hid (own_max p10.out)) (Lib.hid (own_cells n10.out)) (Lib.hid (own_max n10.out)) b18).mono ?_; rintro p19 g22 ⟨p13, l13, rfl, y11, k11⟩; have t19 := Lib.hid (apart_call y11 c10.out); have t20 := Lib.hid (apart_call y11 b10.out); have y22 := Lib.hid (apart_call y11 a10.out); have j21 := Lib.hid (apart_call y11 d10.out); have q22 := Lib.hid (apart_call y11 e10.out); have q23 := Lib.hid (apart_call y11 f10.out); have c24 := Lib.hid (apart_call y11 p10.out); have y21 := Lib.hid (apart_call y11 n10.out); have z23 := Lib.hid (apart_callbox y11 h10); have r10 := Lib.hid (own_lower y11 x14.out.size); clear y11; have y14 := Lib.hid (Below.step x14.out k11); replace h10 := cell_below k11 h10; replace l10 := cell_below k11 l10; replace k10 := cell_below k11 k10; replace j10 := cell_below k11 j10; replace i10 := cell_below k11 i10; replace m10 := cell_below k11 m10; replace c10 := Lib.hid (own_below c10.out k11); replace b10 := Lib.hid (own_below b10.out k11); replace a10 := Lib.hid (own_below a10.out k11); replace d10 := Lib.hid (own_below d10.out k11); replace e10 := Lib.hid (own_below e10.out k11); replace f10 := Lib.hid (own_below f10.out k11); replace p10 := Lib.hid (own_below p10.out k11); replace n10 := Lib.hid (own_below n10.out k11); clear k11; replace H := bind2_hid H; obtain ⟨o11, t14, q17, H⟩ := H; go_wp2_with fail; go_at_call 32; refine (GsCoversVia.C fuel (f11) (x10) (w12) n13 o13 h14 s13 _   (Lib.hid (own_cells p10.out)) (Lib.hid (own_max p10.out)) (Lib.hid (own_cells n10.out)) (Lib.hid (own_max n10.out)) q17).mono ?_; rintro i22 v20 ⟨w13, a14, rfl, v11, b11⟩; have k20 := Lib.hid (apart_call v11 c10.out); have b20 := Lib.hid (apart_call v11 b10.out); have m21 := Lib.hid (apart_call v11 a10.out); have z22 := Lib.hid (apart_call v11 d10.out); have d22 := Lib.hid (apart_call v11 e10.out); have y19 := Lib.hid (apart_call v11 f10.out); have r23 := Lib.hid (apart_call v11 p10.out); have c20 := Lib.hid (apart_call v11 n10.out); have a20 := Lib.hid (apart_call v11 r10.out); have m19 := Lib.hid (apart_callbox v11 h10)
          have y10 := Lib.hid (own_lower v11 y14.out.size); clear v11; have z15 := Lib.hid (Below.step y14.out b11); replace h10 := cell_below b11 h10; replace l10 := cell_below b11 l10; replace k10 := cell_below b11 k10; replace j10 := cell_below b11 j10; replace i10 := cell_below b11 i10; replace m10 := cell_below b11 m10; replace c10 := Lib.hid (own_below c10.out b11); replace b10 := Lib.hid (own_below b10.out b11); replace a10 := Lib.hid (own_below a10.out b11); replace d10 := Lib.hid (own_below d10.out b11); replace e10 := Lib.hid (own_below e10.out b11); replace f10 := Lib.hid (own_below f10.out b11); replace p10 := Lib.hid (own_below p10.out b11); replace n10 := Lib.hid (own_below n10.out b11); replace r10 := Lib.hid (own_below r10.out b11); clear b11; go_upto_region 23 with fail
          go_cut [140] (fun v140_ wr => ∃ (g14 : Bool), v140_ = .bool g14 ∧ Hid (q4 code fuel tapes false t_5a t_5b t_5c q10 c13 o10 m12 false p12 c12 e12 a12 d12 z11 b12 s10 g13 e11 g11 h11 d11 c11 j11 false f11 x10 w12 i11 t15 o11 t14 (g14) = some r) ∧ Hid (Below w.heap.size w wr) ∧ wr.cell? ⟨g10.heap.size, 0, none⟩ = some (.int .i64 e11) ∧ wr.cell? ⟨g10.heap.size, 1, none⟩ = some (.int .i64 g11) ∧ wr.cell? ⟨g10.heap.size, 2, none⟩ = some (.int .i64 h11) ∧ wr.cell? ⟨g10.heap.size, 3, none⟩ = some (.int .i64 d11) ∧ wr.cell? ⟨g10.heap.size, 4, none⟩ = some (.int .i64 c11) ∧ wr.cell? ⟨g10.heap.size, 5, none⟩ = some (.int .i64 j11) ∧ Hid (wr.ownsRow w.heap.size 92 5 (.slice t11 t_5a.length r11) t_5a.length (PRate.flat t_5a)) ∧ Hid (wr.ownsRow w.heap.size 77 4 (.slice s11 t_5b.length x11) t_5b.length (PMail.flat t_5b)) ∧ Hid (wr.ownsRow w.heap.size 27 9 (.slice m11 t_5c.length n11) t_5c.length (PCover.flat t_5c)) ∧ Hid (wr.ownsRow w.heap.size 3 1 (.slice f12 q10.length h12) q10.length (HelpInt.iv q10)) ∧ Hid (wr.ownsRow w.heap.size 3 1 (.slice l12 o10.length k12) o10.length (HelpInt.iv o10)) ∧ Hid (wr.ownsRow w.heap.size 50 1 (.slice (some ⟨a11.heap.size, 0, none⟩) 6 6) 6 (HelpInt.iv s10)) ∧ Hid (wr.ownsRow w.heap.size 77 4 (.slice n13 f11.length o13) f11.length (PMail.flat f11)) ∧ Hid (wr.ownsRow w.heap.size 27 9 (.slice h14 x10.length s13) x10.length (PCover.flat x10)) ∧ Hid (wr.ownsRow w.heap.size 3 1 (.slice p13 i11.length l13) i11.length (HelpInt.iv i11)) ∧ Hid (wr.ownsRow w.heap.size 3 1 (.slice w13 o11.length a14) o11.length (HelpInt.iv o11)))
          case first =>
           as_aux_lemma =>
            replace H := let_hid H; obtain ⟨z16, f22, H⟩ := H; replace H := join_hid H
            cases z16 with
            | false =>
             replace H := ite_f H; replace H := bind_hid H; obtain ⟨v17, s16, H⟩ := H; go_wp2_with fail; go_at_call 13; refine (GlVInts.C (i11) (o11) p13 l13 w13 a14 _   (Lib.hid (own_cells r10.out)) (Lib.hid (own_max r10.out)) (Lib.hid (own_cells y10.out)) (Lib.hid (own_max y10.out)) s16).mono ?_; rintro w20 a19 ⟨rfl, z10⟩; have i15 := Lib.hid (Below.step z15.out z10); replace h10 := cell_below z10 h10; replace l10 := cell_below z10 l10; replace k10 := cell_below z10 k10; replace j10 := cell_below z10 j10; replace i10 := cell_below z10 i10; replace m10 := cell_below z10 m10; replace c10 := Lib.hid (own_below c10.out z10); replace b10 := Lib.hid (own_below b10.out z10); replace a10 := Lib.hid (own_below a10.out z10); replace d10 := Lib.hid (own_below d10.out z10); replace e10 := Lib.hid (own_below e10.out z10); replace f10 := Lib.hid (own_below f10.out z10); replace p10 := Lib.hid (own_below p10.out z10); replace n10 := Lib.hid (own_below n10.out z10); replace r10 := Lib.hid (own_below r10.out z10); replace y10 := Lib.hid (own_below y10.out z10); clear z10
             cases v17 with
             | false =>
              replace H := let_hid H; obtain ⟨s14, r14, H⟩ := H; obtain rfl : s14 = true := r14.symm; replace H := app_hid H; go_wp2_with fail
              go_meet
              case rel => exact ⟨_, rfl, H, i15, h10, l10, k10, j10, i10, m10, c10, b10, a10, d10, e10, f10, p10, n10, r10, y10⟩
             | true =>
              replace H := let_hid H; obtain ⟨s14, r14, H⟩ := H; obtain rfl : s14 = false := r14.symm; replace H := app_hid H; go_wp2_with fail
              go_meet
              case rel => exact ⟨_, rfl, H, i15, h10, l10, k10, j10, i10, m10, c10, b10, a10, d10, e10, f10, p10, n10, r10, y10⟩
            | true =>
             replace H := ite_t H; replace H := app_hid H; go_wp2_with fail
             go_meet
             case rel => exact ⟨_, rfl, H, z15, h10, l10, k10, j10, i10, m10, c10, b10, a10, d10, e10, f10, p10, n10, r10, y10⟩
          case rest =>
           as_aux_lemma =>
            obtain ⟨g14, rfl, H, n14, h10, l10, k10, j10, i10, m10, c10, b10, a10, d10, e10, f10, p10, n10, r10, y10⟩ := hcut; rename World => wq4; unfold q4 at H; replace H := let_hid H; obtain ⟨_, rfl, H⟩ := H
            cases g14 with
            | false =>
             replace H := ite_f H
             cases t15 with
             | false =>
              replace H := ite_f H; unfold j5 at H; obtain rfl := ret_hid H; go_wp2_with fail; go_ret; exact ⟨rfl, n14.out⟩
             | true =>
              replace H := ite_t H; have hb_1 : x10.length ≤ 9223372036854775807 := own_max n10.out; go_wp2_with fail; go_loopg [23] (x10.length) (fun m_ v23_ wr => ∃ (k1 : Nat) , k1 + m_ = x10.length ∧ v23_ = .int .i64 (k1 : Int) ∧ Hid (cntK (l1 fuel f11 x10 w12 i11) m_ k1 () (e1 code fuel tapes false t_5a t_5b t_5c q10 c13 o10 m12 false p12 c12 e12 a12 d12 z11 b12 s10 g13 e11 g11 h11 d11 c11 j11 false f11 x10 w12 i11 true o11 t14 false) = some r) ∧ Hid (Below w.heap.size w wr) ∧ wr.cell? ⟨g10.heap.size, 0, none⟩ = some (.int .i64 e11) ∧ wr.cell? ⟨g10.heap.size, 1, none⟩ = some (.int .i64 g11) ∧ wr.cell? ⟨g10.heap.size, 2, none⟩ = some (.int .i64 h11) ∧ wr.cell? ⟨g10.heap.size, 3, none⟩ = some (.int .i64 d11) ∧ wr.cell? ⟨g10.heap.size, 4, none⟩ = some (.int .i64 c11) ∧ wr.cell? ⟨g10.heap.size, 5, none⟩ = some (.int .i64 j11) ∧ Hid (wr.ownsRow w.heap.size 92 5 (.slice t11 t_5a.length r11) t_5a.length (PRate.flat t_5a)) ∧ Hid (wr.ownsRow w.heap.size 77 4 (.slice s11 t_5b.length x11) t_5b.length (PMail.flat t_5b)) ∧ Hid (wr.ownsRow w.heap.size 27 9 (.slice m11 t_5c.length n11) t_5c.length (PCover.flat t_5c)) ∧ Hid (wr.ownsRow w.heap.size 3 1 (.slice f12 q10.length h12) q10.length (HelpInt.iv q10)) ∧ Hid (wr.ownsRow w.heap.size 3 1 (.slice l12 o10.length k12) o10.length (HelpInt.iv o10)) ∧ Hid (wr.ownsRow w.heap.size 50 1 (.slice (some ⟨a11.heap.size, 0, none⟩) 6 6) 6 (HelpInt.iv s10)) ∧ Hid (wr.ownsRow w.heap.size 77 4 (.slice n13 f11.length o13) f11.length (PMail.flat f11)) ∧ Hid (wr.ownsRow w.heap.size 27 9 (.slice h14 x10.length s13) x10.length (PCover.flat x10)) ∧ Hid (wr.ownsRow w.heap.size 3 1 (.slice p13 i11.length l13) i11.length (HelpInt.iv i11)) ∧ Hid (wr.ownsRow w.heap.size 3 1 (.slice w13 o11.length a14) o11.length (HelpInt.iv o11)))
              case atStart => exact ⟨0, by omega, rfl, H, n14, h10, l10, k10, j10, i10, m10, c10, b10, a10, d10, e10, f10, p10, n10, r10, y10⟩
              case round =>
               obtain ⟨k1, hkm1, rfl, H, j14, h10, l10, k10, j10, i10, m10, c10, b10, a10, d10, e10, f10, p10, n10, r10, y10⟩ := hrel; rename World => wr1
               cases gk with
               | zero =>
                obtain rfl : k1 = x10.length := (by omega); have hc1 : decide (((x10.length : Nat) : Int) < ((x10.length : Nat) : Int)) = false := (by simp); replace H := cnt_zero H; unfold e1 at H; unfold j5 at H; obtain rfl := ret_hid H; go_wp2_with fail; go_ret; exact ⟨rfl, j14.out⟩
               | succ m1 =>
                have hlt1 : k1 < x10.length := (by omega); have hc1 : decide ((k1 : Int) < ((x10.length : Nat) : Int)) = true := (by simp; omega); replace H := cnt_succ H; unfold l1 at H; replace H := idx_hid H; obtain ⟨i18, v18, g16, d20, c14, H⟩ := H; obtain rfl : k1 = i18 := (by omega); clear g16; obtain ⟨o14, n18, o16, g17, x17, b16, p18, n17, r18⟩ := v18; replace H := unCover_hid H; obtain ⟨y17, b17⟩ := own_some n10.out (by omega); subst b17; obtain ⟨r20, s23, i19, k15, e15, d13, x12, a13, h13, z12, t12, v12, q12, i13⟩ := OCover.at_ (own_cells n10.out) (k := k1) (by omega); obtain rfl := Option.some.inj (c14.out.symm.trans e15); simp only [Option.some.injEq, Addr.mk.injEq] at k15; obtain ⟨rfl, rfl, _⟩ := k15; clear e15; simp only [Nat.zero_add] at d13 x12 a13 h13 z12 t12 v12 q12 i13; have h23 : (0 : Int) ≤ (k1 : Int) := (by omega); have w19 : (k1 : Int) < ((x10.length : Nat) : Int) := (by omega); have d21 : ((k1 : Int)).toNat = k1 := (by omega); replace H := bind2_hid H; obtain ⟨p14, e17, t16, H⟩ := H; go_wp2_with fail; go_at_call 11; refine (GiRouteOn.C fuel (f11) ((PCover.Cover.mk o14 n18 o16 g17 x17 b16 p18 n17 r18)) n13 o13 _   (Lib.hid (own_cells p10.out)) (Lib.hid (own_max p10.out)) t16).mono ?_; rintro e22 y23 ⟨s18, s17, rfl, q11, w10⟩; have d24 := Lib.hid (apart_call q11 c10.out); have n21 := Lib.hid (apart_call q11 b10.out); have g23 := Lib.hid (apart_call q11 a10.out); have e20 := Lib.hid (apart_call q11 d10.out); have a24 := Lib.hid (apart_call q11 e10.out); have v21 := Lib.hid (apart_call q11 f10.out); have p22 := Lib.hid (apart_call q11 p10.out); have a23 := Lib.hid (apart_call q11 n10.out); have a21 := Lib.hid (apart_call q11 r10.out); have q21 := Lib.hid (apart_call q11 y10.out); have i23 := Lib.hid (apart_callbox q11 h10); have i12 := Lib.hid (own_lower q11 j14.out.size); clear q11; have m14 := Lib.hid (Below.step j14.out w10); replace h10 := cell_below w10 h10; replace l10 := cell_below w10 l10; replace k10 := cell_below w10 k10; replace j10 := cell_below w10 j10; replace i10 := cell_below w10 i10; replace m10 := cell_below w10 m10; replace d13 := cell_below w10 d13; replace x12 := cell_below w10 x12; replace a13 := cell_below w10 a13; replace h13 := cell_below w10 h13; replace z12 := cell_below w10 z12; replace t12 := cell_below w10 t12; replace v12 := cell_below w10 v12; replace q12 := cell_below w10 q12; replace i13 := cell_below w10 i13; replace c10 := Lib.hid (own_below c10.out w10); replace b10 := Lib.hid (own_below b10.out w10); replace a10 := Lib.hid (own_below a10.out w10); replace d10 := Lib.hid (own_below d10.out w10); replace e10 := Lib.hid (own_below e10.out w10); replace f10 := Lib.hid (own_below f10.out w10); replace p10 := Lib.hid (own_below p10.out w10); replace n10 := Lib.hid (own_below n10.out w10); replace r10 := Lib.hid (own_below r10.out w10); replace y10 := Lib.hid (own_below y10.out w10); clear w10; go_upto_region 30 with fail
                go_cut [189] (fun v189_ wr => ∃ (e14 : Bool), v189_ = .bool e14 ∧ Hid (q6 (fun s' => cntK (l1 fuel f11 x10 w12 i11) m1 (k1 + 1) s' (e1 code fuel tapes false t_5a t_5b t_5c q10 c13 o10 m12 false p12 c12 e12 a12 d12 z11 b12 s10 g13 e11 g11 h11 d11 c11 j11 false f11 x10 w12 i11 true o11 t14 false)) (e14) = some r) ∧ Hid (Below w.heap.size w wr) ∧ wr.cell? ⟨g10.heap.size, 0, none⟩ = some (.int .i64 e11) ∧ wr.cell? ⟨g10.heap.size, 1, none⟩ = some (.int .i64 g11) ∧ wr.cell? ⟨g10.heap.size, 2, none⟩ = some (.int .i64 h11) ∧ wr.cell? ⟨g10.heap.size, 3, none⟩ = some (.int .i64 d11) ∧ wr.cell? ⟨g10.heap.size, 4, none⟩ = some (.int .i64 c11) ∧ wr.cell? ⟨g10.heap.size, 5, none⟩ = some (.int .i64 j11) ∧ Hid (wr.ownsRow w.heap.size 92 5 (.slice t11 t_5a.length r11) t_5a.length (PRate.flat t_5a)) ∧ Hid (wr.ownsRow w.heap.size 77 4 (.slice s11 t_5b.length x11) t_5b.length (PMail.flat t_5b)) ∧ Hid (wr.ownsRow w.heap.size 27 9 (.slice m11 t_5c.length n11) t_5c.length (PCover.flat t_5c)) ∧ Hid (wr.ownsRow w.heap.size 3 1 (.slice f12 q10.length h12) q10.length (HelpInt.iv q10)) ∧ Hid (wr.ownsRow w.heap.size 3 1 (.slice l12 o10.length k12) o10.length (HelpInt.iv o10)) ∧ Hid (wr.ownsRow w.heap.size 50 1 (.slice (some ⟨a11.heap.size, 0, none⟩) 6 6) 6 (HelpInt.iv s10)) ∧ Hid (wr.ownsRow w.heap.size 77 4 (.slice n13 f11.length o13) f11.length (PMail.flat f11)) ∧ Hid (wr.ownsRow w.heap.size 27 9 (.slice (some ⟨y17, 0, none⟩) x10.length s13) x10.length (PCover.flat x10)) ∧ Hid (wr.ownsRow w.heap.size 3 1 (.slice p13 i11.length l13) i11.length (HelpInt.iv i11)) ∧ Hid (wr.ownsRow w.heap.size 3 1 (.slice w13 o11.length a14) o11.length (HelpInt.iv o11)) ∧ Hid (wr.ownsRow w.heap.size 3 1 (.slice s18 p14.length s17) p14.length (HelpInt.iv p14)))
                case first =>
                 as_aux_lemma =>
                  replace H := join_hid H
                  cases e17 with
                  | false =>
                   replace H := ite_f H; replace H := app_hid H; replace H := join_hid H; replace H := ite_f H; replace H := app_hid H; replace H := join_hid H; replace H := ite_f H; replace H := let_hid H; obtain ⟨r13, v13, H⟩ := H; obtain rfl : r13 = true := v13.symm; replace H := join_hid H; replace H := ite_t H; replace H := idx_hid H; obtain ⟨q18, v23, f18, g18, o15, H⟩ := H; obtain rfl : k1 = q18 := (by omega); clear f18; obtain rfl := Option.some.inj (c14.out.symm.trans o15.out); clear o15 g18; replace H := unCover_hid H; replace H := bind_hid H; obtain ⟨k22, y16, H⟩ := H; go_wp2_with fail; go_at_call 33; refine (GlVHas.C (i11) (o14) p13 l13 _   (Lib.hid (own_cells r10.out)) (Lib.hid (own_max r10.out)) y16).mono ?_; rintro k23 l22 ⟨rfl, t10⟩; have z17 := Lib.hid (Below.step m14.out t10); replace h10 := cell_below t10 h10; replace l10 := cell_below t10 l10; replace k10 := cell_below t10 k10; replace j10 := cell_below t10 j10; replace i10 := cell_below t10 i10; replace m10 := cell_below t10 m10; replace d13 := cell_below t10 d13; replace x12 := cell_below t10 x12; replace a13 := cell_below t10 a13; replace h13 := cell_below t10 h13; replace z12 := cell_below t10 z12; replace t12 := cell_below t10 t12; replace v12 := cell_below t10 v12; replace q12 := cell_below t10 q12; replace i13 := cell_below t10 i13; replace c10 := Lib.hid (own_below c10.out t10); replace b10 := Lib.hid (own_below b10.out t10); replace a10 := Lib.hid (own_below a10.out t10); replace d10 := Lib.hid (own_below d10.out t10); replace e10 := Lib.hid (own_below e10.out t10); replace f10 := Lib.hid (own_below f10.out t10); replace p10 := Lib.hid (own_below p10.out t10); replace n10 := Lib.hid (own_below n10.out t10); replace r10 := Lib.hid (own_below r10.out t10); replace y10 := Lib.hid (own_below y10.out t10); replace i12 := Lib.hid (own_below i12.out t10); clear t10; replace H := app_hid H; replace H := app_hid H; go_wp2_with fail
                   go_meet
                   case rel => exact ⟨_, rfl, H, z17, h10, l10, k10, j10, i10, m10, c10, b10, a10, d10, e10, f10, p10, n10, r10, y10, i12⟩
                  | true =>
                   replace H := ite_t H; replace H := idx_hid H; obtain ⟨h18, z18, f17, k18, j15, H⟩ := H; obtain rfl : k1 = h18 := (by omega); clear f17; obtain rfl := Option.some.inj (c14.out.symm.trans j15.out); clear j15 k18; replace H := unCover_hid H; replace H := let_hid H; obtain ⟨d17, i20, H⟩ := H; replace H := app_hid H; replace H := join_hid H
                   cases d17 with
                   | false =>
                    replace H := ite_f H; replace H := app_hid H; replace H := join_hid H; replace H := ite_f H; replace H := let_hid H; obtain ⟨r13, v13, H⟩ := H; obtain rfl : r13 = false := v13.symm; replace H := join_hid H; replace H := ite_f H; replace H := app_hid H; replace H := app_hid H; go_wp2_with fail
                    go_meet
                    case rel => exact ⟨_, rfl, H, m14, h10, l10, k10, j10, i10, m10, c10, b10, a10, d10, e10, f10, p10, n10, r10, y10, i12⟩
                   | true =>
                    replace H := ite_t H; replace H := idx_hid H; obtain ⟨a17, b23, m16, r16, f15, H⟩ := H; obtain rfl : k1 = a17 := (by omega); clear m16; obtain rfl := Option.some.inj (c14.out.symm.trans f15.out); clear f15 r16; replace H := unCover_hid H; replace H := bind_hid H; obtain ⟨c16, a18, H⟩ := H; go_wp2_with fail; go_at_call 33; refine (GlVHas.C (i11) (o14) p13 l13 _   (Lib.hid (own_cells r10.out)) (Lib.hid (own_max r10.out)) a18).mono ?_; rintro x22 p21 ⟨rfl, v10⟩; have c15 := Lib.hid (Below.step m14.out v10); replace h10 := cell_below v10 h10; replace l10 := cell_below v10 l10; replace k10 := cell_below v10 k10; replace j10 := cell_below v10 j10; replace i10 := cell_below v10 i10; replace m10 := cell_below v10 m10; replace d13 := cell_below v10 d13; replace x12 := cell_below v10 x12; replace a13 := cell_below v10 a13; replace h13 := cell_below v10 h13; replace z12 := cell_below v10 z12; replace t12 := cell_below v10 t12; replace v12 := cell_below v10 v12; replace q12 := cell_below v10 q12; replace i13 := cell_below v10 i13; replace c10 := Lib.hid (own_below c10.out v10); replace b10 := Lib.hid (own_below b10.out v10); replace a10 := Lib.hid (own_below a10.out v10); replace d10 := Lib.hid (own_below d10.out v10); replace e10 := Lib.hid (own_below e10.out v10); replace f10 := Lib.hid (own_below f10.out v10); replace p10 := Lib.hid (own_below p10.out v10); replace n10 := Lib.hid (own_below n10.out v10); replace r10 := Lib.hid (own_below r10.out v10); replace y10 := Lib.hid (own_below y10.out v10); replace i12 := Lib.hid (own_below i12.out v10); clear v10
                    cases c16 with
                    | false =>
                     replace H := let_hid H; obtain ⟨i14, w14, H⟩ := H; obtain rfl : i14 = true := w14.symm; replace H := app_hid H; replace H := join_hid H; replace H := ite_t H; replace H := app_hid H; go_wp2_with fail
                     go_meet
                     case rel => exact ⟨_, rfl, H, c15, h10, l10, k10, j10, i10, m10, c10, b10, a10, d10, e10, f10, p10, n10, r10, y10, i12⟩
                    | true =>
                     replace H := let_hid H; obtain ⟨i14, w14, H⟩ := H; obtain rfl : i14 = false := w14.symm; replace H := app_hid H; replace H := join_hid H; replace H := ite_f H; replace H := let_hid H; obtain ⟨r13, v13, H⟩ := H; obtain rfl : r13 = false := v13.symm; replace H := join_hid H; replace H := ite_f H; replace H := app_hid H; replace H := app_hid H; go_wp2_with fail
                     go_meet
                     case rel => exact ⟨_, rfl, H, c15, h10, l10, k10, j10, i10, m10, c10, b10, a10, d10, e10, f10, p10, n10, r10, y10, i12⟩
                case rest =>
                 as_aux_lemma =>
                  obtain ⟨e14, rfl, H, h15, h10, l10, k10, j10, i10, m10, c10, b10, a10, d10, e10, f10, p10, n10, r10, y10, i12⟩ := hcut; rename World => wq6; unfold q6 at H; replace H := let_hid H; obtain ⟨_, rfl, H⟩ := H
                  cases e14 with
                  | false =>
                   replace H := ite_f H; replace H := app_hid H; go_wp2_with fail
                   go_roundg m1
                   case measure => omega
                   case rel => exact ⟨k1 + 1, by omega, by go_num, H, h15, h10, l10, k10, j10, i10, m10, c10, b10, a10, d10, e10, f10, p10, n10, r10, y10⟩
                  | true =>
                   replace H := ite_t H; obtain rfl := ret_hid H; go_wp2_with fail; go_ret; exact ⟨rfl, h15.out⟩
            | true =>
             replace H := ite_t H; obtain rfl := ret_hid H; go_wp2_with fail; go_ret; exact ⟨rfl, n14.out⟩
       | true =>
        replace H := ite_t H; obtain rfl := ret_hid H; go_wp2_with fail; go_ret; exact ⟨rfl, v14.out⟩
    | true =>
     replace H := ite_t H; obtain rfl := ret_hid H; go_wp2_with fail; go_ret; exact ⟨rfl, s15.out⟩
 | true =>
  replace H := ite_t H; obtain rfl := ret_hid H; go_wp2_with fail; go_ret; exact ⟨rfl, j13.out⟩
end Go.Proofs.Ytgbcdmlcmnaimaa.GlFnCoverLists

namespace Go.Proofs.Ytgbcdmlcmnaimaa.QCount
open Go.RowKit
open Go.Proofs.Ytgbcdmlcmnaimaa.GoP Go.Proofs.Ytgbcdmlcmnaimaa.PlainStamp Go.Proofs.Ytgbcdmlcmnaimaa.QBase Go.Proofs.Ytgbcdmlcmnaimaa.QLoop

/-- the first place at which the test holds -/
def firstI {α : Type} (p : α → Bool) (l : List α) : Int := match l.findIdx? p with | some i => (i : Int) | none => -1
theorem find_loop {α R : Type} {l : List α} {p : α → Bool} {f : Nat → Unit → (Unit → Option R) → (Unit → Option R) → Option R} {fin : Unit → Option R} {yes : Nat → Option R}
    (step : ∀ k nx x, l[k]? = some x → f k () nx fin = if p x = true then yes k else nx ()) : cntK f l.length 0 () fin = match l.findIdx? p with | some i => yes i | none => fin () := by
  have key : ∀ m k, k + m = l.length → (∀ i x, i < k → l[i]? = some x → p x = false) → cntK f m k () fin = match l.findIdx? p with | some i => yes i | none => fin () := by
    intro m
    induction m with
    | zero =>
      intro k hk hu; obtain rfl : k = l.length := by omega
      have : l.findIdx? p = none := by
        rw [List.findIdx?_eq_none_iff]
        intro x hx
        obtain ⟨i, hi⟩ := List.getElem?_of_mem hx
        exact hu i x (List.getElem?_eq_some_iff.1 hi).1 hi
      rw [this]; rfl
    | succ m ih =>
      intro k hk hu
      obtain ⟨x, hx, _⟩ := at_lt (l := l) (k := k) (by omega)
      show f k () _ fin = _
      rw [step k _ x hx]
      cases hp : p x with
      | true =>
        have : l.findIdx? p = some k := by
          rw [List.findIdx?_eq_some_iff_getElem]
          obtain ⟨hlt, e⟩ := List.getElem?_eq_some_iff.1 hx
          refine ⟨hlt, by rw [e]; exact hp, fun j hj => ?_⟩
          rw [hu j l[j] hj (List.getElem?_eq_getElem (by omega))]; simp
        rw [this, if_pos rfl]
      | false =>
        rw [if_neg (by simp)]
        refine ih (k + 1) (by omega) (fun i y hi hy => ?_)
        by_cases he : i = k
        · subst he; rw [hx] at hy; obtain rfl := Option.some.inj hy; exact hp
        · exact hu i y (by omega) hy
  exact key l.length 0 (by omega) (fun i x hi _ => by omega)
theorem any_find {α : Type} (p : α → Bool) (l : List α) : decide (0 ≤ firstI p l) = l.any p := by
  unfold firstI
  cases h : l.findIdx? p with
  | none =>
    rw [List.findIdx?_eq_none_iff] at h
    have : l.any p = false := by rw [List.any_eq_false]; intro x hx; rw [h x hx]; simp
    rw [this]; rfl
  | some i =>
    rw [List.findIdx?_eq_some_iff_getElem] at h
    obtain ⟨hi, hp, _⟩ := h
    have : l.any p = true := List.any_eq_true.2 ⟨l[i], List.getElem_mem hi, hp⟩
    rw [this]; simp
end Go.Proofs.Ytgbcdmlcmnaimaa.QCount

namespace Go.Proofs.Ytgbcdmlcmnaimaa.QGath
open Go.RowKit
open Go.Proofs.Ytgbcdmlcmnaimaa.GoP Go.Proofs.Ytgbcdmlcmnaimaa.QBase Go.Proofs.Ytgbcdmlcmnaimaa.QLoop

theorem gather {α β R : Type} {l : List α} {p : α → Bool} {g : α → β} {f : Nat → List β → (List β → Option R) → (List β → Option R) → Option R} {fin : List β → Option R} (hl : l.length ≤ 1099511627776)
    (step : ∀ k nx x s, l[k]? = some x → s.length ≤ 1099511627776 → f k s nx fin = nx (if p x then s ++ [g x] else s)) : cntK f l.length 0 [] fin = fin ((l.filter p).map g) := by
  have key : ∀ m k, k + m = l.length → cntK f m k (((l.take k).filter p).map g) fin = fin ((l.filter p).map g) := by
    intro m
    induction m with
    | zero => intro k hk; obtain rfl : k = l.length := by omega
              rw [List.take_of_length_le (Nat.le_refl _)]; rfl
    | succ m ih =>
      intro k hk
      obtain ⟨x, hx, _⟩ := at_lt (l := l) (k := k) (by omega)
      show f k _ _ fin = _
      have hle : (((l.take k).filter p).map g).length ≤ 1099511627776 := by
        rw [List.length_map]
        have := List.length_filter_le p (l.take k)
        rw [List.length_take] at this
        omega
      rw [step k _ x _ hx hle, ← ih (k + 1) (by omega), take_next hx, List.filter_append, List.map_append]
      cases hp : p x <;> simp [List.filter, hp]
  exact key l.length 0 (by omega)
end Go.Proofs.Ytgbcdmlcmnaimaa.QGath

namespace Go.Proofs.Ytgbcdmlcmnaimaa.Q10Via
open Go.RowKit
open Go.Proofs.Ytgbcdmlcmnaimaa.GoP Go.Proofs.Ytgbcdmlcmnaimaa.PlainStamp Go.Proofs.Ytgbcdmlcmnaimaa.QBase Go.Proofs.Ytgbcdmlcmnaimaa.Q10Route Go.Proofs.Ytgbcdmlcmnaimaa.Q10Cover Go.Proofs.Ytgbcdmlcmnaimaa.Q9List Go.Proofs.Ytgbcdmlcmnaimaa.Q9End Go.Proofs.Ytgbcdmlcmnaimaa.Q9Mail Go.Proofs.Ytgbcdmlcmnaimaa.QCount Go.Proofs.Ytgbcdmlcmnaimaa.QGath Go.Proofs.Ytgbcdmlcmnaimaa.QLoop Go.Proofs.Ytgbcdmlcmnaimaa.PCover Go.Proofs.Ytgbcdmlcmnaimaa.PMail

def viaR (ms : List Mail) (office : Int) (i : Int) : Bool := match ms[i.toNat]? with | none => false | some y => decide (y.to_ = office)
theorem endF_in {l : List Mail} : ∀ {r : List Int} {o m : Int} {e : Int × Int}, endF l r o m = some e → ∀ i ∈ r, 0 ≤ i ∧ i.toNat < l.length := by
  intro r
  induction r with
  | nil => intro o m e _ i hi; cases hi
  | cons j r ih =>
    intro o m e h i hi
    simp only [endF] at h
    by_cases h0 : 0 ≤ j
    · rw [if_pos h0] at h
      cases hx : l[j.toNat]? with
      | none => rw [hx] at h; simp at h
      | some x =>
        rw [hx] at h
        dsimp only at h
        by_cases hc : x.from_ = o ∧ m ≤ x.leave
        · rw [if_pos hc] at h
          rcases List.mem_cons.1 hi with rfl | hi
          · exact ⟨h0, (List.getElem?_eq_some_iff.1 hx).1⟩
          · exact ih h i hi
        · rw [if_neg hc] at h; simp at h
    · rw [if_neg h0] at h; simp at h
theorem contains_eq {ms : List Mail} {office : Int} {r : List Int} (hr : ∀ i ∈ r, 0 ≤ i ∧ i.toNat < ms.length) : GxSlicesContainsFuncIntIntiCoversVia1.P r ms office = some (r.any (viaR ms office)) := by
  simp only [GxSlicesContainsFuncIntIntiCoversVia1.P, GxSlicesIndexFuncIntIntiCoversVia1.P]
  rw [find_loop (p := viaR ms office) (yes := fun i => some (i : Int))]
  · have := any_find (viaR ms office) r
    unfold firstI at this
    cases hf : r.findIdx? (viaR ms office) with
    | none => rw [hf] at this; simp only [GxSlicesIndexFuncIntIntiCoversVia1.e0, Option.bind_some, letK]; rw [← this]
    | some i => rw [hf] at this; simp only [Option.bind_some, letK]; rw [← this]
  · intro k nx x hx
    have hi : idx r (k : Int) = some x := by rw [idx_nat, hx]
    obtain ⟨h0, h1⟩ := hr x (List.mem_of_getElem? hx)
    have hy : ms[x.toNat]? = some ms[x.toNat] := List.getElem?_eq_getElem h1
    have hj : idx ms x = some ms[x.toNat] := by unfold idx; rw [if_pos h0, hy]
    simp only [GxSlicesIndexFuncIntIntiCoversVia1.l0, hi, Option.bind_some, GiCoversVia1.P, hj, unMail, letK, appK, iteK_if, viaR, hy]
    by_cases hq : ms[x.toNat].to_ = office <;> simp [hq]
theorem spec_any {ms : List Mail} {office : Int} {r : List Int} {R : Type} {fin : Bool → Option R} {f : Nat → Bool → (Bool → Option R) → (Bool → Option R) → Option R} (hr : ∀ i ∈ r, 0 ≤ i ∧ i.toNat < ms.length)
    (hf : ∀ k s nx i y, r[k]? = some i → ms[i.toNat]? = some y → 0 ≤ i → f k s nx fin = nx (s || decide (y.to_ = office))) : cntK f r.length 0 false fin = fin (r.any (viaR ms office)) := by
  cases hv : fin (r.any (viaR ms office)) with
  | none =>
    have key : ∀ m k s, k + m = r.length → s = (r.take k).any (viaR ms office) → cntK f m k s fin = none := by
      intro m
      induction m with
      | zero => intro k s hk hs; show fin s = none; rw [hs, List.take_of_length_le (by omega)]; exact hv
      | succ m ih =>
        intro k s hk hs
        obtain ⟨i, hi, _⟩ := at_lt (l := r) (k := k) (by omega)
        obtain ⟨h0, h1⟩ := hr i (List.mem_of_getElem? hi)
        have hy : ms[i.toNat]? = some ms[i.toNat] := List.getElem?_eq_getElem h1
        show f k s _ fin = none
        rw [hf k s _ i _ hi hy h0]
        refine ih (k + 1) _ (by omega) ?_
        rw [hs, take_next hi, List.any_append]
        simp [viaR, hy]
    exact key r.length 0 false (by omega) (by simp)
  | some v =>
    refine cnt_is v (fun k s => s = (r.take k).any (viaR ms office)) ?_ ?_ _ (by simp)
    · intro k s nx hk hs hn
      obtain ⟨i, hi, _⟩ := at_lt (l := r) (k := k) hk
      obtain ⟨h0, h1⟩ := hr i (List.mem_of_getElem? hi)
      have hy : ms[i.toNat]? = some ms[i.toNat] := List.getElem?_eq_getElem h1
      rw [hf k s _ i _ hi hy h0]
      refine hn _ ?_
      rw [hs, take_next hi, List.any_append]
      simp [viaR, hy]
    · intro s hs
      rw [hs, List.take_length]; exact hv
theorem via_spec_one {fuel : Nat} {ms : List Mail} {office : Int} (hl : ms.length ≤ 9223372036854775807) {x : Cover} (hm : goodM ms = true) (hx : okC x = true) (hf : 10000 < fuel) :
    ∃ r ok, GsL10Route.P fuel ms x = some (r, ok) ∧ GiRouteOn.P fuel ms x = some (r, ok) ∧ (∀ i ∈ r, 0 ≤ i ∧ i.toNat < ms.length) := by
  obtain ⟨r, ok, r1, r2, r3, r4, r5⟩ := route_l10 (fuel := fuel) hl hm hx hf
  obtain ⟨r', ok', s1, s2, s3, s4, s5, s6⟩ := route_both (fuel := fuel) hl x hf
  have hok : ok' = ok := by rw [r3, s4, hm, hx]; rfl
  subst hok
  cases ok' with
  | false => rw [r5 rfl] at r1; rw [s6 rfl] at s1; exact ⟨[], false, r1, s1, by simp⟩
  | true =>
    obtain ⟨q1, q2⟩ := r4 rfl
    refine ⟨r, true, r1, ?_, endF_in q2⟩
    have e1 := l10One_eq x
    have : GsRouteOn.P fuel ms x = some (r, true) := by
      obtain ⟨a, b, c, d, e, f, g, h, i⟩ := x
      simp only [GsRouteOn.P, unCover, l9Good_eq ms hl, e1, hm, hx, r1, Option.bind_some, letK, joinK, appK, iteK_if, bind2_some, Bool.not_true, Bool.false_eq_true, if_false]
    rw [this] at s2
    obtain ⟨rfl, -⟩ := Prod.mk.inj (Option.some.inj s2)
    exact s1
def viaB (fuel : Nat) (ms : List Mail) (office : Int) (x : Cover) : Bool := match GiRouteOn.P fuel ms x with | none => false | some (r, _) => r.any (viaR ms office)
def viaRes (fuel : Nat) (ms : List Mail) (l : List Cover) (office : Int) : List Int × Bool := if (goodM ms && okCs l && inB office 0 9) = true then ((l.filter (viaB fuel ms office)).map Cover.id, true) else ([], false)
theorem via_impl {fuel : Nat} (ms : List Mail) (l : List Cover) (office : Int) (hl : ms.length ≤ 9223372036854775807) (hf : 10000 < fuel) : GiCoversVia.P fuel ms l office = some (viaRes fuel ms l office) := by
  have e3 := isTime_eq ms hl
  have e5 := areCovers_eq l
  have e6 := isOffice_eq office
  cases ha : goodM ms with
  | false => rw [ha] at e3; simp [GiCoversVia.P, e3, letK, joinK, appK, iteK_if, viaRes, ha]
  | true =>
    rw [ha] at e3
    cases hc : okCs l with
    | false => rw [hc] at e5; simp [GiCoversVia.P, e3, e5, letK, joinK, appK, iteK_if, viaRes, ha, hc]
    | true =>
      rw [hc] at e5
      cases ho : inB office 0 9 with
      | false => rw [ho] at e6; simp [GiCoversVia.P, e3, e5, e6, letK, joinK, appK, iteK_if, viaRes, ha, hc, ho]
      | true =>
        rw [ho] at e6
        have hlen := cs_len hc
        simp only [GiCoversVia.P, e3, e5, e6, Option.bind_some, letK, joinK, appK, iteK_if, viaRes, ha, hc, ho, Bool.not_true, Bool.false_eq_true, if_false, Bool.and_self, if_true, GiKeysWhereCoverIntiIdOfCoveriCoversVia2.P]
        rw [gather (p := viaB fuel ms office) (g := Cover.id) (by omega)]
        · simp [GiKeysWhereCoverIntiIdOfCoveriCoversVia2.e0, letK]
        · intro k nx x s hx hs
          have hi : idx l (k : Int) = some x := by rw [idx_nat, hx]
          obtain ⟨r, ok, _, h2, h3⟩ := via_spec_one (fuel := fuel) (office := office) hl ha (cs_mem hc (List.mem_of_getElem? hx)) hf
          have hv : viaB fuel ms office x = r.any (viaR ms office) := by unfold viaB; rw [h2]
          have h4 := contains_eq (office := office) h3
          obtain ⟨a, b, c, d, e, f, g, h, i⟩ := x
          simp only [GiKeysWhereCoverIntiIdOfCoveriCoversVia2.l0, hi, Option.bind_some, unCover, GiCoversVia2iCoversVia1.P, h2, h4, bind2_some, GiIdOfCover.P, letK, joinK, appK, iteK_if, hv]
          (rw [guardK_pos hs]) <;> (cases r.any (viaR ms office) <;> simp)
theorem via_spec {fuel : Nat} (ms : List Mail) (l : List Cover) (office : Int) (hl : ms.length ≤ 9223372036854775807) (hl2 : l.length ≤ 9223372036854775807) (hf : 10000 < fuel) : GsCoversVia.P fuel ms l office = some (viaRes fuel ms l office) := by
  have e3 := l9Good_eq ms hl
  have e5 := l10Good_eq l hl2
  have e6 := l9Office_eq office
  cases ha : goodM ms with
  | false => rw [ha] at e3; simp [GsCoversVia.P, e3, letK, joinK, appK, iteK_if, viaRes, ha]
  | true =>
    rw [ha] at e3
    cases hc : okCs l with
    | false => rw [hc] at e5; simp [GsCoversVia.P, e3, e5, letK, joinK, appK, iteK_if, viaRes, ha, hc]
    | true =>
      rw [hc] at e5
      cases ho : inB office 0 9 with
      | false => rw [ho] at e6; simp [GsCoversVia.P, e3, e5, e6, letK, joinK, appK, iteK_if, viaRes, ha, hc, ho]
      | true =>
        rw [ho] at e6
        have hlen := cs_len hc
        simp only [GsCoversVia.P, e3, e5, e6, Option.bind_some, letK, joinK, appK, iteK_if, viaRes, ha, hc, ho, Bool.not_true, Bool.false_eq_true, if_false, Bool.and_self, if_true]
        rw [gather (p := viaB fuel ms office) (g := Cover.id) (by omega)]
        · simp [GsCoversVia.e0, letK]
        · intro k nx x s hx hs
          have hi : idx l (k : Int) = some x := by rw [idx_nat, hx]
          obtain ⟨r, ok, h1, h2, h3⟩ := via_spec_one (fuel := fuel) (office := office) hl ha (cs_mem hc (List.mem_of_getElem? hx)) hf
          have hv : viaB fuel ms office x = r.any (viaR ms office) := by unfold viaB; rw [h2]
          have h4 : cntK (GsCoversVia.l1 ms office r) r.length 0 false (GsCoversVia.e1 l nx s k) = GsCoversVia.e1 l nx s k (r.any (viaR ms office)) := by
            refine spec_any h3 ?_
            intro q t nx2 j y hj hy h0
            have hjj : idx r (q : Int) = some j := by rw [idx_nat, hj]
            have hyy : idx ms j = some y := by unfold idx; rw [if_pos h0, hy]
            simp only [GsCoversVia.l1, hjj, hyy, Option.bind_some, unMail, letK, joinK, appK, iteK_if]
            cases t
            · simp only [Bool.false_eq_true, if_false, Bool.false_or]; rfl
            · simp
          obtain ⟨a, b, c, d, e, f, g, h, i⟩ := x
          simp only [GsCoversVia.l0, hi, Option.bind_some, unCover, h1, bind2_some, letK, h4]
          simp only [GsCoversVia.e1, hi, Option.bind_some, unCover, letK, appK, iteK_if, hv]
          (rw [guardK_pos hs]) <;> (cases r.any (viaR ms office) <;> simp)
end Go.Proofs.Ytgbcdmlcmnaimaa.Q10Via

namespace Go.Proofs.Ytgbcdmlcmnaimaa.Q10ViaMore
open Go.RowKit
open Go.Proofs.Ytgbcdmlcmnaimaa.GoP Go.Proofs.Ytgbcdmlcmnaimaa.PlainStamp Go.Proofs.Ytgbcdmlcmnaimaa.QBase Go.Proofs.Ytgbcdmlcmnaimaa.Q10Via Go.Proofs.Ytgbcdmlcmnaimaa.Q10Route Go.Proofs.Ytgbcdmlcmnaimaa.Q10Fault Go.Proofs.Ytgbcdmlcmnaimaa.Q10Cover Go.Proofs.Ytgbcdmlcmnaimaa.Q9List Go.Proofs.Ytgbcdmlcmnaimaa.Q9End Go.Proofs.Ytgbcdmlcmnaimaa.Q9Mail Go.Proofs.Ytgbcdmlcmnaimaa.QUp Go.Proofs.Ytgbcdmlcmnaimaa.QLoop Go.Proofs.Ytgbcdmlcmnaimaa.PCover Go.Proofs.Ytgbcdmlcmnaimaa.PRate Go.Proofs.Ytgbcdmlcmnaimaa.PMail

theorem end_in {ms : List Mail} : ∀ {r : List Int} {o m a e : Int}, endF ms r o m = some (a, e) → (r = [] ∧ a = o) ∨ ∃ i ∈ r, viaR ms a i = true := by
  intro r
  induction r with
  | nil =>
    intro o m a e h
    simp only [endF, Option.some.injEq, Prod.mk.injEq] at h
    exact .inl ⟨rfl, h.1.symm⟩
  | cons i r ih =>
    intro o m a e h
    simp only [endF] at h
    by_cases h0 : 0 ≤ i
    · rw [if_pos h0] at h
      cases hx : ms[i.toNat]? with
      | none => rw [hx] at h; simp at h
      | some x =>
        rw [hx] at h
        dsimp only at h
        by_cases hc : x.from_ = o ∧ m ≤ x.leave
        · rw [if_pos hc] at h
          rcases ih h with ⟨rfl, ha⟩ | ⟨j, hj, hv⟩
          · exact .inr ⟨i, by simp, by unfold viaR; rw [hx]; simp [ha]⟩
          · exact .inr ⟨j, List.mem_cons_of_mem _ hj, hv⟩
        · rw [if_neg hc] at h; simp at h
    · rw [if_neg h0] at h; simp at h
theorem id_one {l : List Cover} (h : okCs l = true) {x y : Cover} (hx : x ∈ l) (hy : y ∈ l) (he : x.id = y.id) : x = y := by
  have hu : upTo okC Cover.id l l.length = true := by unfold okCs upL at h; simp only [Bool.and_eq_true] at h; exact h.2
  obtain ⟨i, hi⟩ := List.getElem?_of_mem hx
  obtain ⟨j, hj⟩ := List.getElem?_of_mem hy
  rcases Nat.lt_trichotomy i j with hlt | heq | hgt
  · have := up_less hu hlt hi hj; omega
  · subst heq; rw [hi] at hj; exact Option.some.inj hj
  · have := up_less hu hgt hj hi; omega
theorem via_mem {fuel : Nat} {ms : List Mail} {l : List Cover} {office : Int} (h : okCs l = true) {x : Cover} (hx : x ∈ l) : x.id ∈ (l.filter (viaB fuel ms office)).map Cover.id ↔ viaB fuel ms office x = true := by
  constructor
  · intro hm
    obtain ⟨y, hy, he⟩ := List.mem_map.1 hm
    obtain ⟨hy1, hy2⟩ := List.mem_filter.1 hy
    rw [← id_one h hy1 hx he]; exact hy2
  · intro hv
    exact List.mem_map.2 ⟨x, List.mem_filter.2 ⟨hx, hv⟩, rfl⟩
end Go.Proofs.Ytgbcdmlcmnaimaa.Q10ViaMore

namespace Go.Proofs.Ytgbcdmlcmnaimaa.Q10Counts
open Go.RowKit
open Go.Proofs.Ytgbcdmlcmnaimaa.GoP Go.Proofs.Ytgbcdmlcmnaimaa.PlainStamp Go.Proofs.Ytgbcdmlcmnaimaa.QBase Go.Proofs.Ytgbcdmlcmnaimaa.Q10FaultOf Go.Proofs.Ytgbcdmlcmnaimaa.Q10Fault Go.Proofs.Ytgbcdmlcmnaimaa.Q10Cover Go.Proofs.Ytgbcdmlcmnaimaa.Q8For Go.Proofs.Ytgbcdmlcmnaimaa.Q8List Go.Proofs.Ytgbcdmlcmnaimaa.Q9List Go.Proofs.Ytgbcdmlcmnaimaa.Q9Arr Go.Proofs.Ytgbcdmlcmnaimaa.QFoldS Go.Proofs.Ytgbcdmlcmnaimaa.QLoop Go.Proofs.Ytgbcdmlcmnaimaa.PCover Go.Proofs.Ytgbcdmlcmnaimaa.PRate Go.Proofs.Ytgbcdmlcmnaimaa.PMail Go.Proofs.Ytgbcdmlcmnaimaa.PIntA6 Go.Proofs.Ytgbcdmlcmnaimaa.GoA

theorem idx6 {s : List Int} {i : Int} (hs : s.length = 6) (hi : 0 ≤ i ∧ i ≤ 5) : idx s i = some (at_ s i) := by
  unfold idx at_; rw [if_pos hi.1, List.getD_eq_getElem?_getD, List.getElem?_eq_getElem (show i.toNat < s.length by omega)]; rfl
def stepC (rs : List Rate) (ms : List Mail) (s : List Int) (x : Cover) : List Int := s.set (faultV rs ms x).toNat (IntKind.i64.wrap (at_ s (faultV rs ms x) + 1))
def to6 (s : List Int) : IntA6 := IntA6.mk (nth s 0) (nth s 1) (nth s 2) (nth s 3) (nth s 4) (nth s 5)
def countRes (rs : List Rate) (ms : List Mail) (l : List Cover) : IntA6 × Bool := if (askB rs ms && okCs l) = true then (to6 (l.foldl (stepC rs ms) [0, 0, 0, 0, 0, 0]), true) else (to6 [0, 0, 0, 0, 0, 0], false)
theorem counts_impl (rs : List Rate) (ms : List Mail) (l : List Cover) (hr : rs.length ≤ 9223372036854775807) (hm : ms.length ≤ 9223372036854775807) : GiFaultCounts.P rs ms l = some (countRes rs ms l) := by
  have e3 := can_eq rs ms hr hm
  have e5 := areCovers_eq l
  cases ha : askB rs ms with
  | false => rw [ha] at e3; simp [GiFaultCounts.P, e3, letK, joinK, appK, iteK_if, countRes, ha, to6]
  | true =>
    rw [ha] at e3
    cases hc : okCs l with
    | false => rw [hc] at e5; simp [GiFaultCounts.P, e3, e5, letK, joinK, appK, iteK_if, countRes, ha, hc, to6]
    | true =>
      rw [hc] at e5
      simp only [GiFaultCounts.P, e3, e5, Option.bind_some, letK, joinK, appK, iteK_if, countRes, ha, hc, Bool.not_true, Bool.false_eq_true, if_false, Bool.and_self, if_true]
      rw [fold_cnt (g := stepC rs ms) (J := fun s => s.length = 6)]
      · rfl
      · intro k x s nx hx hs
        have hi : idx l (k : Int) = some x := by rw [idx_nat, hx]
        have hf := fault_impl (ask_of ha).1 (ask_of ha).2 (cs_mem hc (List.mem_of_getElem? hx))
        have h6 := idx6 hs (fault_range rs ms x)
        refine ⟨?_, by unfold stepC; rw [List.length_set, hs]⟩
        obtain ⟨a, b, c, d, e, f, g, h, i⟩ := x
        simp only [GiFaultCounts.l0, hi, Option.bind_some, unCover, hf, h6, letK, appK, stepC]
      · rfl
theorem counts_spec {fuel : Nat} (rs : List Rate) (ms : List Mail) (l : List Cover) (hr : rs.length ≤ 9223372036854775807) (hm : ms.length ≤ 9223372036854775807) (hl : l.length ≤ 9223372036854775807) (hf : 17 < fuel) : GsFaultCounts.P fuel rs ms l = some (countRes rs ms l) := by
  have e3 := l8Good_eq (fuel := fuel) rs hr hf
  have e4 := l9Good_eq ms hm
  have e5 := l10Good_eq l hl
  cases ha : okRs rs with
  | false => rw [ha] at e3; simp [GsFaultCounts.P, e3, letK, joinK, appK, iteK_if, countRes, askB, ha, to6]
  | true =>
    rw [ha] at e3
    cases hb : goodM ms with
    | false => rw [hb] at e4; simp [GsFaultCounts.P, e3, e4, letK, joinK, appK, iteK_if, countRes, askB, ha, hb, to6]
    | true =>
      rw [hb] at e4
      cases hc : okCs l with
      | false => rw [hc] at e5; simp [GsFaultCounts.P, e3, e4, e5, letK, joinK, appK, iteK_if, countRes, askB, ha, hb, hc, to6]
      | true =>
        rw [hc] at e5
        simp only [GsFaultCounts.P, e3, e4, e5, Option.bind_some, letK, joinK, appK, iteK_if, countRes, askB, ha, hb, hc, Bool.not_true, Bool.false_eq_true, if_false, Bool.and_self, if_true]
        rw [fold_cnt (g := stepC rs ms) (J := fun s => s.length = 6)]
        · rfl
        · intro k x s nx hx hs
          have hi : idx l (k : Int) = some x := by rw [idx_nat, hx]
          have hf := fault_spec ha hb (cs_mem hc (List.mem_of_getElem? hx))
          have h6 := idx6 hs (fault_range rs ms x)
          refine ⟨?_, by unfold stepC; rw [List.length_set, hs]⟩
          obtain ⟨a, b, c, d, e, f, g, h, i⟩ := x
          simp only [GsFaultCounts.l0, hi, Option.bind_some, unCover, hf, h6, letK, appK, stepC]
        · rfl
end Go.Proofs.Ytgbcdmlcmnaimaa.Q10Counts

namespace Go.Proofs.Ytgbcdmlcmnaimaa.Q10True
open Go.RowKit
open Go.Proofs.Ytgbcdmlcmnaimaa.GoP Go.Proofs.Ytgbcdmlcmnaimaa.PlainStamp Go.Proofs.Ytgbcdmlcmnaimaa.QBase Go.Proofs.Ytgbcdmlcmnaimaa.Q10FaultOf Go.Proofs.Ytgbcdmlcmnaimaa.Q10Fault Go.Proofs.Ytgbcdmlcmnaimaa.Q10Cover Go.Proofs.Ytgbcdmlcmnaimaa.Q8For Go.Proofs.Ytgbcdmlcmnaimaa.Q8List Go.Proofs.Ytgbcdmlcmnaimaa.Q9List Go.Proofs.Ytgbcdmlcmnaimaa.QGath Go.Proofs.Ytgbcdmlcmnaimaa.QLoop Go.Proofs.Ytgbcdmlcmnaimaa.PCover Go.Proofs.Ytgbcdmlcmnaimaa.PRate Go.Proofs.Ytgbcdmlcmnaimaa.PMail

def trueB (rs : List Rate) (ms : List Mail) (x : Cover) : Bool := decide (faultV rs ms x = 0)
def trueRes (rs : List Rate) (ms : List Mail) (l : List Cover) : List Int × Bool := if (askB rs ms && okCs l) = true then ((l.filter (trueB rs ms)).map Cover.id, true) else ([], false)
theorem true_impl (rs : List Rate) (ms : List Mail) (l : List Cover) (hr : rs.length ≤ 9223372036854775807) (hm : ms.length ≤ 9223372036854775807) : GiTrueCovers.P rs ms l = some (trueRes rs ms l) := by
  simp only [GiTrueCovers.P, can_eq rs ms hr hm, areCovers_eq, Option.bind_some, letK, joinK, appK, iteK_if, trueRes]
  cases ha : askB rs ms with
  | false => simp
  | true =>
    cases hc : okCs l with
    | false => simp
    | true =>
      have hlen := cs_len hc
      simp only [Bool.not_true, Bool.false_eq_true, if_false, Bool.and_self, if_true, GiKeysWhereCoverIntiIdOfCoveriTrueCovers1.P, letK]
      rw [gather (p := trueB rs ms) (g := Cover.id) (by omega)]
      · simp [GiKeysWhereCoverIntiIdOfCoveriTrueCovers1.e0, letK]
      · intro k nx x s hx hs
        have hi : idx l (k : Int) = some x := by rw [idx_nat, hx]
        have hf := fault_impl (ask_of ha).1 (ask_of ha).2 (cs_mem hc (List.mem_of_getElem? hx))
        obtain ⟨a, b, c, d, e, f, g, h, i⟩ := x
        simp only [GiKeysWhereCoverIntiIdOfCoveriTrueCovers1.l0, hi, Option.bind_some, unCover, GiTrueCovers1.P, hf, GiIdOfCover.P, letK, joinK, appK, iteK_if, trueB]
        rw [guardK_pos hs]
        by_cases h0 : faultV rs ms ⟨a, b, c, d, e, f, g, h, i⟩ = 0 <;> simp [h0]
theorem true_spec {fuel : Nat} (rs : List Rate) (ms : List Mail) (l : List Cover) (hr : rs.length ≤ 9223372036854775807) (hm : ms.length ≤ 9223372036854775807) (hl : l.length ≤ 9223372036854775807) (hf : 17 < fuel) : GsTrueCovers.P fuel rs ms l = some (trueRes rs ms l) := by
  have e3 := l8Good_eq (fuel := fuel) rs hr hf
  have e4 := l9Good_eq ms hm
  have e5 := l10Good_eq l hl
  cases ha : okRs rs with
  | false => rw [ha] at e3; simp [GsTrueCovers.P, e3, letK, joinK, appK, iteK_if, trueRes, askB, ha]
  | true =>
    rw [ha] at e3
    cases hb : goodM ms with
    | false => rw [hb] at e4; simp [GsTrueCovers.P, e3, e4, letK, joinK, appK, iteK_if, trueRes, askB, ha, hb]
    | true =>
      rw [hb] at e4
      cases hc : okCs l with
      | false => rw [hc] at e5; simp [GsTrueCovers.P, e3, e4, e5, letK, joinK, appK, iteK_if, trueRes, askB, ha, hb, hc]
      | true =>
        rw [hc] at e5
        have hlen := cs_len hc
        simp only [GsTrueCovers.P, e3, e4, e5, Option.bind_some, letK, joinK, appK, iteK_if, trueRes, askB, ha, hb, hc, Bool.not_true, Bool.false_eq_true, if_false, Bool.and_self, if_true]
        rw [gather (p := trueB rs ms) (g := Cover.id) (by omega)]
        · simp [GsTrueCovers.e0, letK]
        · intro k nx x s hx hs
          have hi : idx l (k : Int) = some x := by rw [idx_nat, hx]
          have hf := fault_spec ha hb (cs_mem hc (List.mem_of_getElem? hx))
          obtain ⟨a, b, c, d, e, f, g, h, i⟩ := x
          simp only [GsTrueCovers.l0, hi, Option.bind_some, unCover, hf, letK, joinK, appK, iteK_if, trueB]
          rw [guardK_pos hs]
          by_cases h0 : faultV rs ms ⟨a, b, c, d, e, f, g, h, i⟩ = 0 <;> simp [h0]
end Go.Proofs.Ytgbcdmlcmnaimaa.Q10True

namespace Go.Proofs.Ytgbcdmlcmnaimaa.Q10CountsMore
open Go.RowKit
open Go.Proofs.Ytgbcdmlcmnaimaa.GoP Go.Proofs.Ytgbcdmlcmnaimaa.PlainStamp Go.Proofs.Ytgbcdmlcmnaimaa.QBase Go.Proofs.Ytgbcdmlcmnaimaa.Q10Counts Go.Proofs.Ytgbcdmlcmnaimaa.Q10True Go.Proofs.Ytgbcdmlcmnaimaa.Q10FaultOf Go.Proofs.Ytgbcdmlcmnaimaa.Q10Fault Go.Proofs.Ytgbcdmlcmnaimaa.Q10Cover Go.Proofs.Ytgbcdmlcmnaimaa.Q9Arr Go.Proofs.Ytgbcdmlcmnaimaa.QLoop Go.Proofs.Ytgbcdmlcmnaimaa.PCover Go.Proofs.Ytgbcdmlcmnaimaa.PRate Go.Proofs.Ytgbcdmlcmnaimaa.PMail

theorem set6 {s : List Int} {i j : Int} (hs : s.length = 6) (hi : 0 ≤ i ∧ i ≤ 5) (hj : 0 ≤ j ∧ j ≤ 5) (v : Int) : at_ (s.set i.toNat v) j = if j = i then v else at_ s j := by
  unfold at_
  rw [List.getD_eq_getElem?_getD, List.getD_eq_getElem?_getD, List.getElem?_set]
  by_cases h : j = i
  · subst h; rw [if_pos rfl, if_pos rfl, if_pos (by omega)]; rfl
  · rw [if_neg (by omega), if_neg h]
theorem step_len {rs : List Rate} {ms : List Mail} {s : List Int} {x : Cover} : (stepC rs ms s x).length = s.length := by unfold stepC; rw [List.length_set]
theorem fold_at {rs : List Rate} {ms : List Mail} {i : Int} (hi : 0 ≤ i ∧ i ≤ 5) : ∀ (l : List Cover) (s : List Int), s.length = 6 → (∀ j, 0 ≤ j ∧ j ≤ 5 → 0 ≤ at_ s j ∧ at_ s j + l.length ≤ 1000000) → at_ (l.foldl (stepC rs ms) s) i = at_ s i + ((l.filter fun x => decide (faultV rs ms x = i)).length : Int) := by
  intro l
  induction l with
  | nil => intro s _ _; simp
  | cons x l ih =>
    intro s hs hb
    have hf := fault_range rs ms x
    have hbf := hb _ hf
    have hw : IntKind.i64.wrap (at_ s (faultV rs ms x) + 1) = at_ s (faultV rs ms x) + 1 := by rw [wrap_in (by omega) (by omega)]
    have hat : ∀ j, 0 ≤ j ∧ j ≤ 5 → at_ (stepC rs ms s x) j = if j = faultV rs ms x then at_ s (faultV rs ms x) + 1 else at_ s j := by
      intro j hj; unfold stepC; rw [set6 hs hf hj, hw]
    rw [List.foldl_cons, ih _ (by rw [step_len, hs]) (fun j hj => by
      rw [hat j hj]
      have h1 := hb j hj
      rw [List.length_cons] at h1 hbf
      by_cases h : j = faultV rs ms x
      · rw [if_pos h]; omega
      · rw [if_neg h]; omega), hat i hi]
    by_cases h : i = faultV rs ms x
    · rw [if_pos h, List.filter_cons, if_pos (by simp [h]), List.length_cons, h]; push_cast; omega
    · rw [if_neg h, List.filter_cons, if_neg (by simp; omega)]
theorem fold_sum {rs : List Rate} {ms : List Mail} : ∀ (l : List Cover), (((l.filter fun x => decide (faultV rs ms x = 0)).length : Int) + ((l.filter fun x => decide (faultV rs ms x = 1)).length : Int) + ((l.filter fun x => decide (faultV rs ms x = 2)).length : Int) + ((l.filter fun x => decide (faultV rs ms x = 3)).length : Int) + ((l.filter fun x => decide (faultV rs ms x = 4)).length : Int) + ((l.filter fun x => decide (faultV rs ms x = 5)).length : Int)) = (l.length : Int) := by
  intro l
  induction l with
  | nil => simp
  | cons x l ih =>
    have hf := fault_range rs ms x
    simp only [List.filter_cons, decide_eq_true_eq, List.length_cons]
    rcases (show faultV rs ms x = 0 ∨ faultV rs ms x = 1 ∨ faultV rs ms x = 2 ∨ faultV rs ms x = 3 ∨ faultV rs ms x = 4 ∨ faultV rs ms x = 5 by omega) with h | h | h | h | h | h <;> simp only [h] <;> simp <;> omega
end Go.Proofs.Ytgbcdmlcmnaimaa.Q10CountsMore

namespace Go.Proofs.Ytgbcdmlcmnaimaa.QL10FnCoverLists
open Go.RowKit
open Go.Proofs.Ytgbcdmlcmnaimaa.GoP Go.Proofs.Ytgbcdmlcmnaimaa.PlainStamp Go.Proofs.Ytgbcdmlcmnaimaa.QBase Go.Proofs.Ytgbcdmlcmnaimaa.Q10ViaMore Go.Proofs.Ytgbcdmlcmnaimaa.Q10CountsMore Go.Proofs.Ytgbcdmlcmnaimaa.Q10DrawsF Go.Proofs.Ytgbcdmlcmnaimaa.QDraw Go.Proofs.Ytgbcdmlcmnaimaa.Q10Via Go.Proofs.Ytgbcdmlcmnaimaa.Q10Route Go.Proofs.Ytgbcdmlcmnaimaa.Q10Counts Go.Proofs.Ytgbcdmlcmnaimaa.Q10True Go.Proofs.Ytgbcdmlcmnaimaa.Q10FaultOf Go.Proofs.Ytgbcdmlcmnaimaa.Q10Fault Go.Proofs.Ytgbcdmlcmnaimaa.Q10Cover Go.Proofs.Ytgbcdmlcmnaimaa.Q8List Go.Proofs.Ytgbcdmlcmnaimaa.Q9End Go.Proofs.Ytgbcdmlcmnaimaa.Q9Arr Go.Proofs.Ytgbcdmlcmnaimaa.Q9List Go.Proofs.Ytgbcdmlcmnaimaa.QVInts Go.Proofs.Ytgbcdmlcmnaimaa.QLoop Go.Proofs.Ytgbcdmlcmnaimaa.PCover Go.Proofs.Ytgbcdmlcmnaimaa.PRate Go.Proofs.Ytgbcdmlcmnaimaa.PMail Go.Proofs.Ytgbcdmlcmnaimaa.PIntA6 Go.Proofs.Ytgbcdmlcmnaimaa.GoA

theorem q2_yes {tapes : List Int → GoC.Tape} (ht : GoC.Tells tapes) (code : List Int) (fuel : Nat) (hf : 1048577 ≤ fuel) : ∀ z1 z2 z3 z4 z5 z6 z7 z8 z9 z10 z11 z12 z13 z14 z15 z16 z17 z18 z19 z20 z21 z22 z23 z24 z25, GlFnCoverLists.q2 code fuel tapes z1 z2 z3 z4 z5 z6 z7 z8 z9 z10 z11 z12 z13 z14 z15 z16 z17 z18 z19 z20 z21 z22 z23 z24 z25 () = some true := by
  intro z1 z2 z3 z4 z5 z6 z7 z8 z9 z10 z11 z12 z13 z14 z15 z16 z17 z18 z19 z20 z21 z22 z23 z24 z25
  obtain ⟨ms, l, o, e, hm, hl⟩ := drawVia_ok ht code fuel hf
  have i1 := via_impl (fuel := fuel) ms l o (by omega) (by omega)
  have i2 := via_spec (fuel := fuel) ms l o (by omega) (by omega) (by omega)
  by_cases hc : (goodM ms && okCs l && inB o 0 9) = true
  · have r1 : viaRes fuel ms l o = ((l.filter (viaB fuel ms o)).map Cover.id, true) := by unfold viaRes; rw [if_pos hc]
    rw [r1] at i1 i2
    have hC : okCs l = true := by simp only [Bool.and_eq_true] at hc; exact hc.1.2
    obtain ⟨v, hv⟩ : ∃ v, v = (l.filter (viaB fuel ms o)).map Cover.id := ⟨_, rfl⟩
    rw [← hv] at i1 i2
    have hloop : ∀ fin : Unit → Option Bool, fin () = some true → cntK (GlFnCoverLists.l1 fuel ms l o v) l.length 0 () fin = some true := by
      intro fin hfin
      refine cnt_is true (fun _ _ => True) ?_ (fun s _ => hfin) () trivial
      rintro k ⟨⟩ nx hk _ hn
      obtain ⟨x, hx, hi⟩ := at_lt (l := l) (k := k) hk
      have hmem := List.mem_of_getElem? hx
      have ho := okC_of (cs_mem hC hmem)
      obtain ⟨r, ok, j1, _, _, hok, hend, hnil⟩ := route_both (fuel := fuel) (ms := ms) (by omega) x (by omega)
      have hb : viaB fuel ms o x = r.any (viaR ms o) := by unfold viaB; rw [j1]
      have hiff := via_mem (fuel := fuel) (ms := ms) (office := o) hC hmem
      rw [← hv, hb] at hiff
      have hnx := hn () trivial
      cases ok with
      | false =>
        have hno : ¬ x.id ∈ v := by rw [hiff, hnil rfl]; simp
        obtain ⟨x0, x1, x2, x3, x4, x5, x6, x7, x8⟩ := x
        simp [GlFnCoverLists.l1, GlFnCoverLists.q6, hi, unCover, j1, bind2, vHas_no hno, letK, joinK, appK, iteK_if, hnx]
      | true =>
        by_cases hto : x.to_ = o
        · have hyes : x.id ∈ v := by
            rw [hiff]
            rcases end_in (hend rfl) with ⟨_, h2⟩ | ⟨i, hi2, hv2⟩
            · exact absurd h2.symm ho.2.2.2.2.2.1
            · rw [hto] at hv2; exact List.any_eq_true.2 ⟨i, hi2, hv2⟩
          obtain ⟨x0, x1, x2, x3, x4, x5, x6, x7, x8⟩ := x
          dsimp only at hto
          rw [hto] at j1
          simp [GlFnCoverLists.l1, GlFnCoverLists.q6, hi, unCover, j1, bind2, vHas_yes hyes, hto, letK, joinK, appK, iteK_if, hnx]
        · obtain ⟨x0, x1, x2, x3, x4, x5, x6, x7, x8⟩ := x
          dsimp only at hto
          simp [GlFnCoverLists.l1, GlFnCoverLists.q6, hi, unCover, j1, bind2, hto, letK, joinK, appK, iteK_if, hnx]
    simp only [GlFnCoverLists.q2, e, bind3, i1, i2, bind2, letK, joinK, appK, iteK_if, vInts_self, Option.bind_some]
    simp [GlFnCoverLists.q4, letK, iteK_if]
    exact hloop _ rfl
  · have r1 : viaRes fuel ms l o = ([], false) := by unfold viaRes; rw [if_neg hc]
    rw [r1] at i1 i2
    simp [GlFnCoverLists.q2, GlFnCoverLists.q4, GlFnCoverLists.j5, e, bind3, i1, i2, bind2, letK, joinK, appK, iteK_if, vInts_self]
theorem nth6_0 (a b c d e f : Int) : nth [a, b, c, d, e, f] 0 = a := rfl
theorem nth6_1 (a b c d e f : Int) : nth [a, b, c, d, e, f] 1 = b := rfl
theorem nth6_2 (a b c d e f : Int) : nth [a, b, c, d, e, f] 2 = c := rfl
theorem nth6_3 (a b c d e f : Int) : nth [a, b, c, d, e, f] 3 = d := rfl
theorem nth6_4 (a b c d e f : Int) : nth [a, b, c, d, e, f] 4 = e := rfl
theorem nth6_5 (a b c d e f : Int) : nth [a, b, c, d, e, f] 5 = f := rfl
theorem law_lists {fuel : Nat} {tapes : List Int → GoC.Tape} (ht : GoC.Tells tapes) (code : List Int) (hf : 1048577 ≤ fuel) : GlFnCoverLists.P fuel tapes code = some true := by
  simp only [GlFnCoverLists.P, GlVBig.P, Option.bind_some, letK, iteK_if]
  by_cases hb : (65536 : Int) < (code.length : Int)
  · rw [if_pos (by simpa using hb)]
  · rw [if_neg (by simpa using hb)]
    obtain ⟨rs, ms, l, e, hr, hm, hl⟩ := drawTrue_ok ht code fuel hf
    have h2 := q2_yes ht code fuel hf
    have i1 := true_impl rs ms l (by omega) (by omega)
    have i2 := true_spec (fuel := fuel) rs ms l (by omega) (by omega) (by omega) (by omega)
    have i3 := areCovers_eq l
    have i4 : GsAreCovers.P l = some (okCs l) := by simp only [GsAreCovers.P, l10Good_eq l (show l.length ≤ 9223372036854775807 by omega), Option.bind_some]
    have i5 := counts_impl rs ms l (by omega) (by omega)
    have i6 := counts_spec (fuel := fuel) rs ms l (by omega) (by omega) (by omega) (by omega)
    by_cases hc : (askB rs ms && okCs l) = true
    · have r1 : trueRes rs ms l = ((l.filter (trueB rs ms)).map Cover.id, true) := by unfold trueRes; rw [if_pos hc]
      have r2 : countRes rs ms l = (to6 (l.foldl (stepC rs ms) [0, 0, 0, 0, 0, 0]), true) := by unfold countRes; rw [if_pos hc]
      rw [r1] at i1 i2
      rw [r2] at i5 i6
      have hz : ∀ j : Int, 0 ≤ j ∧ j ≤ 5 → at_ [0, 0, 0, 0, 0, 0] j = 0 := by
        intro j hj
        obtain ⟨k, rfl⟩ : ∃ k : Nat, j = (k : Int) := ⟨j.toNat, by omega⟩
        have hk : k < 6 := by omega
        rcases k with _ | _ | _ | _ | _ | _ | k <;> first | rfl | omega
      have hat := fun (i : Int) (hi : 0 ≤ i ∧ i ≤ 5) => fold_at (rs := rs) (ms := ms) hi l [0, 0, 0, 0, 0, 0] rfl (fun j hj => by rw [hz j hj]; omega)
      have hsum := fold_sum (rs := rs) (ms := ms) l
      have c0 := hat 0 (by omega); have c1 := hat 1 (by omega); have c2 := hat 2 (by omega); have c3 := hat 3 (by omega); have c4 := hat 4 (by omega); have c5 := hat 5 (by omega)
      rw [hz _ (by omega)] at c0 c1 c2 c3 c4 c5
      obtain ⟨s, hs⟩ : ∃ s, s = l.foldl (stepC rs ms) [0, 0, 0, 0, 0, 0] := ⟨_, rfl⟩
      rw [← hs] at c0 c1 c2 c3 c4 c5 i5 i6
      have hlen : (((l.filter (trueB rs ms)).map Cover.id).length : Int) = nth s 0 := by
        rw [List.length_map]
        have : nth s 0 = at_ s 0 := rfl
        rw [this, c0]; simp; rfl
      obtain ⟨ids, hids⟩ : ∃ ids, ids = (l.filter (trueB rs ms)).map Cover.id := ⟨_, rfl⟩
      rw [← hids] at hlen i1 i2
      have d0 : nth s 0 = at_ s 0 := rfl
      have d1 : nth s 1 = at_ s 1 := rfl
      have d2 : nth s 2 = at_ s 2 := rfl
      have d3 : nth s 3 = at_ s 3 := rfl
      have d4 : nth s 4 = at_ s 4 := rfl
      have d5 : nth s 5 = at_ s 5 := rfl
      have hl0 : cntK (GlFnCoverLists.l0 [nth s 0, nth s 1, nth s 2, nth s 3, nth s 4, nth s 5]) 6 0 0 = fun fin => fin (l.length : Int) := by
        funext fin
        obtain ⟨n0, hn0⟩ : ∃ n, n = nth s 0 := ⟨_, rfl⟩
        obtain ⟨n1, hn1⟩ : ∃ n, n = nth s 1 := ⟨_, rfl⟩
        obtain ⟨n2, hn2⟩ : ∃ n, n = nth s 2 := ⟨_, rfl⟩
        obtain ⟨n3, hn3⟩ : ∃ n, n = nth s 3 := ⟨_, rfl⟩
        obtain ⟨n4, hn4⟩ : ∃ n, n = nth s 4 := ⟨_, rfl⟩
        obtain ⟨n5, hn5⟩ : ∃ n, n = nth s 5 := ⟨_, rfl⟩
        rw [← hn0, ← hn1, ← hn2, ← hn3, ← hn4, ← hn5]
        have w : ∀ x y : Int, 0 ≤ x ∧ x ≤ 1000 → 0 ≤ y ∧ y ≤ 1000 → IntKind.i64.wrap (x + y) = x + y := fun x y h1 h2 => wrap_in (by omega) (by omega)
        show GlFnCoverLists.l0 _ 0 0 _ _ = _
        simp only [GlFnCoverLists.l0, cntK, idx_nat, letK, appK, List.getElem?_cons_zero, List.getElem?_cons_succ, Option.bind_some]
        rw [w 0 n0 (by omega) (by omega), w (0 + n0) n1 (by omega) (by omega), w (0 + n0 + n1) n2 (by omega) (by omega), w (0 + n0 + n1 + n2) n3 (by omega) (by omega), w (0 + n0 + n1 + n2 + n3) n4 (by omega) (by omega), w (0 + n0 + n1 + n2 + n3 + n4) n5 (by omega) (by omega)]
        congr 1; omega
      simp [GlFnCoverLists.q0, GlFnCoverLists.q1, GlFnCoverLists.q3, GlFnCoverLists.e0, to6, unIntA6, hl0, idx, hlen, h2, e, bind3, i1, i2, i3, i4, i5, i6, bind2, vInts_self, letK, joinK, appK, iteK_if, nth6_0, nth6_1, nth6_2, nth6_3, nth6_4, nth6_5]
    · have r1 : trueRes rs ms l = ([], false) := by unfold trueRes; rw [if_neg hc]
      have r2 : countRes rs ms l = (to6 [0, 0, 0, 0, 0, 0], false) := by unfold countRes; rw [if_neg hc]
      rw [r1] at i1 i2
      rw [r2] at i5 i6
      simp [GlFnCoverLists.q0, GlFnCoverLists.q1, GlFnCoverLists.q3, to6, unIntA6, h2, e, bind3, i1, i2, i3, i4, i5, i6, bind2, vInts_self, letK, joinK, appK, iteK_if, nth6_0, nth6_1, nth6_2, nth6_3, nth6_4, nth6_5]
end Go.Proofs.Ytgbcdmlcmnaimaa.QL10FnCoverLists

