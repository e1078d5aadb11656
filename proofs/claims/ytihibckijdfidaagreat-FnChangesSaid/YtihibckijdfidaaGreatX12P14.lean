/- Texts on which the proofs of several laws stand, one behind the other (14 of 17). No condition of their own. -/
import Derived.Test.YtihibckijdfidaaGreatChecked
import Derived.Test.YtihibckijdfidaaGreatX12P1
import Derived.Test.YtihibckijdfidaaGreatX12P5
import Derived.Test.YtihibckijdfidaaGreatX12P9
import Derived.Test.YtihibckijdfidaaGreatX12P12
import Derived.Test.YtihibckijdfidaaGreatX12P13
import Derived.WalkKit
import Derived.Laws.StructEq
import Derived.ChangeKeysEq
import Derived.WalkSpells
import Derived.WalkLawsBesides
import Derived.BigQuiet
import Derived.OwnWalk
import Derived.Deep.LoopGhost
import Derived.Deep.QuietTactic
import Derived.IntWalk
import Derived.Lib.QuietBelow
import Derived.Deep.DeepCutAuto
set_option linter.unusedVariables false
set_option linter.unusedSimpArgs false
namespace Go.Proofs.YtihibckijdfidaaGreat.GlFnChanges
open Go.RowKit
open Go.Proofs.YtihibckijdfidaaGreat.Rowed Go.Proofs.YtihibckijdfidaaGreat.Turn Go.Proofs.YtihibckijdfidaaGreat.Aid Go.Proofs.YtihibckijdfidaaGreat.GoP Go.Proofs.YtihibckijdfidaaGreat.GoM

def l2 (t_50a : (List Int)) (t_216a : Int) (k2 : Nat) (s : Unit) (nx2 bk2 : Unit → Option (Bool)) : Option (Bool) :=
 
 Option.bind (idx t_50a (k2 : Int)) fun (yt_251 : Int) =>
 letK (bits .and IntKind.i64 yt_251 t_216a) fun (t_254 : Int) =>
 letK (t_254 != t_216a) fun (t_256 : Bool) =>
 iteK t_256
 (some false)
 (appK nx2 ())

def e2  (s : Unit) : Option (Bool) :=
 
 some true

def q5 (t_50a : (List Int)) (t_216a : Int) (s : Bool) : Option (Bool) :=
 letK s fun t_232q5 =>
 iteK t_232q5
 (some false)
 (cntK (l2 t_50a t_216a) (t_50a.length) 0 () (e2 ))

def q3 (fuel : Nat) (t_5a : (List PRate.Rate)) (t_5b_id : Int) (t_5b_day : Int) (t_5b_zone : Int) (t_5b_grams : Int) (t_5b_paid : Int) (t_5b_from_ : Int) (t_5b_to_ : Int) (t_5b_leave : Int) (t_5b_arrive : Int) (t_14c : Bool) (t_50a : (List Int)) (s : Unit) : Option (Bool) :=
 bind2 (GiNeededChanges.P t_5a (PCover.Cover.mk t_5b_id t_5b_day t_5b_zone t_5b_grams t_5b_paid t_5b_from_ t_5b_to_ t_5b_leave t_5b_arrive)) fun (t_216a : Int) (t_216b : Bool) =>
 bind2 (GsNeededChanges.P fuel t_5a (PCover.Cover.mk t_5b_id t_5b_day t_5b_zone t_5b_grams t_5b_paid t_5b_from_ t_5b_to_ t_5b_leave t_5b_arrive)) fun (t_224a : Int) (t_224b : Bool) =>
 letK (t_216a != t_224a) fun (t_232 : Bool) =>
 joinK (fun (t_237 : Bool) =>
 joinK (fun (t_242 : Bool) =>
 q5 t_50a t_216a (t_242)) fun jt_242 => iteK t_237 (appK jt_242 true) (letK (!(t_216b == t_14c)) fun (t_241 : Bool) =>
 appK jt_242 t_241)) fun jt_237 => iteK t_232 (appK jt_237 true) (letK (!(t_216b == t_224b)) fun (t_236 : Bool) =>
 appK jt_237 t_236)

def l1 (t_50a : (List Int)) (k0 : Nat) (s : Int × Int) (nx1 bk1 : Int × Int → Option (Bool)) : Option (Bool) :=
 unp2 s fun n_27l1 one_28l1 =>
 letK (decide (one_28l1 ≤ 8)) fun (t_193 : Bool) =>
 iteK t_193
 (Option.bind (idx t_50a (k0 : Int)) fun (yt_197 : Int) =>
 guardK (¬ (one_28l1 = 0)) <|
 letK (IntKind.i64.wrap (Int.tdiv yt_197 one_28l1)) fun (t_200 : Int) =>
 letK (Int.tmod t_200 2) fun (t_201 : Int) =>
 letK (IntKind.i64.wrap (n_27l1 + t_201)) fun (t_202 : Int) =>
 letK (IntKind.i64.wrap (2 * one_28l1)) fun (t_205 : Int) =>
 appK nx1 (t_202, t_205))
 (appK bk1 (n_27l1, one_28l1))

def e1 (t_142b : Int) (nx0 : (Unit) → Option (Bool)) (s : Int × Int) : Option (Bool) :=
 unp2 s fun n_27l1 one_28l1 =>
 letK (decide (n_27l1 < t_142b)) fun (t_209 : Bool) =>
 iteK t_209
 (some false)
 (appK nx0 ())

def l0 (fuel : Nat) (t_50a : (List Int)) (t_142b : Int) (k0 : Nat) (s : Unit) (nx0 bk0 : Unit → Option (Bool)) : Option (Bool) :=
 
 loopK (l1 t_50a k0) fuel (0, 1) (e1 t_142b nx0)

def e0 (code : (List Int)) (fuel : Nat) (tapes : List Int → GoC.Tape) (t_2 : Bool) (t_5a : (List PRate.Rate)) (t_5b_id : Int) (t_5b_day : Int) (t_5b_zone : Int) (t_5b_grams : Int) (t_5b_paid : Int) (t_5b_from_ : Int) (t_5b_to_ : Int) (t_5b_leave : Int) (t_5b_arrive : Int) (t_14a : Int) (t_14c : Bool) (t_14b_id : Int) (t_14b_day : Int) (t_14b_zone : Int) (t_14b_grams : Int) (t_14b_paid : Int) (t_14b_from_ : Int) (t_14b_to_ : Int) (t_14b_leave : Int) (t_14b_arrive : Int) (t_25a : Int) (t_25c : Bool) (t_25b_id : Int) (t_25b_day : Int) (t_25b_zone : Int) (t_25b_grams : Int) (t_25b_paid : Int) (t_25b_from_ : Int) (t_25b_to_ : Int) (t_25b_leave : Int) (t_25b_arrive : Int) (t_67q0 : Bool) (t_50a : (List Int)) (t_50b : Bool) (t_58a : (List Int)) (t_58b : Bool) (t_95q1 : Bool) (t_83a : Bool) (t_83b : Bool) (t_91a : Bool) (t_91b : Bool) (t_129q2 : Bool) (t_124b : Bool) (t_124a_id : Int) (t_124a_day : Int) (t_124a_zone : Int) (t_124a_grams : Int) (t_124a_paid : Int) (t_124a_from_ : Int) (t_124a_to_ : Int) (t_124a_leave : Int) (t_124a_arrive : Int) (t_133a : Bool) (t_133b : Bool) (t_142a : Int) (t_142b : Int) (t_142c : Bool) (t_185q4 : Bool) (s : Unit) : Option (Bool) :=
 
 q3 fuel t_5a t_5b_id t_5b_day t_5b_zone t_5b_grams t_5b_paid t_5b_from_ t_5b_to_ t_5b_leave t_5b_arrive t_14c t_50a ()

def q4 (code : (List Int)) (fuel : Nat) (tapes : List Int → GoC.Tape) (t_2 : Bool) (t_5a : (List PRate.Rate)) (t_5b_id : Int) (t_5b_day : Int) (t_5b_zone : Int) (t_5b_grams : Int) (t_5b_paid : Int) (t_5b_from_ : Int) (t_5b_to_ : Int) (t_5b_leave : Int) (t_5b_arrive : Int) (t_14a : Int) (t_14c : Bool) (t_14b_id : Int) (t_14b_day : Int) (t_14b_zone : Int) (t_14b_grams : Int) (t_14b_paid : Int) (t_14b_from_ : Int) (t_14b_to_ : Int) (t_14b_leave : Int) (t_14b_arrive : Int) (t_25a : Int) (t_25c : Bool) (t_25b_id : Int) (t_25b_day : Int) (t_25b_zone : Int) (t_25b_grams : Int) (t_25b_paid : Int) (t_25b_from_ : Int) (t_25b_to_ : Int) (t_25b_leave : Int) (t_25b_arrive : Int) (t_67q0 : Bool) (t_50a : (List Int)) (t_50b : Bool) (t_58a : (List Int)) (t_58b : Bool) (t_95q1 : Bool) (t_83a : Bool) (t_83b : Bool) (t_91a : Bool) (t_91b : Bool) (t_129q2 : Bool) (t_124b : Bool) (t_124a_id : Int) (t_124a_day : Int) (t_124a_zone : Int) (t_124a_grams : Int) (t_124a_paid : Int) (t_124a_from_ : Int) (t_124a_to_ : Int) (t_124a_leave : Int) (t_124a_arrive : Int) (t_133a : Bool) (t_133b : Bool) (t_142a : Int) (t_142b : Int) (t_142c : Bool) (s : Bool) : Option (Bool) :=
 letK s fun t_185q4 =>
 iteK t_185q4
 (some false)
 (cntK (l0 fuel t_50a t_142b) (t_50a.length) 0 () (e0 code fuel tapes t_2 t_5a t_5b_id t_5b_day t_5b_zone t_5b_grams t_5b_paid t_5b_from_ t_5b_to_ t_5b_leave t_5b_arrive t_14a t_14c t_14b_id t_14b_day t_14b_zone t_14b_grams t_14b_paid t_14b_from_ t_14b_to_ t_14b_leave t_14b_arrive t_25a t_25c t_25b_id t_25b_day t_25b_zone t_25b_grams t_25b_paid t_25b_from_ t_25b_to_ t_25b_leave t_25b_arrive t_67q0 t_50a t_50b t_58a t_58b t_95q1 t_83a t_83b t_91a t_91b t_129q2 t_124b t_124a_id t_124a_day t_124a_zone t_124a_grams t_124a_paid t_124a_from_ t_124a_to_ t_124a_leave t_124a_arrive t_133a t_133b t_142a t_142b t_142c t_185q4))

def q2 (code : (List Int)) (fuel : Nat) (tapes : List Int → GoC.Tape) (t_2 : Bool) (t_5a : (List PRate.Rate)) (t_5b_id : Int) (t_5b_day : Int) (t_5b_zone : Int) (t_5b_grams : Int) (t_5b_paid : Int) (t_5b_from_ : Int) (t_5b_to_ : Int) (t_5b_leave : Int) (t_5b_arrive : Int) (t_14a : Int) (t_14c : Bool) (t_14b_id : Int) (t_14b_day : Int) (t_14b_zone : Int) (t_14b_grams : Int) (t_14b_paid : Int) (t_14b_from_ : Int) (t_14b_to_ : Int) (t_14b_leave : Int) (t_14b_arrive : Int) (t_25a : Int) (t_25c : Bool) (t_25b_id : Int) (t_25b_day : Int) (t_25b_zone : Int) (t_25b_grams : Int) (t_25b_paid : Int) (t_25b_from_ : Int) (t_25b_to_ : Int) (t_25b_leave : Int) (t_25b_arrive : Int) (t_67q0 : Bool) (t_50a : (List Int)) (t_50b : Bool) (t_58a : (List Int)) (t_58b : Bool) (t_95q1 : Bool) (t_83a : Bool) (t_83b : Bool) (t_91a : Bool) (t_91b : Bool) (s : Bool) : Option (Bool) :=
 letK s fun t_129q2 =>
 iteK t_129q2
 (some false)
 (iteK t_14c
 (bind2 (GiMakeCover.P t_5a (PCover.Cover.mk t_5b_id t_5b_day t_5b_zone t_5b_grams t_5b_paid t_5b_from_ t_5b_to_ t_5b_leave t_5b_arrive) t_14a) fun (t_124a : PCover.Cover) (t_124b : Bool) =>
 unCover t_124a fun (t_124a_id : Int) (t_124a_day : Int) (t_124a_zone : Int) (t_124a_grams : Int) (t_124a_paid : Int) (t_124a_from_ : Int) (t_124a_to_ : Int) (t_124a_leave : Int) (t_124a_arrive : Int) =>
 bind2 (GiIsExplained.P t_5a (PCover.Cover.mk t_14b_id t_14b_day t_14b_zone t_14b_grams t_14b_paid t_14b_from_ t_14b_to_ t_14b_leave t_14b_arrive)) fun (t_133a : Bool) (t_133b : Bool) =>
 bind3 (GiCheapestChange.P fuel t_5a (PCover.Cover.mk t_5b_id t_5b_day t_5b_zone t_5b_grams t_5b_paid t_5b_from_ t_5b_to_ t_5b_leave t_5b_arrive) (PIntA4.IntA4.mk 1 1 1 1)) fun (t_142a : Int) (t_142b : Int) (t_142c : Bool) =>
 letK (!t_124b) fun (t_151 : Bool) =>
 joinK (fun (t_156 : Bool) =>
 joinK (fun (t_160 : Bool) =>
 joinK (fun (t_164 : Bool) =>
 joinK (fun (t_170 : Bool) =>
 joinK (fun (t_174 : Bool) =>
 joinK (fun (t_179 : Bool) =>
 joinK (fun (t_183 : Bool) =>
 q4 code fuel tapes t_2 t_5a t_5b_id t_5b_day t_5b_zone t_5b_grams t_5b_paid t_5b_from_ t_5b_to_ t_5b_leave t_5b_arrive t_14a t_14c t_14b_id t_14b_day t_14b_zone t_14b_grams t_14b_paid t_14b_from_ t_14b_to_ t_14b_leave t_14b_arrive t_25a t_25c t_25b_id t_25b_day t_25b_zone t_25b_grams t_25b_paid t_25b_from_ t_25b_to_ t_25b_leave t_25b_arrive t_67q0 t_50a t_50b t_58a t_58b t_95q1 t_83a t_83b t_91a t_91b t_129q2 t_124b t_124a_id t_124a_day t_124a_zone t_124a_grams t_124a_paid t_124a_from_ t_124a_to_ t_124a_leave t_124a_arrive t_133a t_133b t_142a t_142b t_142c (t_183)) fun jt_183 => iteK t_179 (appK jt_183 true) (letK (decide (4 < t_142b)) fun (t_182 : Bool) =>
 appK jt_183 t_182)) fun jt_179 => iteK t_174 (appK jt_179 true) (letK (t_142a != t_14a) fun (t_178 : Bool) =>
 appK jt_179 t_178)) fun jt_174 => iteK t_170 (appK jt_174 true) (letK (!t_142c) fun (t_173 : Bool) =>
 appK jt_174 t_173)) fun jt_170 => iteK t_164 (appK jt_170 true) (Option.bind (GlVHas.P t_50a t_14a) fun (t_168 : Bool) =>
 letK (!t_168) fun (t_169 : Bool) =>
 appK jt_170 t_169)) fun jt_164 => iteK t_160 (appK jt_164 true) (letK (!t_133a) fun (t_163 : Bool) =>
 appK jt_164 t_163)) fun jt_160 => iteK t_156 (appK jt_160 true) (letK (!t_133b) fun (t_159 : Bool) =>
 appK jt_160 t_159)) fun jt_156 => iteK t_151 (appK jt_156 true) (letK (!(t_124a_id == t_14b_id && t_124a_day == t_14b_day && t_124a_zone == t_14b_zone && t_124a_grams == t_14b_grams && t_124a_paid == t_14b_paid && t_124a_from_ == t_14b_from_ && t_124a_to_ == t_14b_to_ && t_124a_leave == t_14b_leave && t_124a_arrive == t_14b_arrive)) fun (t_155 : Bool) =>
 appK jt_156 t_155))
 (q3 fuel t_5a t_5b_id t_5b_day t_5b_zone t_5b_grams t_5b_paid t_5b_from_ t_5b_to_ t_5b_leave t_5b_arrive t_14c t_50a ()))

def q1 (code : (List Int)) (fuel : Nat) (tapes : List Int → GoC.Tape) (t_2 : Bool) (t_5a : (List PRate.Rate)) (t_5b_id : Int) (t_5b_day : Int) (t_5b_zone : Int) (t_5b_grams : Int) (t_5b_paid : Int) (t_5b_from_ : Int) (t_5b_to_ : Int) (t_5b_leave : Int) (t_5b_arrive : Int) (t_14a : Int) (t_14c : Bool) (t_14b_id : Int) (t_14b_day : Int) (t_14b_zone : Int) (t_14b_grams : Int) (t_14b_paid : Int) (t_14b_from_ : Int) (t_14b_to_ : Int) (t_14b_leave : Int) (t_14b_arrive : Int) (t_25a : Int) (t_25c : Bool) (t_25b_id : Int) (t_25b_day : Int) (t_25b_zone : Int) (t_25b_grams : Int) (t_25b_paid : Int) (t_25b_from_ : Int) (t_25b_to_ : Int) (t_25b_leave : Int) (t_25b_arrive : Int) (t_67q0 : Bool) (t_50a : (List Int)) (t_50b : Bool) (t_58a : (List Int)) (t_58b : Bool) (s : Bool) : Option (Bool) :=
 letK s fun t_95q1 =>
 iteK t_95q1
 (some false)
 (bind2 (GiIsExplained.P t_5a (PCover.Cover.mk t_5b_id t_5b_day t_5b_zone t_5b_grams t_5b_paid t_5b_from_ t_5b_to_ t_5b_leave t_5b_arrive)) fun (t_83a : Bool) (t_83b : Bool) =>
 bind2 (GsIsExplained.P fuel t_5a (PCover.Cover.mk t_5b_id t_5b_day t_5b_zone t_5b_grams t_5b_paid t_5b_from_ t_5b_to_ t_5b_leave t_5b_arrive)) fun (t_91a : Bool) (t_91b : Bool) =>
 letK (!(t_83a == t_91a)) fun (t_99 : Bool) =>
 joinK (fun (t_104 : Bool) =>
 joinK (fun (t_109 : Bool) =>
 joinK (fun (t_118 : Bool) =>
 q2 code fuel tapes t_2 t_5a t_5b_id t_5b_day t_5b_zone t_5b_grams t_5b_paid t_5b_from_ t_5b_to_ t_5b_leave t_5b_arrive t_14a t_14c t_14b_id t_14b_day t_14b_zone t_14b_grams t_14b_paid t_14b_from_ t_14b_to_ t_14b_leave t_14b_arrive t_25a t_25c t_25b_id t_25b_day t_25b_zone t_25b_grams t_25b_paid t_25b_from_ t_25b_to_ t_25b_leave t_25b_arrive t_67q0 t_50a t_50b t_58a t_58b t_95q1 t_83a t_83b t_91a t_91b (t_118)) fun jt_118 => iteK t_109 (appK jt_118 true) (joinK (fun (t_116 : Bool) =>
 letK (!(t_83a == t_116)) fun (t_117 : Bool) =>
 appK jt_118 t_117) fun jt_116 => iteK t_14c (letK (t_14a == 0) fun (t_115 : Bool) =>
 appK jt_116 t_115) (appK jt_116 false))) fun jt_109 => iteK t_104 (appK jt_109 true) (letK (!(t_83b == t_50b)) fun (t_108 : Bool) =>
 appK jt_109 t_108)) fun jt_104 => iteK t_99 (appK jt_104 true) (letK (!(t_83b == t_91b)) fun (t_103 : Bool) =>
 appK jt_104 t_103))

def q0 (code : (List Int)) (fuel : Nat) (tapes : List Int → GoC.Tape) (t_2 : Bool) (t_5a : (List PRate.Rate)) (t_5b_id : Int) (t_5b_day : Int) (t_5b_zone : Int) (t_5b_grams : Int) (t_5b_paid : Int) (t_5b_from_ : Int) (t_5b_to_ : Int) (t_5b_leave : Int) (t_5b_arrive : Int) (t_14a : Int) (t_14c : Bool) (t_14b_id : Int) (t_14b_day : Int) (t_14b_zone : Int) (t_14b_grams : Int) (t_14b_paid : Int) (t_14b_from_ : Int) (t_14b_to_ : Int) (t_14b_leave : Int) (t_14b_arrive : Int) (t_25a : Int) (t_25c : Bool) (t_25b_id : Int) (t_25b_day : Int) (t_25b_zone : Int) (t_25b_grams : Int) (t_25b_paid : Int) (t_25b_from_ : Int) (t_25b_to_ : Int) (t_25b_leave : Int) (t_25b_arrive : Int) (s : Bool) : Option (Bool) :=
 letK s fun t_67q0 =>
 iteK t_67q0
 (some false)
 (bind2 (GiPossibleChanges.P t_5a (PCover.Cover.mk t_5b_id t_5b_day t_5b_zone t_5b_grams t_5b_paid t_5b_from_ t_5b_to_ t_5b_leave t_5b_arrive)) fun (t_50a : (List Int)) (t_50b : Bool) =>
 bind2 (GsPossibleChanges.P fuel t_5a (PCover.Cover.mk t_5b_id t_5b_day t_5b_zone t_5b_grams t_5b_paid t_5b_from_ t_5b_to_ t_5b_leave t_5b_arrive)) fun (t_58a : (List Int)) (t_58b : Bool) =>
 letK (!(t_50b == t_58b)) fun (t_66 : Bool) =>
 joinK (fun (t_72 : Bool) =>
 joinK (fun (t_79 : Bool) =>
 q1 code fuel tapes t_2 t_5a t_5b_id t_5b_day t_5b_zone t_5b_grams t_5b_paid t_5b_from_ t_5b_to_ t_5b_leave t_5b_arrive t_14a t_14c t_14b_id t_14b_day t_14b_zone t_14b_grams t_14b_paid t_14b_from_ t_14b_to_ t_14b_leave t_14b_arrive t_25a t_25c t_25b_id t_25b_day t_25b_zone t_25b_grams t_25b_paid t_25b_from_ t_25b_to_ t_25b_leave t_25b_arrive t_67q0 t_50a t_50b t_58a t_58b (t_79)) fun jt_79 => iteK t_72 (appK jt_79 true) (letK (decide (0 < (t_50a.length : Int))) fun (t_77 : Bool) =>
 letK (!(t_14c == t_77)) fun (t_78 : Bool) =>
 appK jt_79 t_78)) fun jt_72 => iteK t_66 (appK jt_72 true) (Option.bind (GlVInts.P t_50a t_58a) fun (t_70 : Bool) =>
 letK (!t_70) fun (t_71 : Bool) =>
 appK jt_72 t_71))

def P (fuel : Nat) (tapes : List Int → GoC.Tape) (code : (List Int)) : Option (Bool) :=
 Option.bind (GlVBig.P code) fun (t_2 : Bool) =>
 iteK t_2
 (some true)
 (bind2 (GsDrawLeastChange.P fuel tapes code) fun (t_5a : (List PRate.Rate)) (t_5b : PCover.Cover) =>
 unCover t_5b fun (t_5b_id : Int) (t_5b_day : Int) (t_5b_zone : Int) (t_5b_grams : Int) (t_5b_paid : Int) (t_5b_from_ : Int) (t_5b_to_ : Int) (t_5b_leave : Int) (t_5b_arrive : Int) =>
 bind3 (GiLeastChange.P fuel t_5a (PCover.Cover.mk t_5b_id t_5b_day t_5b_zone t_5b_grams t_5b_paid t_5b_from_ t_5b_to_ t_5b_leave t_5b_arrive)) fun (t_14a : Int) (t_14b : PCover.Cover) (t_14c : Bool) =>
 unCover t_14b fun (t_14b_id : Int) (t_14b_day : Int) (t_14b_zone : Int) (t_14b_grams : Int) (t_14b_paid : Int) (t_14b_from_ : Int) (t_14b_to_ : Int) (t_14b_leave : Int) (t_14b_arrive : Int) =>
 bind3 (GsLeastChange.P fuel t_5a (PCover.Cover.mk t_5b_id t_5b_day t_5b_zone t_5b_grams t_5b_paid t_5b_from_ t_5b_to_ t_5b_leave t_5b_arrive)) fun (t_25a : Int) (t_25b : PCover.Cover) (t_25c : Bool) =>
 unCover t_25b fun (t_25b_id : Int) (t_25b_day : Int) (t_25b_zone : Int) (t_25b_grams : Int) (t_25b_paid : Int) (t_25b_from_ : Int) (t_25b_to_ : Int) (t_25b_leave : Int) (t_25b_arrive : Int) =>
 letK (t_14a != t_25a) fun (t_36 : Bool) =>
 joinK (fun (t_41 : Bool) =>
 joinK (fun (t_46 : Bool) =>
 q0 code fuel tapes t_2 t_5a t_5b_id t_5b_day t_5b_zone t_5b_grams t_5b_paid t_5b_from_ t_5b_to_ t_5b_leave t_5b_arrive t_14a t_14c t_14b_id t_14b_day t_14b_zone t_14b_grams t_14b_paid t_14b_from_ t_14b_to_ t_14b_leave t_14b_arrive t_25a t_25c t_25b_id t_25b_day t_25b_zone t_25b_grams t_25b_paid t_25b_from_ t_25b_to_ t_25b_leave t_25b_arrive (t_46)) fun jt_46 => iteK t_41 (appK jt_46 true) (letK (!(t_14c == t_25c)) fun (t_45 : Bool) =>
 appK jt_46 t_45)) fun jt_41 => iteK t_36 (appK jt_41 true) (letK (!(t_14b_id == t_25b_id && t_14b_day == t_25b_day && t_14b_zone == t_25b_zone && t_14b_grams == t_25b_grams && t_14b_paid == t_25b_paid && t_14b_from_ == t_25b_from_ && t_14b_to_ == t_25b_to_ && t_14b_leave == t_25b_leave && t_14b_arrive == t_25b_arrive)) fun (t_40 : Bool) =>
 appK jt_41 t_40))

set_option maxRecDepth 100000
theorem eqr_26 (x0 x1 x2 x3 x4 x5 x6 x7 x8 y0 y1 y2 y3 y4 y5 y6 y7 y8 : Int) : ∀ W, (Op.equalIn 10000 26 (.agg #[Value.int IntKind.i64 x0, Value.int IntKind.i64 x1, Value.int IntKind.i64 x2, Value.int IntKind.i64 x3, Value.int IntKind.i64 x4, Value.int IntKind.i64 x5, Value.int IntKind.i64 x6, Value.int IntKind.i64 x7, Value.int IntKind.i64 x8]) (.agg #[Value.int IntKind.i64 y0, Value.int IntKind.i64 y1, Value.int IntKind.i64 y2, Value.int IntKind.i64 y3, Value.int IntKind.i64 y4, Value.int IntKind.i64 y5, Value.int IntKind.i64 y6, Value.int IntKind.i64 y7, Value.int IntKind.i64 y8])).run Tryz.prog W = .ok (x0 == y0 && x1 == y1 && x2 == y2 && x3 == y3 && x4 == y4 && x5 == y5 && x6 == y6 && x7 == y7 && x8 == y8) W := by
 intro W
 rw [run_equalIn_agg W _ _ _ _ (by kernel_rfl) (by kernel_rfl)]
 obtain ⟨f, hf⟩ : ∃ f, (Tryz.prog.fieldsOf 26).toList = f := ⟨_, rfl⟩
 have : (Tryz.prog.fieldsOf 26).toList.map (fun f => (f.name, f.type, f.offset)) = [("Id", 3, 0), ("Day", 3, 1), ("Zone", 3, 2), ("Grams", 3, 3), ("Paid", 3, 4), ("From", 3, 5), ("To", 3, 6), ("Leave", 3, 7), ("Arrive", 3, 8)] := by kernel_rfl
 rw [hf] at this ⊢
 match f, this with
 | [f0, f1, f2, f3, f4, f5, f6, f7, f8], h =>
  simp only [List.map_cons, List.map_nil, List.cons.injEq, Prod.mk.injEq, and_true] at h
  obtain ⟨⟨a0, b0, d0⟩, ⟨a1, b1, d1⟩, ⟨a2, b2, d2⟩, ⟨a3, b3, d3⟩, ⟨a4, b4, d4⟩, ⟨a5, b5, d5⟩, ⟨a6, b6, d6⟩, ⟨a7, b7, d7⟩, a8, b8, d8⟩ := h
  simp only [Op.eqFields, a0, b0, d0, a1, b1, d1, a2, b2, d2, a3, b3, d3, a4, b4, d4, a5, b5, d5, a6, b6, d6, a7, b7, d7, a8, b8, d8]
  have p0 : ∀ (w : World) (x0 x1 x2 x3 x4 x5 x6 x7 x8 : Int), (part 3 #[Value.int IntKind.i64 x0, Value.int IntKind.i64 x1, Value.int IntKind.i64 x2, Value.int IntKind.i64 x3, Value.int IntKind.i64 x4, Value.int IntKind.i64 x5, Value.int IntKind.i64 x6, Value.int IntKind.i64 x7, Value.int IntKind.i64 x8] 0).run Tryz.prog w = .ok (.int .i64 x0) w := fun w x0 x1 x2 x3 x4 x5 x6 x7 x8 => run_part_plain w (by kernel_rfl) rfl
  have p1 : ∀ (w : World) (x0 x1 x2 x3 x4 x5 x6 x7 x8 : Int), (part 3 #[Value.int IntKind.i64 x0, Value.int IntKind.i64 x1, Value.int IntKind.i64 x2, Value.int IntKind.i64 x3, Value.int IntKind.i64 x4, Value.int IntKind.i64 x5, Value.int IntKind.i64 x6, Value.int IntKind.i64 x7, Value.int IntKind.i64 x8] 1).run Tryz.prog w = .ok (.int .i64 x1) w := fun w x0 x1 x2 x3 x4 x5 x6 x7 x8 => run_part_plain w (by kernel_rfl) rfl
  have p2 : ∀ (w : World) (x0 x1 x2 x3 x4 x5 x6 x7 x8 : Int), (part 3 #[Value.int IntKind.i64 x0, Value.int IntKind.i64 x1, Value.int IntKind.i64 x2, Value.int IntKind.i64 x3, Value.int IntKind.i64 x4, Value.int IntKind.i64 x5, Value.int IntKind.i64 x6, Value.int IntKind.i64 x7, Value.int IntKind.i64 x8] 2).run Tryz.prog w = .ok (.int .i64 x2) w := fun w x0 x1 x2 x3 x4 x5 x6 x7 x8 => run_part_plain w (by kernel_rfl) rfl
  have p3 : ∀ (w : World) (x0 x1 x2 x3 x4 x5 x6 x7 x8 : Int), (part 3 #[Value.int IntKind.i64 x0, Value.int IntKind.i64 x1, Value.int IntKind.i64 x2, Value.int IntKind.i64 x3, Value.int IntKind.i64 x4, Value.int IntKind.i64 x5, Value.int IntKind.i64 x6, Value.int IntKind.i64 x7, Value.int IntKind.i64 x8] 3).run Tryz.prog w = .ok (.int .i64 x3) w := fun w x0 x1 x2 x3 x4 x5 x6 x7 x8 => run_part_plain w (by kernel_rfl) rfl
  have p4 : ∀ (w : World) (x0 x1 x2 x3 x4 x5 x6 x7 x8 : Int), (part 3 #[Value.int IntKind.i64 x0, Value.int IntKind.i64 x1, Value.int IntKind.i64 x2, Value.int IntKind.i64 x3, Value.int IntKind.i64 x4, Value.int IntKind.i64 x5, Value.int IntKind.i64 x6, Value.int IntKind.i64 x7, Value.int IntKind.i64 x8] 4).run Tryz.prog w = .ok (.int .i64 x4) w := fun w x0 x1 x2 x3 x4 x5 x6 x7 x8 => run_part_plain w (by kernel_rfl) rfl
  have p5 : ∀ (w : World) (x0 x1 x2 x3 x4 x5 x6 x7 x8 : Int), (part 3 #[Value.int IntKind.i64 x0, Value.int IntKind.i64 x1, Value.int IntKind.i64 x2, Value.int IntKind.i64 x3, Value.int IntKind.i64 x4, Value.int IntKind.i64 x5, Value.int IntKind.i64 x6, Value.int IntKind.i64 x7, Value.int IntKind.i64 x8] 5).run Tryz.prog w = .ok (.int .i64 x5) w := fun w x0 x1 x2 x3 x4 x5 x6 x7 x8 => run_part_plain w (by kernel_rfl) rfl
  have p6 : ∀ (w : World) (x0 x1 x2 x3 x4 x5 x6 x7 x8 : Int), (part 3 #[Value.int IntKind.i64 x0, Value.int IntKind.i64 x1, Value.int IntKind.i64 x2, Value.int IntKind.i64 x3, Value.int IntKind.i64 x4, Value.int IntKind.i64 x5, Value.int IntKind.i64 x6, Value.int IntKind.i64 x7, Value.int IntKind.i64 x8] 6).run Tryz.prog w = .ok (.int .i64 x6) w := fun w x0 x1 x2 x3 x4 x5 x6 x7 x8 => run_part_plain w (by kernel_rfl) rfl
  have p7 : ∀ (w : World) (x0 x1 x2 x3 x4 x5 x6 x7 x8 : Int), (part 3 #[Value.int IntKind.i64 x0, Value.int IntKind.i64 x1, Value.int IntKind.i64 x2, Value.int IntKind.i64 x3, Value.int IntKind.i64 x4, Value.int IntKind.i64 x5, Value.int IntKind.i64 x6, Value.int IntKind.i64 x7, Value.int IntKind.i64 x8] 7).run Tryz.prog w = .ok (.int .i64 x7) w := fun w x0 x1 x2 x3 x4 x5 x6 x7 x8 => run_part_plain w (by kernel_rfl) rfl
  have p8 : ∀ (w : World) (x0 x1 x2 x3 x4 x5 x6 x7 x8 : Int), (part 3 #[Value.int IntKind.i64 x0, Value.int IntKind.i64 x1, Value.int IntKind.i64 x2, Value.int IntKind.i64 x3, Value.int IntKind.i64 x4, Value.int IntKind.i64 x5, Value.int IntKind.i64 x6, Value.int IntKind.i64 x7, Value.int IntKind.i64 x8] 8).run Tryz.prog w = .ok (.int .i64 x8) w := fun w x0 x1 x2 x3 x4 x5 x6 x7 x8 => run_part_plain w (by kernel_rfl) rfl
  have e0 : ∀ (w : World) (d : Nat) (x y : Int), (Op.equalIn (d + 1) 3 (.int .i64 x) (.int .i64 y)).run Tryz.prog w = .ok (x == y) w := fun w d x y => run_equalIn_int w d 3 .i64 .i64 x y Tryz.underlying3
  have e1 : ∀ (w : World) (x y : Int), (Op.equalIn 9999 3 (.int .i64 x) (.int .i64 y)).run Tryz.prog w = .ok (x == y) w := fun w x y => e0 w 9998 x y
  rw [if_pos (by decide)]; rw [if_pos (by decide)]; rw [if_pos (by decide)]; rw [if_pos (by decide)]; rw [if_pos (by decide)]; rw [if_pos (by decide)]; rw [if_pos (by decide)]; rw [if_pos (by decide)]; rw [if_pos (by decide)]
  simp only [Sem.run_bind, p0, p1, p2, p3, p4, p5, p6, p7, p8, e1, Result.andThen_ok, Sem.run_ite, Sem.run_pure]
  cases x0 == y0 <;> cases x1 == y1 <;> cases x2 == y2 <;> cases x3 == y3 <;> cases x4 == y4 <;> cases x5 == y5 <;> cases x6 == y6 <;> cases x7 == y7 <;> cases x8 == y8 <;> rfl
theorem eqla_26 (x0 x1 x2 x3 x4 x5 x6 x7 x8 y0 y1 y2 y3 y4 y5 y6 y7 y8 : Int) : ∀ W, (binOp .eql 26 (.agg #[Value.int IntKind.i64 x0, Value.int IntKind.i64 x1, Value.int IntKind.i64 x2, Value.int IntKind.i64 x3, Value.int IntKind.i64 x4, Value.int IntKind.i64 x5, Value.int IntKind.i64 x6, Value.int IntKind.i64 x7, Value.int IntKind.i64 x8]) (.agg #[Value.int IntKind.i64 y0, Value.int IntKind.i64 y1, Value.int IntKind.i64 y2, Value.int IntKind.i64 y3, Value.int IntKind.i64 y4, Value.int IntKind.i64 y5, Value.int IntKind.i64 y6, Value.int IntKind.i64 y7, Value.int IntKind.i64 y8])).run Tryz.prog W = .ok (.bool (x0 == y0 && x1 == y1 && x2 == y2 && x3 == y3 && x4 == y4 && x5 == y5 && x6 == y6 && x7 == y7 && x8 == y8)) W := by
 intro W
 rw [run_eql_struct, eqr_26]; rfl
theorem neqa_26 (x0 x1 x2 x3 x4 x5 x6 x7 x8 y0 y1 y2 y3 y4 y5 y6 y7 y8 : Int) : ∀ W, (binOp .neq 26 (.agg #[Value.int IntKind.i64 x0, Value.int IntKind.i64 x1, Value.int IntKind.i64 x2, Value.int IntKind.i64 x3, Value.int IntKind.i64 x4, Value.int IntKind.i64 x5, Value.int IntKind.i64 x6, Value.int IntKind.i64 x7, Value.int IntKind.i64 x8]) (.agg #[Value.int IntKind.i64 y0, Value.int IntKind.i64 y1, Value.int IntKind.i64 y2, Value.int IntKind.i64 y3, Value.int IntKind.i64 y4, Value.int IntKind.i64 y5, Value.int IntKind.i64 y6, Value.int IntKind.i64 y7, Value.int IntKind.i64 y8])).run Tryz.prog W = .ok (.bool (!(x0 == y0 && x1 == y1 && x2 == y2 && x3 == y3 && x4 == y4 && x5 == y5 && x6 == y6 && x7 == y7 && x8 == y8))) W := by
 intro W
 rw [run_neq_struct, eqr_26]; rfl

set_option maxRecDepth 100000 in
set_option maxHeartbeats 20000000 in
theorem C (fuel : Nat) (tapes : List Int → GoC.Tape) (code : (List Int)) (A0 : Option Addr) (c0 : Nat)  (w : World) (HE : Hid (GoC.Tells tapes)) (M0 : Hid (Cells w 1 A0 code.length (GoC.u8s code))) (N0 : Hid (code.length ≤ 9223372036854775807)) (V0 : Hid (∀ z ∈ code, 0 ≤ z ∧ z ≤ 255))  {r : Bool} (H : Hid (P fuel tapes code = some r)) :
  Calls Tryz.prog 3 #[.slice A0 code.length c0] w (Gives (.bool r) w) := by
 have HB := Lib.hid (Below.refl w.heap.size w); unfold P at H; have N0o := N0.out
 go_enter Tryz.func3, Tryz.ntmps3
 replace H := bind_hid H; obtain ⟨t_2, qt_2, H⟩ := H; go_wp2_with fail; go_at_call 5; refine (GlVBig.C (code) A0 c0 _   (Lib.hid (Cells.below M0.out HB.out)) N0 V0 qt_2).mono ?_; rintro x21 wt_2 ⟨rfl, bt_2⟩; have c16 := Lib.hid (Below.step HB.out bt_2); clear bt_2
 cases t_2 with
 | false =>
  replace H := ite_f H; replace H := bind2_hid H; obtain ⟨t_5a, t_5b, qt_5, H⟩ := H; obtain ⟨z11, x11, f12, a12, b12, y11, e12, c12, d12⟩ := t_5b; replace H := unCover_hid H; go_wp2_with fail; go_at_call 6; refine (GsDrawLeastChange.C fuel tapes (code) A0 c0 _  HE (Lib.hid (Cells.below M0.out c16.out)) N0 V0 qt_5).mono ?_; rintro v22 wt_5 ⟨a14, t13, rfl, v18, bt_5⟩; unfold PCover.Cover.val; have a10 := Lib.hid (own_lower v18 c16.out.size); clear v18; have o19 := Lib.hid (Below.step c16.out bt_5); clear bt_5; obtain ⟨t14, q14⟩ : ∃ x, wt_5.alloc (.cells #[.int .i64 z11, .int .i64 x11, .int .i64 f12, .int .i64 a12, .int .i64 b12, .int .i64 y11, .int .i64 e12, .int .i64 c12, .int .i64 d12] 26) = x := ⟨_, rfl⟩; have f18 : Below wt_5.heap.size wt_5 t14 := (by rw [← q14]; exact (Below.refl _ _).alloc (Nat.le_refl _) _); have r21 := Lib.hid (apart_fresh a10.out); have l19 := Lib.hid (Below.step o19.out f18); replace a10 := Lib.hid (own_below a10.out f18); clear f18; have c17 : t14.cell? ⟨wt_5.heap.size, 0, none⟩ = some (.int .i64 z11) := (by rw [← q14]; exact box_new _ _ _ 0 _ rfl); have e16 : t14.cell? ⟨wt_5.heap.size, 1, none⟩ = some (.int .i64 x11) := (by rw [← q14]; exact box_new _ _ _ 1 _ rfl); have z16 : t14.cell? ⟨wt_5.heap.size, 2, none⟩ = some (.int .i64 f12) := (by rw [← q14]; exact box_new _ _ _ 2 _ rfl); have y16 : t14.cell? ⟨wt_5.heap.size, 3, none⟩ = some (.int .i64 a12) := (by rw [← q14]; exact box_new _ _ _ 3 _ rfl); have k17 : t14.cell? ⟨wt_5.heap.size, 4, none⟩ = some (.int .i64 b12) := (by rw [← q14]; exact box_new _ _ _ 4 _ rfl); have q17 : t14.cell? ⟨wt_5.heap.size, 5, none⟩ = some (.int .i64 y11) := (by rw [← q14]; exact box_new _ _ _ 5 _ rfl); have s16 : t14.cell? ⟨wt_5.heap.size, 6, none⟩ = some (.int .i64 e12) := (by rw [← q14]; exact box_new _ _ _ 6 _ rfl); have o17 : t14.cell? ⟨wt_5.heap.size, 7, none⟩ = some (.int .i64 c12) := (by rw [← q14]; exact box_new _ _ _ 7 _ rfl); have e17 : t14.cell? ⟨wt_5.heap.size, 8, none⟩ = some (.int .i64 d12) := (by rw [← q14]; exact box_new _ _ _ 8 _ rfl); replace H := bind3_hid H; obtain ⟨m15, i20, r15, j20, H⟩ := H; obtain ⟨z13, e14, b14, x13, w13, v13, c14, y13, d14⟩ := i20; replace H := unCover_hid H; go_wp2_with fail; go_at_call 7; refine (GiLeastChange.C fuel (t_5a) ((PCover.Cover.mk z11 x11 f12 a12 b12 y11 e12 c12 d12)) a14 t13 _   (Lib.hid (own_cells a10.out)) (Lib.hid (own_max a10.out)) j20).mono ?_; rintro t21 b10 ⟨rfl, p14⟩; unfold PCover.Cover.val; have o20 := Lib.hid (Below.step l19.out p14); replace c17 := cell_below p14 c17; replace e16 := cell_below p14 e16; replace z16 := cell_below p14 z16; replace y16 := cell_below p14 y16; replace k17 := cell_below p14 k17; replace q17 := cell_below p14 q17; replace s16 := cell_below p14 s16; replace o17 := cell_below p14 o17; replace e17 := cell_below p14 e17; replace a10 := Lib.hid (own_below a10.out p14); clear p14; obtain ⟨a15, v14⟩ : ∃ x, b10.alloc (.cells #[.int .i64 z13, .int .i64 e14, .int .i64 b14, .int .i64 x13, .int .i64 w13, .int .i64 v13, .int .i64 c14, .int .i64 y13, .int .i64 d14] 26) = x := ⟨_, rfl⟩; have o14 : Below b10.heap.size b10 a15 := (by rw [← v14]; exact (Below.refl _ _).alloc (Nat.le_refl _) _); have g21 := Lib.hid (apart_fresh a10.out); have k19 := Lib.hid (Below.step o20.out o14); have i16 := cell_below o14 c17; have p16 := cell_below o14 e16; have h16 := cell_below o14 z16; have d16 := cell_below o14 y16; have x16 := cell_below o14 k17; have n16 := cell_below o14 q17; have l17 := cell_below o14 s16; have m16 := cell_below o14 o17; have w16 := cell_below o14 e17; replace a10 := Lib.hid (own_below a10.out o14); clear o14; have f17 : a15.cell? ⟨b10.heap.size, 0, none⟩ = some (.int .i64 z13) := (by rw [← v14]; exact box_new _ _ _ 0 _ rfl); have o16 : a15.cell? ⟨b10.heap.size, 1, none⟩ = some (.int .i64 e14) := (by rw [← v14]; exact box_new _ _ _ 1 _ rfl); have j17 : a15.cell? ⟨b10.heap.size, 2, none⟩ = some (.int .i64 b14) := (by rw [← v14]; exact box_new _ _ _ 2 _ rfl)
  have a16 : a15.cell? ⟨b10.heap.size, 3, none⟩ = some (.int .i64 x13) := (by rw [← v14]; exact box_new _ _ _ 3 _ rfl); have m17 : a15.cell? ⟨b10.heap.size, 4, none⟩ = some (.int .i64 w13) := (by rw [← v14]; exact box_new _ _ _ 4 _ rfl); have l16 : a15.cell? ⟨b10.heap.size, 5, none⟩ = some (.int .i64 v13) := (by rw [← v14]; exact box_new _ _ _ 5 _ rfl); have v16 : a15.cell? ⟨b10.heap.size, 6, none⟩ = some (.int .i64 c14) := (by rw [← v14]; exact box_new _ _ _ 6 _ rfl); have a17 : a15.cell? ⟨b10.heap.size, 7, none⟩ = some (.int .i64 y13) := (by rw [← v14]; exact box_new _ _ _ 7 _ rfl); have q16 : a15.cell? ⟨b10.heap.size, 8, none⟩ = some (.int .i64 d14) := (by rw [← v14]; exact box_new _ _ _ 8 _ rfl); replace H := bind3_hid H; obtain ⟨v15, e19, t15, i19, H⟩ := H; obtain ⟨k14, j14, g14, l14, i14, f14, m14, h14, n14⟩ := e19; replace H := unCover_hid H; go_wp2_with fail; clear c17 e16 z16 y16 k17 q17 s16 o17 e17; go_at_call 8; refine (GsLeastChange.C fuel (t_5a) ((PCover.Cover.mk z11 x11 f12 a12 b12 y11 e12 c12 d12)) a14 t13 _   (Lib.hid (own_cells a10.out)) (Lib.hid (own_max a10.out)) i19).mono ?_; rintro o21 c10 ⟨rfl, p13⟩; unfold PCover.Cover.val; have y20 := Lib.hid (Below.step k19.out p13); replace i16 := cell_below p13 i16; replace p16 := cell_below p13 p16; replace h16 := cell_below p13 h16; replace d16 := cell_below p13 d16; replace x16 := cell_below p13 x16; replace n16 := cell_below p13 n16; replace l17 := cell_below p13 l17; replace m16 := cell_below p13 m16; replace w16 := cell_below p13 w16; replace f17 := cell_below p13 f17; replace o16 := cell_below p13 o16; replace j17 := cell_below p13 j17; replace a16 := cell_below p13 a16; replace m17 := cell_below p13 m17; replace l16 := cell_below p13 l16; replace v16 := cell_below p13 v16; replace a17 := cell_below p13 a17; replace q16 := cell_below p13 q16; replace a10 := Lib.hid (own_below a10.out p13); clear p13; obtain ⟨w14, x14⟩ : ∃ x, c10.alloc (.cells #[.int .i64 k14, .int .i64 j14, .int .i64 g14, .int .i64 l14, .int .i64 i14, .int .i64 f14, .int .i64 m14, .int .i64 h14, .int .i64 n14] 26) = x := ⟨_, rfl⟩; have o13 : Below c10.heap.size c10 w14 := (by rw [← x14]; exact (Below.refl _ _).alloc (Nat.le_refl _) _); have c23 := Lib.hid (apart_fresh a10.out); have e18 := Lib.hid (Below.step y20.out o13); have g10 := cell_below o13 i16; have h11 := cell_below o13 p16; have p10 := cell_below o13 h16; have a11 := cell_below o13 d16; have y10 := cell_below o13 x16; have e11 := cell_below o13 n16; have f11 := cell_below o13 l17; have g11 := cell_below o13 m16; have d11 := cell_below o13 w16; have i10 := cell_below o13 f17; have q10 := cell_below o13 o16; have c11 := cell_below o13 j17; have z10 := cell_below o13 a16; have s10 := cell_below o13 m17; have x10 := cell_below o13 l16; have j10 := cell_below o13 v16; have m10 := cell_below o13 a17; have k10 := cell_below o13 q16; replace a10 := Lib.hid (own_below a10.out o13); clear o13; have h10 : w14.cell? ⟨c10.heap.size, 0, none⟩ = some (.int .i64 k14) := (by rw [← x14]; exact box_new _ _ _ 0 _ rfl); have r10 : w14.cell? ⟨c10.heap.size, 1, none⟩ = some (.int .i64 j14) := (by rw [← x14]; exact box_new _ _ _ 1 _ rfl); have n10 : w14.cell? ⟨c10.heap.size, 2, none⟩ = some (.int .i64 g14) := (by rw [← x14]; exact box_new _ _ _ 2 _ rfl); have o10 : w14.cell? ⟨c10.heap.size, 3, none⟩ = some (.int .i64 l14) := (by rw [← x14]; exact box_new _ _ _ 3 _ rfl); have l10 : w14.cell? ⟨c10.heap.size, 4, none⟩ = some (.int .i64 i14) := (by rw [← x14]; exact box_new _ _ _ 4 _ rfl); have b11 : w14.cell? ⟨c10.heap.size, 5, none⟩ = some (.int .i64 f14) := (by rw [← x14]; exact box_new _ _ _ 5 _ rfl); have t10 : w14.cell? ⟨c10.heap.size, 6, none⟩ = some (.int .i64 m14) := (by rw [← x14]; exact box_new _ _ _ 6 _ rfl); have w10 : w14.cell? ⟨c10.heap.size, 7, none⟩ = some (.int .i64 h14) := (by rw [← x14]; exact box_new _ _ _ 7 _ rfl); have v10 : w14.cell? ⟨c10.heap.size, 8, none⟩ = some (.int .i64 n14) := (by rw [← x14]; exact box_new _ _ _ 8 _ rfl)
  go_upto_region 6 with fail; clear i16 p16 h16 d16 x16 n16 l17 m16 w16 f17 o16 j17 a16 m17 l16 v16 a17 q16
  go_cut [67] (fun v67_ wr => ∃ (b17 : Bool), v67_ = .bool b17 ∧ Hid (q0 code fuel tapes false t_5a z11 x11 f12 a12 b12 y11 e12 c12 d12 m15 r15 z13 e14 b14 x13 w13 v13 c14 y13 d14 v15 t15 k14 j14 g14 l14 i14 f14 m14 h14 n14 (b17) = some r) ∧ Hid (Below w.heap.size w wr) ∧ wr.cell? ⟨wt_5.heap.size, 0, none⟩ = some (.int .i64 z11) ∧ wr.cell? ⟨wt_5.heap.size, 1, none⟩ = some (.int .i64 x11) ∧ wr.cell? ⟨wt_5.heap.size, 2, none⟩ = some (.int .i64 f12) ∧ wr.cell? ⟨wt_5.heap.size, 3, none⟩ = some (.int .i64 a12) ∧ wr.cell? ⟨wt_5.heap.size, 4, none⟩ = some (.int .i64 b12) ∧ wr.cell? ⟨wt_5.heap.size, 5, none⟩ = some (.int .i64 y11) ∧ wr.cell? ⟨wt_5.heap.size, 6, none⟩ = some (.int .i64 e12) ∧ wr.cell? ⟨wt_5.heap.size, 7, none⟩ = some (.int .i64 c12) ∧ wr.cell? ⟨wt_5.heap.size, 8, none⟩ = some (.int .i64 d12) ∧ wr.cell? ⟨b10.heap.size, 0, none⟩ = some (.int .i64 z13) ∧ wr.cell? ⟨b10.heap.size, 1, none⟩ = some (.int .i64 e14) ∧ wr.cell? ⟨b10.heap.size, 2, none⟩ = some (.int .i64 b14) ∧ wr.cell? ⟨b10.heap.size, 3, none⟩ = some (.int .i64 x13) ∧ wr.cell? ⟨b10.heap.size, 4, none⟩ = some (.int .i64 w13) ∧ wr.cell? ⟨b10.heap.size, 5, none⟩ = some (.int .i64 v13) ∧ wr.cell? ⟨b10.heap.size, 6, none⟩ = some (.int .i64 c14) ∧ wr.cell? ⟨b10.heap.size, 7, none⟩ = some (.int .i64 y13) ∧ wr.cell? ⟨b10.heap.size, 8, none⟩ = some (.int .i64 d14) ∧ wr.cell? ⟨c10.heap.size, 0, none⟩ = some (.int .i64 k14) ∧ wr.cell? ⟨c10.heap.size, 1, none⟩ = some (.int .i64 j14) ∧ wr.cell? ⟨c10.heap.size, 2, none⟩ = some (.int .i64 g14) ∧ wr.cell? ⟨c10.heap.size, 3, none⟩ = some (.int .i64 l14) ∧ wr.cell? ⟨c10.heap.size, 4, none⟩ = some (.int .i64 i14) ∧ wr.cell? ⟨c10.heap.size, 5, none⟩ = some (.int .i64 f14) ∧ wr.cell? ⟨c10.heap.size, 6, none⟩ = some (.int .i64 m14) ∧ wr.cell? ⟨c10.heap.size, 7, none⟩ = some (.int .i64 h14) ∧ wr.cell? ⟨c10.heap.size, 8, none⟩ = some (.int .i64 n14) ∧ Hid (wr.ownsRow w.heap.size 88 5 (.slice a14 t_5a.length t13) t_5a.length (PRate.flat t_5a)))
  case first =>
   as_aux_lemma =>
    replace H := let_hid H; obtain ⟨t_36, b24, H⟩ := H; replace H := join_hid H
    cases t_36 with
    | false =>
     replace H := ite_f H; replace H := let_hid H; obtain ⟨t_40, b21, H⟩ := H; have n21 : ∀ W, (binOp .neq 26 (.agg #[.int .i64 z13, .int .i64 e14, .int .i64 b14, .int .i64 x13, .int .i64 w13, .int .i64 v13, .int .i64 c14, .int .i64 y13, .int .i64 d14]) (.agg #[.int .i64 k14, .int .i64 j14, .int .i64 g14, .int .i64 l14, .int .i64 i14, .int .i64 f14, .int .i64 m14, .int .i64 h14, .int .i64 n14])).run Tryz.prog W = .ok (.bool t_40) W := fun W => (by rw [neqa_26, b21]); replace H := app_hid H; replace H := join_hid H
     cases t_40 with
     | false =>
      replace H := ite_f H; replace H := let_hid H; obtain ⟨t_45, n22, H⟩ := H; replace H := app_hid H; go_wp2_with fail
      go_meet
      case rel => exact ⟨_, rfl, H, e18, g10, h11, p10, a11, y10, e11, f11, g11, d11, i10, q10, c11, z10, s10, x10, j10, m10, k10, h10, r10, n10, o10, l10, b11, t10, w10, v10, a10⟩
     | true =>
      replace H := ite_t H; replace H := app_hid H; go_wp2_with fail
      go_meet
      case rel => exact ⟨_, rfl, H, e18, g10, h11, p10, a11, y10, e11, f11, g11, d11, i10, q10, c11, z10, s10, x10, j10, m10, k10, h10, r10, n10, o10, l10, b11, t10, w10, v10, a10⟩
    | true =>
     replace H := ite_t H; replace H := app_hid H; replace H := join_hid H; replace H := ite_t H; replace H := app_hid H; go_wp2_with fail
     go_meet
     case rel => exact ⟨_, rfl, H, e18, g10, h11, p10, a11, y10, e11, f11, g11, d11, i10, q10, c11, z10, s10, x10, j10, m10, k10, h10, r10, n10, o10, l10, b11, t10, w10, v10, a10⟩
  case rest =>
   as_aux_lemma =>
    obtain ⟨b17, rfl, H, j18, g10, h11, p10, a11, y10, e11, f11, g11, d11, i10, q10, c11, z10, s10, x10, j10, m10, k10, h10, r10, n10, o10, l10, b11, t10, w10, v10, a10⟩ := hcut; rename World => wq0; unfold q0 at H; replace H := let_hid H; obtain ⟨_, rfl, H⟩ := H
    cases b17 with
    | false =>
     replace H := ite_f H; replace H := bind2_hid H; obtain ⟨f10, y15, g19, H⟩ := H; go_wp2_with fail; go_at_call 9; refine (GiPossibleChanges.C (t_5a) ((PCover.Cover.mk z11 x11 f12 a12 b12 y11 e12 c12 d12)) a14 t13 _   (Lib.hid (own_cells a10.out)) (Lib.hid (own_max a10.out)) g19).mono ?_; rintro s21 r24 ⟨z14, s14, rfl, q15, w11⟩; have j21 := Lib.hid (apart_call q15 a10.out); have k22 := Lib.hid (apart_callbox q15 g10); have d23 := Lib.hid (apart_callbox q15 i10); have m22 := Lib.hid (apart_callbox q15 h10); have d10 := Lib.hid (own_lower q15 j18.out.size); clear q15; have w18 := Lib.hid (Below.step j18.out w11); replace g10 := cell_below w11 g10; replace h11 := cell_below w11 h11; replace p10 := cell_below w11 p10; replace a11 := cell_below w11 a11; replace y10 := cell_below w11 y10; replace e11 := cell_below w11 e11; replace f11 := cell_below w11 f11; replace g11 := cell_below w11 g11; replace d11 := cell_below w11 d11; replace i10 := cell_below w11 i10; replace q10 := cell_below w11 q10; replace c11 := cell_below w11 c11; replace z10 := cell_below w11 z10; replace s10 := cell_below w11 s10; replace x10 := cell_below w11 x10; replace j10 := cell_below w11 j10; replace m10 := cell_below w11 m10; replace k10 := cell_below w11 k10; replace h10 := cell_below w11 h10; replace r10 := cell_below w11 r10; replace n10 := cell_below w11 n10; replace o10 := cell_below w11 o10; replace l10 := cell_below w11 l10; replace b11 := cell_below w11 b11; replace t10 := cell_below w11 t10; replace w10 := cell_below w11 w10; replace v10 := cell_below w11 v10; replace a10 := Lib.hid (own_below a10.out w11); clear w11; replace H := bind2_hid H; obtain ⟨v11, z15, t19, H⟩ := H; go_wp2_with fail; go_at_call 10; refine (GsPossibleChanges.C fuel (t_5a) ((PCover.Cover.mk z11 x11 f12 a12 b12 y11 e12 c12 d12)) a14 t13 _   (Lib.hid (own_cells a10.out)) (Lib.hid (own_max a10.out)) t19).mono ?_; rintro k24 q22 ⟨e15, g15, rfl, o15, t11⟩; have p21 := Lib.hid (apart_call o15 a10.out); have x22 := Lib.hid (apart_call o15 d10.out); have y23 := Lib.hid (apart_callbox o15 g10); have l22 := Lib.hid (apart_callbox o15 i10); have w23 := Lib.hid (apart_callbox o15 h10); have e10 := Lib.hid (own_lower o15 w18.out.size); clear o15; have c19 := Lib.hid (Below.step w18.out t11); replace g10 := cell_below t11 g10; replace h11 := cell_below t11 h11; replace p10 := cell_below t11 p10; replace a11 := cell_below t11 a11; replace y10 := cell_below t11 y10; replace e11 := cell_below t11 e11; replace f11 := cell_below t11 f11; replace g11 := cell_below t11 g11; replace d11 := cell_below t11 d11; replace i10 := cell_below t11 i10; replace q10 := cell_below t11 q10; replace c11 := cell_below t11 c11; replace z10 := cell_below t11 z10; replace s10 := cell_below t11 s10; replace x10 := cell_below t11 x10; replace j10 := cell_below t11 j10; replace m10 := cell_below t11 m10; replace k10 := cell_below t11 k10; replace h10 := cell_below t11 h10; replace r10 := cell_below t11 r10; replace n10 := cell_below t11 n10; replace o10 := cell_below t11 o10; replace l10 := cell_below t11 l10; replace b11 := cell_below t11 b11; replace t10 := cell_below t11 t10; replace w10 := cell_below t11 w10; replace v10 := cell_below t11 v10; replace a10 := Lib.hid (own_below a10.out t11); replace d10 := Lib.hid (own_below d10.out t11); clear t11; go_upto_region 10 with fail
     go_cut [95] (fun v95_ wr => ∃ (i17 : Bool), v95_ = .bool i17 ∧ Hid (q1 code fuel tapes false t_5a z11 x11 f12 a12 b12 y11 e12 c12 d12 m15 r15 z13 e14 b14 x13 w13 v13 c14 y13 d14 v15 t15 k14 j14 g14 l14 i14 f14 m14 h14 n14 false f10 y15 v11 z15 (i17) = some r) ∧ Hid (Below w.heap.size w wr) ∧ wr.cell? ⟨wt_5.heap.size, 0, none⟩ = some (.int .i64 z11) ∧ wr.cell? ⟨wt_5.heap.size, 1, none⟩ = some (.int .i64 x11) ∧ wr.cell? ⟨wt_5.heap.size, 2, none⟩ = some (.int .i64 f12) ∧ wr.cell? ⟨wt_5.heap.size, 3, none⟩ = some (.int .i64 a12) ∧ wr.cell? ⟨wt_5.heap.size, 4, none⟩ = some (.int .i64 b12) ∧ wr.cell? ⟨wt_5.heap.size, 5, none⟩ = some (.int .i64 y11) ∧ wr.cell? ⟨wt_5.heap.size, 6, none⟩ = some (.int .i64 e12) ∧ wr.cell? ⟨wt_5.heap.size, 7, none⟩ = some (.int .i64 c12) ∧ wr.cell? ⟨wt_5.heap.size, 8, none⟩ = some (.int .i64 d12) ∧ wr.cell? ⟨b10.heap.size, 0, none⟩ = some (.int .i64 z13) ∧ wr.cell? ⟨b10.heap.size, 1, none⟩ = some (.int .i64 e14) ∧ wr.cell? ⟨b10.heap.size, 2, none⟩ = some (.int .i64 b14) ∧ wr.cell? ⟨b10.heap.size, 3, none⟩ = some (.int .i64 x13) ∧ wr.cell? ⟨b10.heap.size, 4, none⟩ = some (.int .i64 w13) ∧ wr.cell? ⟨b10.heap.size, 5, none⟩ = some (.int .i64 v13) ∧ wr.cell? ⟨b10.heap.size, 6, none⟩ = some (.int .i64 c14) ∧ wr.cell? ⟨b10.heap.size, 7, none⟩ = some (.int .i64 y13) ∧ wr.cell? ⟨b10.heap.size, 8, none⟩ = some (.int .i64 d14) ∧ wr.cell? ⟨c10.heap.size, 0, none⟩ = some (.int .i64 k14) ∧ wr.cell? ⟨c10.heap.size, 1, none⟩ = some (.int .i64 j14) ∧ wr.cell? ⟨c10.heap.size, 2, none⟩ = some (.int .i64 g14) ∧ wr.cell? ⟨c10.heap.size, 3, none⟩ = some (.int .i64 l14) ∧ wr.cell? ⟨c10.heap.size, 4, none⟩ = some (.int .i64 i14) ∧ wr.cell? ⟨c10.heap.size, 5, none⟩ = some (.int .i64 f14) ∧ wr.cell? ⟨c10.heap.size, 6, none⟩ = some (.int .i64 m14) ∧ wr.cell? ⟨c10.heap.size, 7, none⟩ = some (.int .i64 h14) ∧ wr.cell? ⟨c10.heap.size, 8, none⟩ = some (.int .i64 n14) ∧ Hid (wr.ownsRow w.heap.size 88 5 (.slice a14 t_5a.length t13) t_5a.length (PRate.flat t_5a)) ∧ Hid (wr.ownsRow w.heap.size 3 1 (.slice z14 f10.length s14) f10.length (HelpInt.iv f10)) ∧ Hid (wr.ownsRow w.heap.size 3 1 (.slice e15 v11.length g15) v11.length (HelpInt.iv v11)))
     case first =>
      as_aux_lemma =>
       replace H := let_hid H; obtain ⟨t_66, r22, H⟩ := H; replace H := join_hid H
       cases t_66 with
       | false =>
        replace H := ite_f H; replace H := bind_hid H; obtain ⟨t_70, d19, H⟩ := H; go_wp2_with fail; go_at_call 11; refine (GlVInts.C (f10) (v11) z14 s14 e15 g15 _   (Lib.hid (own_cells d10.out)) (Lib.hid (own_max d10.out)) (Lib.hid (own_cells e10.out)) (Lib.hid (own_max e10.out)) d19).mono ?_; rintro g22 h22 ⟨rfl, o11⟩; have z18 := Lib.hid (Below.step c19.out o11); replace g10 := cell_below o11 g10; replace h11 := cell_below o11 h11; replace p10 := cell_below o11 p10; replace a11 := cell_below o11 a11; replace y10 := cell_below o11 y10; replace e11 := cell_below o11 e11; replace f11 := cell_below o11 f11; replace g11 := cell_below o11 g11; replace d11 := cell_below o11 d11; replace i10 := cell_below o11 i10; replace q10 := cell_below o11 q10; replace c11 := cell_below o11 c11; replace z10 := cell_below o11 z10; replace s10 := cell_below o11 s10; replace x10 := cell_below o11 x10; replace j10 := cell_below o11 j10; replace m10 := cell_below o11 m10; replace k10 := cell_below o11 k10; replace h10 := cell_below o11 h10; replace r10 := cell_below o11 r10; replace n10 := cell_below o11 n10; replace o10 := cell_below o11 o10; replace l10 := cell_below o11 l10; replace b11 := cell_below o11 b11; replace t10 := cell_below o11 t10; replace w10 := cell_below o11 w10; replace v10 := cell_below o11 v10; replace a10 := Lib.hid (own_below a10.out o11); replace d10 := Lib.hid (own_below d10.out o11); replace e10 := Lib.hid (own_below e10.out o11); clear o11
        cases t_70 with
        | false =>
         replace H := let_hid H; obtain ⟨t_71, h18, H⟩ := H; obtain rfl : t_71 = true := h18.symm; replace H := app_hid H; replace H := join_hid H; replace H := ite_t H; replace H := app_hid H; go_wp2_with fail
         go_meet
         case rel => exact ⟨_, rfl, H, z18, g10, h11, p10, a11, y10, e11, f11, g11, d11, i10, q10, c11, z10, s10, x10, j10, m10, k10, h10, r10, n10, o10, l10, b11, t10, w10, v10, a10, d10, e10⟩
        | true =>
         replace H := let_hid H; obtain ⟨t_71, h18, H⟩ := H; obtain rfl : t_71 = false := h18.symm; replace H := app_hid H; replace H := join_hid H; replace H := ite_f H; replace H := let_hid H; obtain ⟨t_77, x19, H⟩ := H; have s23 : decide (0 < f10.length) = t_77 := (by rw [← x19, decide_eq_decide]; omega); replace H := let_hid H; obtain ⟨t_78, i21, H⟩ := H; replace H := app_hid H; go_wp2_with fail
         go_meet
         case rel => exact ⟨_, rfl, H, z18, g10, h11, p10, a11, y10, e11, f11, g11, d11, i10, q10, c11, z10, s10, x10, j10, m10, k10, h10, r10, n10, o10, l10, b11, t10, w10, v10, a10, d10, e10⟩
       | true =>
        replace H := ite_t H; replace H := app_hid H; replace H := join_hid H; replace H := ite_t H; replace H := app_hid H; go_wp2_with fail
        go_meet
        case rel => exact ⟨_, rfl, H, c19, g10, h11, p10, a11, y10, e11, f11, g11, d11, i10, q10, c11, z10, s10, x10, j10, m10, k10, h10, r10, n10, o10, l10, b11, t10, w10, v10, a10, d10, e10⟩
     case rest =>
      as_aux_lemma =>
       obtain ⟨i17, rfl, H, p18, g10, h11, p10, a11, y10, e11, f11, g11, d11, i10, q10, c11, z10, s10, x10, j10, m10, k10, h10, r10, n10, o10, l10, b11, t10, w10, v10, a10, d10, e10⟩ := hcut; rename World => wq1; unfold q1 at H; replace H := let_hid H; obtain ⟨_, rfl, H⟩ := H
       cases i17 with
       | false =>
        replace H := ite_f H; replace H := bind2_hid H; obtain ⟨w15, b16, p20, H⟩ := H; go_wp2_with fail; go_at_call 12; refine (GiIsExplained.C (t_5a) ((PCover.Cover.mk z11 x11 f12 a12 b12 y11 e12 c12 d12)) a14 t13 _   (Lib.hid (own_cells a10.out)) (Lib.hid (own_max a10.out)) p20).mono ?_; rintro p22 a23 ⟨rfl, n11⟩; have t20 := Lib.hid (Below.step p18.out n11); replace g10 := cell_below n11 g10; replace h11 := cell_below n11 h11; replace p10 := cell_below n11 p10; replace a11 := cell_below n11 a11; replace y10 := cell_below n11 y10; replace e11 := cell_below n11 e11; replace f11 := cell_below n11 f11; replace g11 := cell_below n11 g11; replace d11 := cell_below n11 d11; replace i10 := cell_below n11 i10; replace q10 := cell_below n11 q10; replace c11 := cell_below n11 c11; replace z10 := cell_below n11 z10; replace s10 := cell_below n11 s10; replace x10 := cell_below n11 x10; replace j10 := cell_below n11 j10; replace m10 := cell_below n11 m10; replace k10 := cell_below n11 k10; replace h10 := cell_below n11 h10; replace r10 := cell_below n11 r10; replace n10 := cell_below n11 n10; replace o10 := cell_below n11 o10; replace l10 := cell_below n11 l10; replace b11 := cell_below n11 b11; replace t10 := cell_below n11 t10; replace w10 := cell_below n11 w10; replace v10 := cell_below n11 v10; replace a10 := Lib.hid (own_below a10.out n11); replace d10 := Lib.hid (own_below d10.out n11); replace e10 := Lib.hid (own_below e10.out n11); clear n11; replace H := bind2_hid H; obtain ⟨n15, k16, m19, H⟩ := H; go_wp2_with fail; go_at_call 13; refine (GsIsExplained.C fuel (t_5a) ((PCover.Cover.mk z11 x11 f12 a12 b12 y11 e12 c12 d12)) a14 t13 _   (Lib.hid (own_cells a10.out)) (Lib.hid (own_max a10.out)) m19).mono ?_; rintro l24 a24 ⟨rfl, r11⟩; have s15 := Lib.hid (Below.step t20.out r11); replace g10 := cell_below r11 g10; replace h11 := cell_below r11 h11; replace p10 := cell_below r11 p10; replace a11 := cell_below r11 a11; replace y10 := cell_below r11 y10; replace e11 := cell_below r11 e11; replace f11 := cell_below r11 f11; replace g11 := cell_below r11 g11; replace d11 := cell_below r11 d11; replace i10 := cell_below r11 i10; replace q10 := cell_below r11 q10; replace c11 := cell_below r11 c11; replace z10 := cell_below r11 z10; replace s10 := cell_below r11 s10; replace x10 := cell_below r11 x10; replace j10 := cell_below r11 j10; replace m10 := cell_below r11 m10; replace k10 := cell_below r11 k10; replace h10 := cell_below r11 h10; replace r10 := cell_below r11 r10; replace n10 := cell_below r11 n10; replace o10 := cell_below r11 o10; replace l10 := cell_below r11 l10; replace b11 := cell_below r11 b11; replace t10 := cell_below r11 t10; replace w10 := cell_below r11 w10; replace v10 := cell_below r11 v10; replace a10 := Lib.hid (own_below a10.out r11); replace d10 := Lib.hid (own_below d10.out r11); replace e10 := Lib.hid (own_below e10.out r11); clear r11; go_upto_region 14 with fail
        go_cut [129] (fun v129_ wr => ∃ (r16 : Bool), v129_ = .bool r16 ∧ Hid (q2 code fuel tapes false t_5a z11 x11 f12 a12 b12 y11 e12 c12 d12 m15 r15 z13 e14 b14 x13 w13 v13 c14 y13 d14 v15 t15 k14 j14 g14 l14 i14 f14 m14 h14 n14 false f10 y15 v11 z15 false w15 b16 n15 k16 (r16) = some r) ∧ Hid (Below w.heap.size w wr) ∧ wr.cell? ⟨wt_5.heap.size, 0, none⟩ = some (.int .i64 z11) ∧ wr.cell? ⟨wt_5.heap.size, 1, none⟩ = some (.int .i64 x11) ∧ wr.cell? ⟨wt_5.heap.size, 2, none⟩ = some (.int .i64 f12) ∧ wr.cell? ⟨wt_5.heap.size, 3, none⟩ = some (.int .i64 a12) ∧ wr.cell? ⟨wt_5.heap.size, 4, none⟩ = some (.int .i64 b12) ∧ wr.cell? ⟨wt_5.heap.size, 5, none⟩ = some (.int .i64 y11) ∧ wr.cell? ⟨wt_5.heap.size, 6, none⟩ = some (.int .i64 e12) ∧ wr.cell? ⟨wt_5.heap.size, 7, none⟩ = some (.int .i64 c12) ∧ wr.cell? ⟨wt_5.heap.size, 8, none⟩ = some (.int .i64 d12) ∧ wr.cell? ⟨b10.heap.size, 0, none⟩ = some (.int .i64 z13) ∧ wr.cell? ⟨b10.heap.size, 1, none⟩ = some (.int .i64 e14) ∧ wr.cell? ⟨b10.heap.size, 2, none⟩ = some (.int .i64 b14) ∧ wr.cell? ⟨b10.heap.size, 3, none⟩ = some (.int .i64 x13) ∧ wr.cell? ⟨b10.heap.size, 4, none⟩ = some (.int .i64 w13) ∧ wr.cell? ⟨b10.heap.size, 5, none⟩ = some (.int .i64 v13) ∧ wr.cell? ⟨b10.heap.size, 6, none⟩ = some (.int .i64 c14) ∧ wr.cell? ⟨b10.heap.size, 7, none⟩ = some (.int .i64 y13) ∧ wr.cell? ⟨b10.heap.size, 8, none⟩ = some (.int .i64 d14) ∧ wr.cell? ⟨c10.heap.size, 0, none⟩ = some (.int .i64 k14) ∧ wr.cell? ⟨c10.heap.size, 1, none⟩ = some (.int .i64 j14) ∧ wr.cell? ⟨c10.heap.size, 2, none⟩ = some (.int .i64 g14) ∧ wr.cell? ⟨c10.heap.size, 3, none⟩ = some (.int .i64 l14) ∧ wr.cell? ⟨c10.heap.size, 4, none⟩ = some (.int .i64 i14) ∧ wr.cell? ⟨c10.heap.size, 5, none⟩ = some (.int .i64 f14) ∧ wr.cell? ⟨c10.heap.size, 6, none⟩ = some (.int .i64 m14) ∧ wr.cell? ⟨c10.heap.size, 7, none⟩ = some (.int .i64 h14) ∧ wr.cell? ⟨c10.heap.size, 8, none⟩ = some (.int .i64 n14) ∧ Hid (wr.ownsRow w.heap.size 88 5 (.slice a14 t_5a.length t13) t_5a.length (PRate.flat t_5a)) ∧ Hid (wr.ownsRow w.heap.size 3 1 (.slice z14 f10.length s14) f10.length (HelpInt.iv f10)) ∧ Hid (wr.ownsRow w.heap.size 3 1 (.slice e15 v11.length g15) v11.length (HelpInt.iv v11)))
        case first =>
         as_aux_lemma =>
          replace H := let_hid H; obtain ⟨t_99, x18, H⟩ := H; replace H := join_hid H
          cases t_99 with
          | false =>
           replace H := ite_f H; replace H := let_hid H; obtain ⟨p19, j24, H⟩ := H; replace H := app_hid H; replace H := join_hid H
           cases p19 with
           | false =>
            replace H := ite_f H; replace H := let_hid H; obtain ⟨r20, v23, H⟩ := H; replace H := app_hid H; replace H := join_hid H
            cases r20 with
            | false =>
             replace H := ite_f H; replace H := join_hid H
             cases r15 with
             | false =>
              replace H := ite_f H; replace H := app_hid H
              cases w15 with
              | false =>
               obtain rfl : n15 = false := by revert x18; cases n15 <;> simp
               replace H := let_hid H; obtain ⟨n17, p17, H⟩ := H; obtain rfl : n17 = false := p17.symm; replace H := app_hid H; go_wp2_with fail
               go_meet
               case rel => exact ⟨_, rfl, H, s15, g10, h11, p10, a11, y10, e11, f11, g11, d11, i10, q10, c11, z10, s10, x10, j10, m10, k10, h10, r10, n10, o10, l10, b11, t10, w10, v10, a10, d10, e10⟩
              | true =>
               obtain rfl : n15 = true := by revert x18; cases n15 <;> simp
               replace H := let_hid H; obtain ⟨n17, p17, H⟩ := H; obtain rfl : n17 = true := p17.symm; replace H := app_hid H; go_wp2_with fail
               go_meet
               case rel => exact ⟨_, rfl, H, s15, g10, h11, p10, a11, y10, e11, f11, g11, d11, i10, q10, c11, z10, s10, x10, j10, m10, k10, h10, r10, n10, o10, l10, b11, t10, w10, v10, a10, d10, e10⟩
             | true =>
              replace H := ite_t H; replace H := let_hid H; obtain ⟨s22, f24, H⟩ := H; replace H := app_hid H; replace H := let_hid H; obtain ⟨n17, p17, H⟩ := H; replace H := app_hid H; go_wp2_with fail
              go_meet
              case rel => exact ⟨_, rfl, H, s15, g10, h11, p10, a11, y10, e11, f11, g11, d11, i10, q10, c11, z10, s10, x10, j10, m10, k10, h10, r10, n10, o10, l10, b11, t10, w10, v10, a10, d10, e10⟩
            | true =>
             replace H := ite_t H; replace H := app_hid H; go_wp2_with fail
             go_meet
             case rel => exact ⟨_, rfl, H, s15, g10, h11, p10, a11, y10, e11, f11, g11, d11, i10, q10, c11, z10, s10, x10, j10, m10, k10, h10, r10, n10, o10, l10, b11, t10, w10, v10, a10, d10, e10⟩
           | true =>
            replace H := ite_t H; replace H := app_hid H; replace H := join_hid H; replace H := ite_t H; replace H := app_hid H; go_wp2_with fail
            go_meet
            case rel => exact ⟨_, rfl, H, s15, g10, h11, p10, a11, y10, e11, f11, g11, d11, i10, q10, c11, z10, s10, x10, j10, m10, k10, h10, r10, n10, o10, l10, b11, t10, w10, v10, a10, d10, e10⟩
          | true =>
           replace H := ite_t H; replace H := app_hid H; replace H := join_hid H; replace H := ite_t H; replace H := app_hid H; replace H := join_hid H; replace H := ite_t H; replace H := app_hid H; go_wp2_with fail
           go_meet
           case rel => exact ⟨_, rfl, H, s15, g10, h11, p10, a11, y10, e11, f11, g11, d11, i10, q10, c11, z10, s10, x10, j10, m10, k10, h10, r10, n10, o10, l10, b11, t10, w10, v10, a10, d10, e10⟩
        case rest =>
         as_aux_lemma =>
          obtain ⟨r16, rfl, H, k18, g10, h11, p10, a11, y10, e11, f11, g11, d11, i10, q10, c11, z10, s10, x10, j10, m10, k10, h10, r10, n10, o10, l10, b11, t10, w10, v10, a10, d10, e10⟩ := hcut; rename World => wq2; unfold q2 at H; replace H := let_hid H; obtain ⟨_, rfl, H⟩ := H
          cases r16 with
          | false =>
           replace H := ite_f H; go_upto_if 130 with fail
           go_cut [] (fun  wr => Hid (q3 fuel t_5a z11 x11 f12 a12 b12 y11 e12 c12 d12 r15 f10 () = some r) ∧ Hid (Below w.heap.size w wr) ∧ wr.cell? ⟨wt_5.heap.size, 0, none⟩ = some (.int .i64 z11) ∧ wr.cell? ⟨wt_5.heap.size, 1, none⟩ = some (.int .i64 x11) ∧ wr.cell? ⟨wt_5.heap.size, 2, none⟩ = some (.int .i64 f12) ∧ wr.cell? ⟨wt_5.heap.size, 3, none⟩ = some (.int .i64 a12) ∧ wr.cell? ⟨wt_5.heap.size, 4, none⟩ = some (.int .i64 b12) ∧ wr.cell? ⟨wt_5.heap.size, 5, none⟩ = some (.int .i64 y11) ∧ wr.cell? ⟨wt_5.heap.size, 6, none⟩ = some (.int .i64 e12) ∧ wr.cell? ⟨wt_5.heap.size, 7, none⟩ = some (.int .i64 c12) ∧ wr.cell? ⟨wt_5.heap.size, 8, none⟩ = some (.int .i64 d12) ∧ wr.cell? ⟨b10.heap.size, 0, none⟩ = some (.int .i64 z13) ∧ wr.cell? ⟨b10.heap.size, 1, none⟩ = some (.int .i64 e14) ∧ wr.cell? ⟨b10.heap.size, 2, none⟩ = some (.int .i64 b14) ∧ wr.cell? ⟨b10.heap.size, 3, none⟩ = some (.int .i64 x13) ∧ wr.cell? ⟨b10.heap.size, 4, none⟩ = some (.int .i64 w13) ∧ wr.cell? ⟨b10.heap.size, 5, none⟩ = some (.int .i64 v13) ∧ wr.cell? ⟨b10.heap.size, 6, none⟩ = some (.int .i64 c14) ∧ wr.cell? ⟨b10.heap.size, 7, none⟩ = some (.int .i64 y13) ∧ wr.cell? ⟨b10.heap.size, 8, none⟩ = some (.int .i64 d14) ∧ wr.cell? ⟨c10.heap.size, 0, none⟩ = some (.int .i64 k14) ∧ wr.cell? ⟨c10.heap.size, 1, none⟩ = some (.int .i64 j14) ∧ wr.cell? ⟨c10.heap.size, 2, none⟩ = some (.int .i64 g14) ∧ wr.cell? ⟨c10.heap.size, 3, none⟩ = some (.int .i64 l14) ∧ wr.cell? ⟨c10.heap.size, 4, none⟩ = some (.int .i64 i14) ∧ wr.cell? ⟨c10.heap.size, 5, none⟩ = some (.int .i64 f14) ∧ wr.cell? ⟨c10.heap.size, 6, none⟩ = some (.int .i64 m14) ∧ wr.cell? ⟨c10.heap.size, 7, none⟩ = some (.int .i64 h14) ∧ wr.cell? ⟨c10.heap.size, 8, none⟩ = some (.int .i64 n14) ∧ Hid (wr.ownsRow w.heap.size 88 5 (.slice a14 t_5a.length t13) t_5a.length (PRate.flat t_5a)) ∧ Hid (wr.ownsRow w.heap.size 3 1 (.slice z14 f10.length s14) f10.length (HelpInt.iv f10)) ∧ Hid (wr.ownsRow w.heap.size 3 1 (.slice e15 v11.length g15) v11.length (HelpInt.iv v11)))
           case first =>
            as_aux_lemma =>
             cases r15 with
             | false =>
              replace H := ite_f H; go_wp2_with fail
              go_meet
              case rel => exact ⟨H, k18, g10, h11, p10, a11, y10, e11, f11, g11, d11, i10, q10, c11, z10, s10, x10, j10, m10, k10, h10, r10, n10, o10, l10, b11, t10, w10, v10, a10, d10, e10⟩
             | true =>
              replace H := ite_t H; replace H := bind2_hid H; obtain ⟨m20, f16, k20, H⟩ := H; obtain ⟨c15, h15, b15, l15, d15, k15, f15, i15, j15⟩ := m20; replace H := unCover_hid H; go_wp2_with fail; go_at_call 14; refine (GiMakeCover.C (t_5a) ((PCover.Cover.mk z11 x11 f12 a12 b12 y11 e12 c12 d12)) (m15) a14 t13 _   (Lib.hid (own_cells a10.out)) (Lib.hid (own_max a10.out)) k20).mono ?_; rintro b22 l11 ⟨rfl, p11⟩; unfold PCover.Cover.val; have b20 := Lib.hid (Below.step k18.out p11); replace g10 := cell_below p11 g10; replace h11 := cell_below p11 h11; replace p10 := cell_below p11 p10; replace a11 := cell_below p11 a11; replace y10 := cell_below p11 y10; replace e11 := cell_below p11 e11; replace f11 := cell_below p11 f11; replace g11 := cell_below p11 g11; replace d11 := cell_below p11 d11; replace i10 := cell_below p11 i10; replace q10 := cell_below p11 q10; replace c11 := cell_below p11 c11; replace z10 := cell_below p11 z10; replace s10 := cell_below p11 s10; replace x10 := cell_below p11 x10; replace j10 := cell_below p11 j10; replace m10 := cell_below p11 m10; replace k10 := cell_below p11 k10; replace h10 := cell_below p11 h10; replace r10 := cell_below p11 r10; replace n10 := cell_below p11 n10; replace o10 := cell_below p11 o10; replace l10 := cell_below p11 l10; replace b11 := cell_below p11 b11; replace t10 := cell_below p11 t10; replace w10 := cell_below p11 w10; replace v10 := cell_below p11 v10; replace a10 := Lib.hid (own_below a10.out p11); replace d10 := Lib.hid (own_below d10.out p11); replace e10 := Lib.hid (own_below e10.out p11); clear p11; obtain ⟨r14, y14⟩ : ∃ x, l11.alloc (.cells #[.int .i64 c15, .int .i64 h15, .int .i64 b15, .int .i64 l15, .int .i64 d15, .int .i64 k15, .int .i64 f15, .int .i64 i15, .int .i64 j15] 26) = x := ⟨_, rfl⟩; have s11 : Below l11.heap.size l11 r14 := (by rw [← y14]; exact (Below.refl _ _).alloc (Nat.le_refl _) _); have e22 := Lib.hid (apart_fresh a10.out); have l23 := Lib.hid (apart_fresh d10.out); have f21 := Lib.hid (apart_fresh e10.out); have h20 := Lib.hid (Below.step b20.out s11); have c13 := cell_below s11 g10; have e13 := cell_below s11 h11; have t12 := cell_below s11 p10; have i12 := cell_below s11 a11; have f13 := cell_below s11 y10; have l12 := cell_below s11 e11; have g13 := cell_below s11 f11; have z12 := cell_below s11 g11; have w12 := cell_below s11 d11; have b13 := cell_below s11 i10; have o12 := cell_below s11 q10; have y12 := cell_below s11 c11; have a13 := cell_below s11 z10; have h13 := cell_below s11 s10; have k12 := cell_below s11 x10; have s12 := cell_below s11 j10; have x12 := cell_below s11 m10; have v12 := cell_below s11 k10; have p12 := cell_below s11 h10; have n12 := cell_below s11 r10; have q12 := cell_below s11 n10; have m12 := cell_below s11 o10; have j12 := cell_below s11 l10; have d13 := cell_below s11 b11; have g12 := cell_below s11 t10; have h12 := cell_below s11 w10; have r12 := cell_below s11 v10; replace a10 := Lib.hid (own_below a10.out s11); replace d10 := Lib.hid (own_below d10.out s11); replace e10 := Lib.hid (own_below e10.out s11); clear s11; have l13 : r14.cell? ⟨l11.heap.size, 0, none⟩ = some (.int .i64 c15) := (by rw [← y14]; exact box_new _ _ _ 0 _ rfl); have q13 : r14.cell? ⟨l11.heap.size, 1, none⟩ = some (.int .i64 h15) := (by rw [← y14]; exact box_new _ _ _ 1 _ rfl); have m13 : r14.cell? ⟨l11.heap.size, 2, none⟩ = some (.int .i64 b15) := (by rw [← y14]; exact box_new _ _ _ 2 _ rfl); have k13 : r14.cell? ⟨l11.heap.size, 3, none⟩ = some (.int .i64 l15) := (by rw [← y14]; exact box_new _ _ _ 3 _ rfl); have r13 : r14.cell? ⟨l11.heap.size, 4, none⟩ = some (.int .i64 d15) := (by rw [← y14]; exact box_new _ _ _ 4 _ rfl); have j13 : r14.cell? ⟨l11.heap.size, 5, none⟩ = some (.int .i64 k15) := (by rw [← y14]; exact box_new _ _ _ 5 _ rfl); have n13 : r14.cell? ⟨l11.heap.size, 6, none⟩ = some (.int .i64 f15) := (by rw [← y14]; exact box_new _ _ _ 6 _ rfl); have i13 : r14.cell? ⟨l11.heap.size, 7, none⟩ = some (.int .i64 i15) := (by rw [← y14]; exact box_new _ _ _ 7 _ rfl)
              have s13 : r14.cell? ⟨l11.heap.size, 8, none⟩ = some (.int .i64 j15) := (by rw [← y14]; exact box_new _ _ _ 8 _ rfl); replace H := bind2_hid H; obtain ⟨g16, t16, y19, H⟩ := H; go_wp2_with fail; clear g10 h11 p10 a11 y10 e11 f11 g11 d11 i10 q10 c11 z10 s10 x10 j10 m10 k10 h10 r10 n10 o10 l10 b11 t10 w10 v10; go_at_call 12; refine (GiIsExplained.C (t_5a) ((PCover.Cover.mk z13 e14 b14 x13 w13 v13 c14 y13 d14)) a14 t13 _   (Lib.hid (own_cells a10.out)) (Lib.hid (own_max a10.out)) y19).mono ?_; rintro x23 c22 ⟨rfl, k11⟩; have j19 := Lib.hid (Below.step h20.out k11); replace c13 := cell_below k11 c13; replace e13 := cell_below k11 e13; replace t12 := cell_below k11 t12; replace i12 := cell_below k11 i12; replace f13 := cell_below k11 f13; replace l12 := cell_below k11 l12; replace g13 := cell_below k11 g13; replace z12 := cell_below k11 z12; replace w12 := cell_below k11 w12; replace b13 := cell_below k11 b13; replace o12 := cell_below k11 o12; replace y12 := cell_below k11 y12; replace a13 := cell_below k11 a13; replace h13 := cell_below k11 h13; replace k12 := cell_below k11 k12; replace s12 := cell_below k11 s12; replace x12 := cell_below k11 x12; replace v12 := cell_below k11 v12; replace p12 := cell_below k11 p12; replace n12 := cell_below k11 n12; replace q12 := cell_below k11 q12; replace m12 := cell_below k11 m12; replace j12 := cell_below k11 j12; replace d13 := cell_below k11 d13; replace g12 := cell_below k11 g12; replace h12 := cell_below k11 h12; replace r12 := cell_below k11 r12; replace l13 := cell_below k11 l13; replace q13 := cell_below k11 q13; replace m13 := cell_below k11 m13; replace k13 := cell_below k11 k13; replace r13 := cell_below k11 r13; replace j13 := cell_below k11 j13; replace n13 := cell_below k11 n13; replace i13 := cell_below k11 i13; replace s13 := cell_below k11 s13; replace a10 := Lib.hid (own_below a10.out k11); replace d10 := Lib.hid (own_below d10.out k11); replace e10 := Lib.hid (own_below e10.out k11); clear k11; replace H := bind3_hid H; obtain ⟨t17, p15, j16, r19, H⟩ := H; go_wp2_with fail; go_at_call 15; refine (GiCheapestChange.C fuel (t_5a) ((PCover.Cover.mk z11 x11 f12 a12 b12 y11 e12 c12 d12)) ((PIntA4.IntA4.mk 1 1 1 1)) a14 t13 _   (Lib.hid (own_cells a10.out)) (Lib.hid (own_max a10.out)) r19).mono ?_; rintro f23 p23 ⟨rfl, i11⟩; have x15 := Lib.hid (Below.step j19.out i11); replace c13 := cell_below i11 c13; replace e13 := cell_below i11 e13; replace t12 := cell_below i11 t12; replace i12 := cell_below i11 i12; replace f13 := cell_below i11 f13; replace l12 := cell_below i11 l12; replace g13 := cell_below i11 g13; replace z12 := cell_below i11 z12; replace w12 := cell_below i11 w12; replace b13 := cell_below i11 b13; replace o12 := cell_below i11 o12; replace y12 := cell_below i11 y12; replace a13 := cell_below i11 a13; replace h13 := cell_below i11 h13; replace k12 := cell_below i11 k12; replace s12 := cell_below i11 s12; replace x12 := cell_below i11 x12; replace v12 := cell_below i11 v12; replace p12 := cell_below i11 p12; replace n12 := cell_below i11 n12; replace q12 := cell_below i11 q12; replace m12 := cell_below i11 m12; replace j12 := cell_below i11 j12; replace d13 := cell_below i11 d13; replace g12 := cell_below i11 g12; replace h12 := cell_below i11 h12; replace r12 := cell_below i11 r12; replace l13 := cell_below i11 l13; replace q13 := cell_below i11 q13; replace m13 := cell_below i11 m13; replace k13 := cell_below i11 k13; replace r13 := cell_below i11 r13; replace j13 := cell_below i11 j13; replace n13 := cell_below i11 n13; replace i13 := cell_below i11 i13; replace s13 := cell_below i11 s13; replace a10 := Lib.hid (own_below a10.out i11); replace d10 := Lib.hid (own_below d10.out i11); replace e10 := Lib.hid (own_below e10.out i11); clear i11; go_upto_region 20 with fail
              go_cut [185] (fun v185_ wr => ∃ (d17 : Bool), v185_ = .bool d17 ∧ Hid (q4 code fuel tapes false t_5a z11 x11 f12 a12 b12 y11 e12 c12 d12 m15 true z13 e14 b14 x13 w13 v13 c14 y13 d14 v15 t15 k14 j14 g14 l14 i14 f14 m14 h14 n14 false f10 y15 v11 z15 false w15 b16 n15 k16 false f16 c15 h15 b15 l15 d15 k15 f15 i15 j15 g16 t16 t17 p15 j16 (d17) = some r) ∧ Hid (Below w.heap.size w wr) ∧ wr.cell? ⟨wt_5.heap.size, 0, none⟩ = some (.int .i64 z11) ∧ wr.cell? ⟨wt_5.heap.size, 1, none⟩ = some (.int .i64 x11) ∧ wr.cell? ⟨wt_5.heap.size, 2, none⟩ = some (.int .i64 f12) ∧ wr.cell? ⟨wt_5.heap.size, 3, none⟩ = some (.int .i64 a12) ∧ wr.cell? ⟨wt_5.heap.size, 4, none⟩ = some (.int .i64 b12) ∧ wr.cell? ⟨wt_5.heap.size, 5, none⟩ = some (.int .i64 y11) ∧ wr.cell? ⟨wt_5.heap.size, 6, none⟩ = some (.int .i64 e12) ∧ wr.cell? ⟨wt_5.heap.size, 7, none⟩ = some (.int .i64 c12) ∧ wr.cell? ⟨wt_5.heap.size, 8, none⟩ = some (.int .i64 d12) ∧ wr.cell? ⟨b10.heap.size, 0, none⟩ = some (.int .i64 z13) ∧ wr.cell? ⟨b10.heap.size, 1, none⟩ = some (.int .i64 e14) ∧ wr.cell? ⟨b10.heap.size, 2, none⟩ = some (.int .i64 b14) ∧ wr.cell? ⟨b10.heap.size, 3, none⟩ = some (.int .i64 x13) ∧ wr.cell? ⟨b10.heap.size, 4, none⟩ = some (.int .i64 w13) ∧ wr.cell? ⟨b10.heap.size, 5, none⟩ = some (.int .i64 v13) ∧ wr.cell? ⟨b10.heap.size, 6, none⟩ = some (.int .i64 c14) ∧ wr.cell? ⟨b10.heap.size, 7, none⟩ = some (.int .i64 y13) ∧ wr.cell? ⟨b10.heap.size, 8, none⟩ = some (.int .i64 d14) ∧ wr.cell? ⟨c10.heap.size, 0, none⟩ = some (.int .i64 k14) ∧ wr.cell? ⟨c10.heap.size, 1, none⟩ = some (.int .i64 j14) ∧ wr.cell? ⟨c10.heap.size, 2, none⟩ = some (.int .i64 g14) ∧ wr.cell? ⟨c10.heap.size, 3, none⟩ = some (.int .i64 l14) ∧ wr.cell? ⟨c10.heap.size, 4, none⟩ = some (.int .i64 i14) ∧ wr.cell? ⟨c10.heap.size, 5, none⟩ = some (.int .i64 f14) ∧ wr.cell? ⟨c10.heap.size, 6, none⟩ = some (.int .i64 m14) ∧ wr.cell? ⟨c10.heap.size, 7, none⟩ = some (.int .i64 h14) ∧ wr.cell? ⟨c10.heap.size, 8, none⟩ = some (.int .i64 n14) ∧ wr.cell? ⟨l11.heap.size, 0, none⟩ = some (.int .i64 c15) ∧ wr.cell? ⟨l11.heap.size, 1, none⟩ = some (.int .i64 h15) ∧ wr.cell? ⟨l11.heap.size, 2, none⟩ = some (.int .i64 b15) ∧ wr.cell? ⟨l11.heap.size, 3, none⟩ = some (.int .i64 l15) ∧ wr.cell? ⟨l11.heap.size, 4, none⟩ = some (.int .i64 d15) ∧ wr.cell? ⟨l11.heap.size, 5, none⟩ = some (.int .i64 k15) ∧ wr.cell? ⟨l11.heap.size, 6, none⟩ = some (.int .i64 f15) ∧ wr.cell? ⟨l11.heap.size, 7, none⟩ = some (.int .i64 i15) ∧ wr.cell? ⟨l11.heap.size, 8, none⟩ = some (.int .i64 j15) ∧ Hid (wr.ownsRow w.heap.size 88 5 (.slice a14 t_5a.length t13) t_5a.length (PRate.flat t_5a)) ∧ Hid (wr.ownsRow w.heap.size 3 1 (.slice z14 f10.length s14) f10.length (HelpInt.iv f10)) ∧ Hid (wr.ownsRow w.heap.size 3 1 (.slice e15 v11.length g15) v11.length (HelpInt.iv v11)))
              case first =>
               as_aux_lemma =>
                cases f16 with
                | false =>
                 replace H := let_hid H; obtain ⟨z17, w17, H⟩ := H; obtain rfl : z17 = true := w17.symm; replace H := join_hid H; replace H := ite_t H; replace H := app_hid H; replace H := join_hid H; replace H := ite_t H; replace H := app_hid H; replace H := join_hid H; replace H := ite_t H; replace H := app_hid H; replace H := join_hid H; replace H := ite_t H; replace H := app_hid H; replace H := join_hid H; replace H := ite_t H; replace H := app_hid H; replace H := join_hid H; replace H := ite_t H; replace H := app_hid H; replace H := join_hid H; replace H := ite_t H; replace H := app_hid H; go_wp2_with fail
                 go_meet
                 case rel => exact ⟨_, rfl, H, x15, c13, e13, t12, i12, f13, l12, g13, z12, w12, b13, o12, y12, a13, h13, k12, s12, x12, v12, p12, n12, q12, m12, j12, d13, g12, h12, r12, l13, q13, m13, k13, r13, j13, n13, i13, s13, a10, d10, e10⟩
                | true =>
                 replace H := let_hid H; obtain ⟨z17, w17, H⟩ := H; obtain rfl : z17 = false := w17.symm; replace H := join_hid H; replace H := ite_f H; replace H := let_hid H; obtain ⟨s18, e20, H⟩ := H; have s24 : ∀ W, (binOp .neq 26 (.agg #[.int .i64 c15, .int .i64 h15, .int .i64 b15, .int .i64 l15, .int .i64 d15, .int .i64 k15, .int .i64 f15, .int .i64 i15, .int .i64 j15]) (.agg #[.int .i64 z13, .int .i64 e14, .int .i64 b14, .int .i64 x13, .int .i64 w13, .int .i64 v13, .int .i64 c14, .int .i64 y13, .int .i64 d14])).run Tryz.prog W = .ok (.bool s18) W := fun W => (by rw [neqa_26, e20]); replace H := app_hid H; replace H := join_hid H
                 cases s18 with
                 | false =>
                  replace H := ite_f H
                  cases t16 with
                  | false =>
                   replace H := let_hid H; obtain ⟨x17, v17, H⟩ := H; obtain rfl : x17 = true := v17.symm; replace H := app_hid H; replace H := join_hid H; replace H := ite_t H; replace H := app_hid H; replace H := join_hid H; replace H := ite_t H; replace H := app_hid H; replace H := join_hid H; replace H := ite_t H; replace H := app_hid H; replace H := join_hid H; replace H := ite_t H; replace H := app_hid H; replace H := join_hid H; replace H := ite_t H; replace H := app_hid H; go_wp2_with fail
                   go_meet
                   case rel => exact ⟨_, rfl, H, x15, c13, e13, t12, i12, f13, l12, g13, z12, w12, b13, o12, y12, a13, h13, k12, s12, x12, v12, p12, n12, q12, m12, j12, d13, g12, h12, r12, l13, q13, m13, k13, r13, j13, n13, i13, s13, a10, d10, e10⟩
                  | true =>
                   replace H := let_hid H; obtain ⟨x17, v17, H⟩ := H; obtain rfl : x17 = false := v17.symm; replace H := app_hid H; replace H := join_hid H; replace H := ite_f H
                   cases g16 with
                   | false =>
                    replace H := let_hid H; obtain ⟨r17, a18, H⟩ := H; obtain rfl : r17 = true := a18.symm; replace H := app_hid H; replace H := join_hid H; replace H := ite_t H; replace H := app_hid H; replace H := join_hid H; replace H := ite_t H; replace H := app_hid H; replace H := join_hid H; replace H := ite_t H; replace H := app_hid H; replace H := join_hid H; replace H := ite_t H; replace H := app_hid H; go_wp2_with fail
                    go_meet
                    case rel => exact ⟨_, rfl, H, x15, c13, e13, t12, i12, f13, l12, g13, z12, w12, b13, o12, y12, a13, h13, k12, s12, x12, v12, p12, n12, q12, m12, j12, d13, g12, h12, r12, l13, q13, m13, k13, r13, j13, n13, i13, s13, a10, d10, e10⟩
                   | true =>
                    replace H := let_hid H; obtain ⟨r17, a18, H⟩ := H; obtain rfl : r17 = false := a18.symm; replace H := app_hid H; replace H := join_hid H; replace H := ite_f H; replace H := bind_hid H; obtain ⟨z19, v20, H⟩ := H; go_wp2_with fail; go_at_call 16; refine (GlVHas.C (f10) (m15) z14 s14 _   (Lib.hid (own_cells d10.out)) (Lib.hid (own_max d10.out)) v20).mono ?_; rintro i24 d24 ⟨rfl, j11⟩; have h17 := Lib.hid (Below.step x15.out j11); replace c13 := cell_below j11 c13; replace e13 := cell_below j11 e13; replace t12 := cell_below j11 t12; replace i12 := cell_below j11 i12; replace f13 := cell_below j11 f13; replace l12 := cell_below j11 l12; replace g13 := cell_below j11 g13; replace z12 := cell_below j11 z12; replace w12 := cell_below j11 w12; replace b13 := cell_below j11 b13; replace o12 := cell_below j11 o12; replace y12 := cell_below j11 y12; replace a13 := cell_below j11 a13; replace h13 := cell_below j11 h13; replace k12 := cell_below j11 k12; replace s12 := cell_below j11 s12; replace x12 := cell_below j11 x12; replace v12 := cell_below j11 v12; replace p12 := cell_below j11 p12; replace n12 := cell_below j11 n12; replace q12 := cell_below j11 q12; replace m12 := cell_below j11 m12; replace j12 := cell_below j11 j12; replace d13 := cell_below j11 d13; replace g12 := cell_below j11 g12; replace h12 := cell_below j11 h12; replace r12 := cell_below j11 r12; replace l13 := cell_below j11 l13; replace q13 := cell_below j11 q13; replace m13 := cell_below j11 m13; replace k13 := cell_below j11 k13; replace r13 := cell_below j11 r13; replace j13 := cell_below j11 j13; replace n13 := cell_below j11 n13; replace i13 := cell_below j11 i13; replace s13 := cell_below j11 s13; replace a10 := Lib.hid (own_below a10.out j11); replace d10 := Lib.hid (own_below d10.out j11); replace e10 := Lib.hid (own_below e10.out j11); clear j11
                    cases z19 with
                    | false =>
                     replace H := let_hid H; obtain ⟨c18, y17, H⟩ := H; obtain rfl : c18 = true := y17.symm; replace H := app_hid H; replace H := join_hid H; replace H := ite_t H; replace H := app_hid H; replace H := join_hid H; replace H := ite_t H; replace H := app_hid H; replace H := join_hid H; replace H := ite_t H; replace H := app_hid H; go_wp2_with fail
                     go_meet
                     case rel => exact ⟨_, rfl, H, h17, c13, e13, t12, i12, f13, l12, g13, z12, w12, b13, o12, y12, a13, h13, k12, s12, x12, v12, p12, n12, q12, m12, j12, d13, g12, h12, r12, l13, q13, m13, k13, r13, j13, n13, i13, s13, a10, d10, e10⟩
                    | true =>
                     replace H := let_hid H; obtain ⟨c18, y17, H⟩ := H; obtain rfl : c18 = false := y17.symm; replace H := app_hid H; replace H := join_hid H; replace H := ite_f H
                     cases j16 with
                     | false =>
                      replace H := let_hid H; obtain ⟨i18, g18, H⟩ := H; obtain rfl : i18 = true := g18.symm; replace H := app_hid H; replace H := join_hid H; replace H := ite_t H; replace H := app_hid H; replace H := join_hid H; replace H := ite_t H; replace H := app_hid H; go_wp2_with fail
                      go_meet
                      case rel => exact ⟨_, rfl, H, h17, c13, e13, t12, i12, f13, l12, g13, z12, w12, b13, o12, y12, a13, h13, k12, s12, x12, v12, p12, n12, q12, m12, j12, d13, g12, h12, r12, l13, q13, m13, k13, r13, j13, n13, i13, s13, a10, d10, e10⟩
                     | true =>
                      replace H := let_hid H; obtain ⟨i18, g18, H⟩ := H; obtain rfl : i18 = false := g18.symm; replace H := app_hid H; replace H := join_hid H; replace H := ite_f H; replace H := let_hid H; obtain ⟨n19, m23, H⟩ := H; replace H := app_hid H; replace H := join_hid H
                      cases n19 with
                      | false =>
                       replace H := ite_f H; replace H := let_hid H; obtain ⟨g23, l21, H⟩ := H; replace H := app_hid H; go_wp2_with fail
                       go_meet
                       case rel => exact ⟨_, rfl, H, h17, c13, e13, t12, i12, f13, l12, g13, z12, w12, b13, o12, y12, a13, h13, k12, s12, x12, v12, p12, n12, q12, m12, j12, d13, g12, h12, r12, l13, q13, m13, k13, r13, j13, n13, i13, s13, a10, d10, e10⟩
                      | true =>
                       replace H := ite_t H; replace H := app_hid H; go_wp2_with fail
                       go_meet
                       case rel => exact ⟨_, rfl, H, h17, c13, e13, t12, i12, f13, l12, g13, z12, w12, b13, o12, y12, a13, h13, k12, s12, x12, v12, p12, n12, q12, m12, j12, d13, g12, h12, r12, l13, q13, m13, k13, r13, j13, n13, i13, s13, a10, d10, e10⟩
                 | true =>
                  replace H := ite_t H; replace H := app_hid H; replace H := join_hid H; replace H := ite_t H; replace H := app_hid H; replace H := join_hid H; replace H := ite_t H; replace H := app_hid H; replace H := join_hid H; replace H := ite_t H; replace H := app_hid H; replace H := join_hid H; replace H := ite_t H; replace H := app_hid H; replace H := join_hid H; replace H := ite_t H; replace H := app_hid H; go_wp2_with fail
                  go_meet
                  case rel => exact ⟨_, rfl, H, x15, c13, e13, t12, i12, f13, l12, g13, z12, w12, b13, o12, y12, a13, h13, k12, s12, x12, v12, p12, n12, q12, m12, j12, d13, g12, h12, r12, l13, q13, m13, k13, r13, j13, n13, i13, s13, a10, d10, e10⟩
              case rest =>
               as_aux_lemma =>
                obtain ⟨d17, rfl, H, a19, c13, e13, t12, i12, f13, l12, g13, z12, w12, b13, o12, y12, a13, h13, k12, s12, x12, v12, p12, n12, q12, m12, j12, d13, g12, h12, r12, l13, q13, m13, k13, r13, j13, n13, i13, s13, a10, d10, e10⟩ := hcut; rename World => wq4; unfold q4 at H; replace H := let_hid H; obtain ⟨_, rfl, H⟩ := H
                cases d17 with
                | false =>
                 replace H := ite_f H; have hb_0 : f10.length ≤ 9223372036854775807 := own_max d10.out; go_wp2_with fail; go_loopg [26] (f10.length) (fun m_ v26_ wr => ∃ (k0 : Nat) , k0 + m_ = f10.length ∧ v26_ = .int .i64 (k0 : Int) ∧ Hid (cntK (l0 fuel f10 p15) m_ k0 () (e0 code fuel tapes false t_5a z11 x11 f12 a12 b12 y11 e12 c12 d12 m15 true z13 e14 b14 x13 w13 v13 c14 y13 d14 v15 t15 k14 j14 g14 l14 i14 f14 m14 h14 n14 false f10 y15 v11 z15 false w15 b16 n15 k16 false f16 c15 h15 b15 l15 d15 k15 f15 i15 j15 g16 t16 t17 p15 j16 false) = some r) ∧ Hid (Below w.heap.size w wr) ∧ wr.cell? ⟨wt_5.heap.size, 0, none⟩ = some (.int .i64 z11) ∧ wr.cell? ⟨wt_5.heap.size, 1, none⟩ = some (.int .i64 x11) ∧ wr.cell? ⟨wt_5.heap.size, 2, none⟩ = some (.int .i64 f12) ∧ wr.cell? ⟨wt_5.heap.size, 3, none⟩ = some (.int .i64 a12) ∧ wr.cell? ⟨wt_5.heap.size, 4, none⟩ = some (.int .i64 b12) ∧ wr.cell? ⟨wt_5.heap.size, 5, none⟩ = some (.int .i64 y11) ∧ wr.cell? ⟨wt_5.heap.size, 6, none⟩ = some (.int .i64 e12) ∧ wr.cell? ⟨wt_5.heap.size, 7, none⟩ = some (.int .i64 c12) ∧ wr.cell? ⟨wt_5.heap.size, 8, none⟩ = some (.int .i64 d12) ∧ wr.cell? ⟨b10.heap.size, 0, none⟩ = some (.int .i64 z13) ∧ wr.cell? ⟨b10.heap.size, 1, none⟩ = some (.int .i64 e14) ∧ wr.cell? ⟨b10.heap.size, 2, none⟩ = some (.int .i64 b14) ∧ wr.cell? ⟨b10.heap.size, 3, none⟩ = some (.int .i64 x13) ∧ wr.cell? ⟨b10.heap.size, 4, none⟩ = some (.int .i64 w13) ∧ wr.cell? ⟨b10.heap.size, 5, none⟩ = some (.int .i64 v13) ∧ wr.cell? ⟨b10.heap.size, 6, none⟩ = some (.int .i64 c14) ∧ wr.cell? ⟨b10.heap.size, 7, none⟩ = some (.int .i64 y13) ∧ wr.cell? ⟨b10.heap.size, 8, none⟩ = some (.int .i64 d14) ∧ wr.cell? ⟨c10.heap.size, 0, none⟩ = some (.int .i64 k14) ∧ wr.cell? ⟨c10.heap.size, 1, none⟩ = some (.int .i64 j14) ∧ wr.cell? ⟨c10.heap.size, 2, none⟩ = some (.int .i64 g14) ∧ wr.cell? ⟨c10.heap.size, 3, none⟩ = some (.int .i64 l14) ∧ wr.cell? ⟨c10.heap.size, 4, none⟩ = some (.int .i64 i14) ∧ wr.cell? ⟨c10.heap.size, 5, none⟩ = some (.int .i64 f14) ∧ wr.cell? ⟨c10.heap.size, 6, none⟩ = some (.int .i64 m14) ∧ wr.cell? ⟨c10.heap.size, 7, none⟩ = some (.int .i64 h14) ∧ wr.cell? ⟨c10.heap.size, 8, none⟩ = some (.int .i64 n14) ∧ wr.cell? ⟨l11.heap.size, 0, none⟩ = some (.int .i64 c15) ∧ wr.cell? ⟨l11.heap.size, 1, none⟩ = some (.int .i64 h15) ∧ wr.cell? ⟨l11.heap.size, 2, none⟩ = some (.int .i64 b15) ∧ wr.cell? ⟨l11.heap.size, 3, none⟩ = some (.int .i64 l15) ∧ wr.cell? ⟨l11.heap.size, 4, none⟩ = some (.int .i64 d15) ∧ wr.cell? ⟨l11.heap.size, 5, none⟩ = some (.int .i64 k15) ∧ wr.cell? ⟨l11.heap.size, 6, none⟩ = some (.int .i64 f15) ∧ wr.cell? ⟨l11.heap.size, 7, none⟩ = some (.int .i64 i15) ∧ wr.cell? ⟨l11.heap.size, 8, none⟩ = some (.int .i64 j15) ∧ Hid (wr.ownsRow w.heap.size 88 5 (.slice a14 t_5a.length t13) t_5a.length (PRate.flat t_5a)) ∧ Hid (wr.ownsRow w.heap.size 3 1 (.slice z14 f10.length s14) f10.length (HelpInt.iv f10)) ∧ Hid (wr.ownsRow w.heap.size 3 1 (.slice e15 v11.length g15) v11.length (HelpInt.iv v11)))
                 case atStart => exact ⟨0, by omega, rfl, H, a19, c13, e13, t12, i12, f13, l12, g13, z12, w12, b13, o12, y12, a13, h13, k12, s12, x12, v12, p12, n12, q12, m12, j12, d13, g12, h12, r12, l13, q13, m13, k13, r13, j13, n13, i13, s13, a10, d10, e10⟩
                 case round =>
                  obtain ⟨k0, hkm0, rfl, H, b19, c13, e13, t12, i12, f13, l12, g13, z12, w12, b13, o12, y12, a13, h13, k12, s12, x12, v12, p12, n12, q12, m12, j12, d13, g12, h12, r12, l13, q13, m13, k13, r13, j13, n13, i13, s13, a10, d10, e10⟩ := hrel; rename World => wr0
                  cases gk with
                  | zero =>
                   obtain rfl : k0 = f10.length := (by omega); have hc0 : decide (((f10.length : Nat) : Int) < ((f10.length : Nat) : Int)) = false := (by simp); replace H := cnt_zero H; unfold e0 at H; go_wp2_with fail
                   go_meet
                   case rel => exact ⟨H, b19, c13, e13, t12, i12, f13, l12, g13, z12, w12, b13, o12, y12, a13, h13, k12, s12, x12, v12, p12, n12, q12, m12, j12, d13, g12, h12, r12, a10, d10, e10⟩
                  | succ m0 =>
                   have hlt0 : k0 < f10.length := (by omega); have hc0 : decide ((k0 : Int) < ((f10.length : Nat) : Int)) = true := (by simp; omega); replace H := cnt_succ H; unfold l0 at H; go_wp2_with fail; go_loopg [27, 28] (fuel) (fun m_ v27_ v28_ wr => ∃ (l18 : Int) (m18 : Int), v27_ = .int .i64 l18 ∧ v28_ = .int .i64 m18 ∧ Hid (loopK (l1 f10 k0) m_ (l18, m18) (e1 p15 (fun s' => cntK (l0 fuel f10 p15) m0 (k0 + 1) s' (e0 code fuel tapes false t_5a z11 x11 f12 a12 b12 y11 e12 c12 d12 m15 true z13 e14 b14 x13 w13 v13 c14 y13 d14 v15 t15 k14 j14 g14 l14 i14 f14 m14 h14 n14 false f10 y15 v11 z15 false w15 b16 n15 k16 false f16 c15 h15 b15 l15 d15 k15 f15 i15 j15 g16 t16 t17 p15 j16 false))) = some r) ∧ Hid (Below w.heap.size w wr) ∧ wr.cell? ⟨wt_5.heap.size, 0, none⟩ = some (.int .i64 z11) ∧ wr.cell? ⟨wt_5.heap.size, 1, none⟩ = some (.int .i64 x11) ∧ wr.cell? ⟨wt_5.heap.size, 2, none⟩ = some (.int .i64 f12) ∧ wr.cell? ⟨wt_5.heap.size, 3, none⟩ = some (.int .i64 a12) ∧ wr.cell? ⟨wt_5.heap.size, 4, none⟩ = some (.int .i64 b12) ∧ wr.cell? ⟨wt_5.heap.size, 5, none⟩ = some (.int .i64 y11) ∧ wr.cell? ⟨wt_5.heap.size, 6, none⟩ = some (.int .i64 e12) ∧ wr.cell? ⟨wt_5.heap.size, 7, none⟩ = some (.int .i64 c12) ∧ wr.cell? ⟨wt_5.heap.size, 8, none⟩ = some (.int .i64 d12) ∧ wr.cell? ⟨b10.heap.size, 0, none⟩ = some (.int .i64 z13) ∧ wr.cell? ⟨b10.heap.size, 1, none⟩ = some (.int .i64 e14) ∧ wr.cell? ⟨b10.heap.size, 2, none⟩ = some (.int .i64 b14) ∧ wr.cell? ⟨b10.heap.size, 3, none⟩ = some (.int .i64 x13) ∧ wr.cell? ⟨b10.heap.size, 4, none⟩ = some (.int .i64 w13) ∧ wr.cell? ⟨b10.heap.size, 5, none⟩ = some (.int .i64 v13) ∧ wr.cell? ⟨b10.heap.size, 6, none⟩ = some (.int .i64 c14) ∧ wr.cell? ⟨b10.heap.size, 7, none⟩ = some (.int .i64 y13) ∧ wr.cell? ⟨b10.heap.size, 8, none⟩ = some (.int .i64 d14) ∧ wr.cell? ⟨c10.heap.size, 0, none⟩ = some (.int .i64 k14) ∧ wr.cell? ⟨c10.heap.size, 1, none⟩ = some (.int .i64 j14) ∧ wr.cell? ⟨c10.heap.size, 2, none⟩ = some (.int .i64 g14) ∧ wr.cell? ⟨c10.heap.size, 3, none⟩ = some (.int .i64 l14) ∧ wr.cell? ⟨c10.heap.size, 4, none⟩ = some (.int .i64 i14) ∧ wr.cell? ⟨c10.heap.size, 5, none⟩ = some (.int .i64 f14) ∧ wr.cell? ⟨c10.heap.size, 6, none⟩ = some (.int .i64 m14) ∧ wr.cell? ⟨c10.heap.size, 7, none⟩ = some (.int .i64 h14) ∧ wr.cell? ⟨c10.heap.size, 8, none⟩ = some (.int .i64 n14) ∧ wr.cell? ⟨l11.heap.size, 0, none⟩ = some (.int .i64 c15) ∧ wr.cell? ⟨l11.heap.size, 1, none⟩ = some (.int .i64 h15) ∧ wr.cell? ⟨l11.heap.size, 2, none⟩ = some (.int .i64 b15) ∧ wr.cell? ⟨l11.heap.size, 3, none⟩ = some (.int .i64 l15) ∧ wr.cell? ⟨l11.heap.size, 4, none⟩ = some (.int .i64 d15) ∧ wr.cell? ⟨l11.heap.size, 5, none⟩ = some (.int .i64 k15) ∧ wr.cell? ⟨l11.heap.size, 6, none⟩ = some (.int .i64 f15) ∧ wr.cell? ⟨l11.heap.size, 7, none⟩ = some (.int .i64 i15) ∧ wr.cell? ⟨l11.heap.size, 8, none⟩ = some (.int .i64 j15) ∧ Hid (wr.ownsRow w.heap.size 88 5 (.slice a14 t_5a.length t13) t_5a.length (PRate.flat t_5a)) ∧ Hid (wr.ownsRow w.heap.size 3 1 (.slice z14 f10.length s14) f10.length (HelpInt.iv f10)) ∧ Hid (wr.ownsRow w.heap.size 3 1 (.slice e15 v11.length g15) v11.length (HelpInt.iv v11)))
                   case atStart => exact ⟨_, _, rfl, rfl, H, b19, c13, e13, t12, i12, f13, l12, g13, z12, w12, b13, o12, y12, a13, h13, k12, s12, x12, v12, p12, n12, q12, m12, j12, d13, g12, h12, r12, l13, q13, m13, k13, r13, j13, n13, i13, s13, a10, d10, e10⟩
                   case round =>
                    obtain ⟨l18, m18, rfl, rfl, H, s17, c13, e13, t12, i12, f13, l12, g13, z12, w12, b13, o12, y12, a13, h13, k12, s12, x12, v12, p12, n12, q12, m12, j12, d13, g12, h12, r12, l13, q13, m13, k13, r13, j13, n13, i13, s13, a10, d10, e10⟩ := hrel; rename World => wr1
                    cases gk with
                    | zero => exact (loop_zero H).elim
                    | succ m1 =>
                     replace H := loop_succ H; unfold l1 at H; replace H := unp2_hid H; replace H := let_hid H; obtain ⟨v19, y21, H⟩ := H
                     cases v19 with
                     | false =>
                      replace H := ite_f H; replace H := app_hid H; unfold e1 at H; replace H := unp2_hid H; replace H := let_hid H; obtain ⟨f19, d22, H⟩ := H
                      cases f19 with
                      | false =>
                       replace H := ite_f H; replace H := app_hid H; go_wp2_with fail
                       go_roundg m0
                       case measure => omega
                       case rel => exact ⟨k0 + 1, by omega, by go_num, H, s17, c13, e13, t12, i12, f13, l12, g13, z12, w12, b13, o12, y12, a13, h13, k12, s12, x12, v12, p12, n12, q12, m12, j12, d13, g12, h12, r12, l13, q13, m13, k13, r13, j13, n13, i13, s13, a10, d10, e10⟩
                      | true =>
                       replace H := ite_t H; obtain rfl := ret_hid H; go_wp2_with fail; go_ret; exact ⟨rfl, s17.out⟩
                     | true =>
                      replace H := ite_t H; replace H := idx_hid H; obtain ⟨s20, j22, c20, j23, z20, H⟩ := H; obtain rfl : k0 = s20 := (by omega); clear c20; obtain ⟨p24, w20⟩ := own_some d10.out (by omega); subst w20; obtain ⟨k21, d21, n24, y18, t18, x20⟩ := HelpInt.Ints.at_ (own_cells d10.out) (k := k0) (by omega); obtain rfl := Option.some.inj (z20.out.symm.trans t18); simp only [Option.some.injEq, Addr.mk.injEq] at y18; obtain ⟨rfl, rfl, _⟩ := y18; clear t18; simp only [Nat.zero_add] at x20; have v21 : (0 : Int) ≤ (k0 : Int) := (by omega); have w21 : (k0 : Int) < ((f10.length : Nat) : Int) := (by omega); have n23 : ((k0 : Int)).toNat = k0 := (by omega); replace H := guard_hid H; obtain ⟨f22, H⟩ := H; replace H := let_hid H; obtain ⟨z23, b23, H⟩ := H; replace H := let_hid H; obtain ⟨e21, h23, H⟩ := H; replace H := let_hid H; obtain ⟨q21, i22, H⟩ := H; replace H := let_hid H; obtain ⟨c24, y22, H⟩ := H; replace H := app_hid H; go_wp2_with fail
                      go_roundg m1
                      case measure => omega
                      case rel => exact ⟨_, _, rfl, rfl, H, s17, c13, e13, t12, i12, f13, l12, g13, z12, w12, b13, o12, y12, a13, h13, k12, s12, x12, v12, p12, n12, q12, m12, j12, d13, g12, h12, r12, l13, q13, m13, k13, r13, j13, n13, i13, s13, a10, d10, e10⟩
                | true =>
                 replace H := ite_t H; obtain rfl := ret_hid H; go_wp2_with fail; go_ret; exact ⟨rfl, a19.out⟩
           case rest =>
            as_aux_lemma =>
             obtain ⟨H, a21, g10, h11, p10, a11, y10, e11, f11, g11, d11, i10, q10, c11, z10, s10, x10, j10, m10, k10, h10, r10, n10, o10, l10, b11, t10, w10, v10, a10, d10, e10⟩ := hcut; rename World => wq3; unfold q3 at H; replace H := bind2_hid H; obtain ⟨o18, q24, q20, H⟩ := H; go_wp2_with fail; go_at_call 17; refine (GiNeededChanges.C (t_5a) ((PCover.Cover.mk z11 x11 f12 a12 b12 y11 e12 c12 d12)) a14 t13 _   (Lib.hid (own_cells a10.out)) (Lib.hid (own_max a10.out)) q20).mono ?_; rintro q23 e23 ⟨rfl, q11⟩; have n20 := Lib.hid (Below.step a21.out q11); replace g10 := cell_below q11 g10; replace h11 := cell_below q11 h11; replace p10 := cell_below q11 p10; replace a11 := cell_below q11 a11; replace y10 := cell_below q11 y10; replace e11 := cell_below q11 e11; replace f11 := cell_below q11 f11; replace g11 := cell_below q11 g11; replace d11 := cell_below q11 d11; replace i10 := cell_below q11 i10; replace q10 := cell_below q11 q10; replace c11 := cell_below q11 c11; replace z10 := cell_below q11 z10; replace s10 := cell_below q11 s10; replace x10 := cell_below q11 x10; replace j10 := cell_below q11 j10; replace m10 := cell_below q11 m10; replace k10 := cell_below q11 k10; replace h10 := cell_below q11 h10; replace r10 := cell_below q11 r10; replace n10 := cell_below q11 n10; replace o10 := cell_below q11 o10; replace l10 := cell_below q11 l10; replace b11 := cell_below q11 b11; replace t10 := cell_below q11 t10; replace w10 := cell_below q11 w10; replace v10 := cell_below q11 v10; replace a10 := Lib.hid (own_below a10.out q11); replace d10 := Lib.hid (own_below d10.out q11); replace e10 := Lib.hid (own_below e10.out q11); clear q11; replace H := bind2_hid H; obtain ⟨g24, o22, h19, H⟩ := H; go_wp2_with fail; go_at_call 18; refine (GsNeededChanges.C fuel (t_5a) ((PCover.Cover.mk z11 x11 f12 a12 b12 y11 e12 c12 d12)) a14 t13 _   (Lib.hid (own_cells a10.out)) (Lib.hid (own_max a10.out)) h19).mono ?_; rintro c21 h24 ⟨rfl, m11⟩; have d18 := Lib.hid (Below.step n20.out m11); replace g10 := cell_below m11 g10; replace h11 := cell_below m11 h11; replace p10 := cell_below m11 p10; replace a11 := cell_below m11 a11; replace y10 := cell_below m11 y10; replace e11 := cell_below m11 e11; replace f11 := cell_below m11 f11; replace g11 := cell_below m11 g11; replace d11 := cell_below m11 d11; replace i10 := cell_below m11 i10; replace q10 := cell_below m11 q10; replace c11 := cell_below m11 c11; replace z10 := cell_below m11 z10; replace s10 := cell_below m11 s10; replace x10 := cell_below m11 x10; replace j10 := cell_below m11 j10; replace m10 := cell_below m11 m10; replace k10 := cell_below m11 k10; replace h10 := cell_below m11 h10; replace r10 := cell_below m11 r10; replace n10 := cell_below m11 n10; replace o10 := cell_below m11 o10; replace l10 := cell_below m11 l10; replace b11 := cell_below m11 b11; replace t10 := cell_below m11 t10; replace w10 := cell_below m11 w10; replace v10 := cell_below m11 v10; replace a10 := Lib.hid (own_below a10.out m11); replace d10 := Lib.hid (own_below d10.out m11); replace e10 := Lib.hid (own_below e10.out m11); clear m11; go_upto_region 34 with fail
             go_cut [232] (fun v232_ wr => ∃ (g17 : Bool), v232_ = .bool g17 ∧ Hid (q5 f10 o18 (g17) = some r) ∧ Hid (Below w.heap.size w wr) ∧ wr.cell? ⟨wt_5.heap.size, 0, none⟩ = some (.int .i64 z11) ∧ wr.cell? ⟨wt_5.heap.size, 1, none⟩ = some (.int .i64 x11) ∧ wr.cell? ⟨wt_5.heap.size, 2, none⟩ = some (.int .i64 f12) ∧ wr.cell? ⟨wt_5.heap.size, 3, none⟩ = some (.int .i64 a12) ∧ wr.cell? ⟨wt_5.heap.size, 4, none⟩ = some (.int .i64 b12) ∧ wr.cell? ⟨wt_5.heap.size, 5, none⟩ = some (.int .i64 y11) ∧ wr.cell? ⟨wt_5.heap.size, 6, none⟩ = some (.int .i64 e12) ∧ wr.cell? ⟨wt_5.heap.size, 7, none⟩ = some (.int .i64 c12) ∧ wr.cell? ⟨wt_5.heap.size, 8, none⟩ = some (.int .i64 d12) ∧ wr.cell? ⟨b10.heap.size, 0, none⟩ = some (.int .i64 z13) ∧ wr.cell? ⟨b10.heap.size, 1, none⟩ = some (.int .i64 e14) ∧ wr.cell? ⟨b10.heap.size, 2, none⟩ = some (.int .i64 b14) ∧ wr.cell? ⟨b10.heap.size, 3, none⟩ = some (.int .i64 x13) ∧ wr.cell? ⟨b10.heap.size, 4, none⟩ = some (.int .i64 w13) ∧ wr.cell? ⟨b10.heap.size, 5, none⟩ = some (.int .i64 v13) ∧ wr.cell? ⟨b10.heap.size, 6, none⟩ = some (.int .i64 c14) ∧ wr.cell? ⟨b10.heap.size, 7, none⟩ = some (.int .i64 y13) ∧ wr.cell? ⟨b10.heap.size, 8, none⟩ = some (.int .i64 d14) ∧ wr.cell? ⟨c10.heap.size, 0, none⟩ = some (.int .i64 k14) ∧ wr.cell? ⟨c10.heap.size, 1, none⟩ = some (.int .i64 j14) ∧ wr.cell? ⟨c10.heap.size, 2, none⟩ = some (.int .i64 g14) ∧ wr.cell? ⟨c10.heap.size, 3, none⟩ = some (.int .i64 l14) ∧ wr.cell? ⟨c10.heap.size, 4, none⟩ = some (.int .i64 i14) ∧ wr.cell? ⟨c10.heap.size, 5, none⟩ = some (.int .i64 f14) ∧ wr.cell? ⟨c10.heap.size, 6, none⟩ = some (.int .i64 m14) ∧ wr.cell? ⟨c10.heap.size, 7, none⟩ = some (.int .i64 h14) ∧ wr.cell? ⟨c10.heap.size, 8, none⟩ = some (.int .i64 n14) ∧ Hid (wr.ownsRow w.heap.size 88 5 (.slice a14 t_5a.length t13) t_5a.length (PRate.flat t_5a)) ∧ Hid (wr.ownsRow w.heap.size 3 1 (.slice z14 f10.length s14) f10.length (HelpInt.iv f10)) ∧ Hid (wr.ownsRow w.heap.size 3 1 (.slice e15 v11.length g15) v11.length (HelpInt.iv v11)))
             case first =>
              as_aux_lemma =>
               replace H := let_hid H; obtain ⟨q19, o23, H⟩ := H; replace H := join_hid H
               cases q19 with
               | false =>
                replace H := ite_f H; replace H := let_hid H; obtain ⟨w19, z21, H⟩ := H; replace H := app_hid H; replace H := join_hid H
                cases w19 with
                | false =>
                 replace H := ite_f H; replace H := let_hid H; obtain ⟨t23, i23, H⟩ := H; replace H := app_hid H; go_wp2_with fail
                 go_meet
                 case rel => exact ⟨_, rfl, H, d18, g10, h11, p10, a11, y10, e11, f11, g11, d11, i10, q10, c11, z10, s10, x10, j10, m10, k10, h10, r10, n10, o10, l10, b11, t10, w10, v10, a10, d10, e10⟩
                | true =>
                 replace H := ite_t H; replace H := app_hid H; go_wp2_with fail
                 go_meet
                 case rel => exact ⟨_, rfl, H, d18, g10, h11, p10, a11, y10, e11, f11, g11, d11, i10, q10, c11, z10, s10, x10, j10, m10, k10, h10, r10, n10, o10, l10, b11, t10, w10, v10, a10, d10, e10⟩
               | true =>
                replace H := ite_t H; replace H := app_hid H; replace H := join_hid H; replace H := ite_t H; replace H := app_hid H; go_wp2_with fail
                go_meet
                case rel => exact ⟨_, rfl, H, d18, g10, h11, p10, a11, y10, e11, f11, g11, d11, i10, q10, c11, z10, s10, x10, j10, m10, k10, h10, r10, n10, o10, l10, b11, t10, w10, v10, a10, d10, e10⟩
             case rest =>
              as_aux_lemma =>
               obtain ⟨g17, rfl, H, r18, g10, h11, p10, a11, y10, e11, f11, g11, d11, i10, q10, c11, z10, s10, x10, j10, m10, k10, h10, r10, n10, o10, l10, b11, t10, w10, v10, a10, d10, e10⟩ := hcut; rename World => wq5; unfold q5 at H; replace H := let_hid H; obtain ⟨_, rfl, H⟩ := H
               cases g17 with
               | false =>
                replace H := ite_f H; have hb_2 : f10.length ≤ 9223372036854775807 := own_max d10.out; go_wp2_with fail; go_loopg [33] (f10.length) (fun m_ v33_ wr => ∃ (k2 : Nat) , k2 + m_ = f10.length ∧ v33_ = .int .i64 (k2 : Int) ∧ Hid (cntK (l2 f10 o18) m_ k2 () (e2 ) = some r) ∧ Hid (Below w.heap.size w wr) ∧ wr.cell? ⟨wt_5.heap.size, 0, none⟩ = some (.int .i64 z11) ∧ wr.cell? ⟨wt_5.heap.size, 1, none⟩ = some (.int .i64 x11) ∧ wr.cell? ⟨wt_5.heap.size, 2, none⟩ = some (.int .i64 f12) ∧ wr.cell? ⟨wt_5.heap.size, 3, none⟩ = some (.int .i64 a12) ∧ wr.cell? ⟨wt_5.heap.size, 4, none⟩ = some (.int .i64 b12) ∧ wr.cell? ⟨wt_5.heap.size, 5, none⟩ = some (.int .i64 y11) ∧ wr.cell? ⟨wt_5.heap.size, 6, none⟩ = some (.int .i64 e12) ∧ wr.cell? ⟨wt_5.heap.size, 7, none⟩ = some (.int .i64 c12) ∧ wr.cell? ⟨wt_5.heap.size, 8, none⟩ = some (.int .i64 d12) ∧ wr.cell? ⟨b10.heap.size, 0, none⟩ = some (.int .i64 z13) ∧ wr.cell? ⟨b10.heap.size, 1, none⟩ = some (.int .i64 e14) ∧ wr.cell? ⟨b10.heap.size, 2, none⟩ = some (.int .i64 b14) ∧ wr.cell? ⟨b10.heap.size, 3, none⟩ = some (.int .i64 x13) ∧ wr.cell? ⟨b10.heap.size, 4, none⟩ = some (.int .i64 w13) ∧ wr.cell? ⟨b10.heap.size, 5, none⟩ = some (.int .i64 v13) ∧ wr.cell? ⟨b10.heap.size, 6, none⟩ = some (.int .i64 c14) ∧ wr.cell? ⟨b10.heap.size, 7, none⟩ = some (.int .i64 y13) ∧ wr.cell? ⟨b10.heap.size, 8, none⟩ = some (.int .i64 d14) ∧ wr.cell? ⟨c10.heap.size, 0, none⟩ = some (.int .i64 k14) ∧ wr.cell? ⟨c10.heap.size, 1, none⟩ = some (.int .i64 j14) ∧ wr.cell? ⟨c10.heap.size, 2, none⟩ = some (.int .i64 g14) ∧ wr.cell? ⟨c10.heap.size, 3, none⟩ = some (.int .i64 l14) ∧ wr.cell? ⟨c10.heap.size, 4, none⟩ = some (.int .i64 i14) ∧ wr.cell? ⟨c10.heap.size, 5, none⟩ = some (.int .i64 f14) ∧ wr.cell? ⟨c10.heap.size, 6, none⟩ = some (.int .i64 m14) ∧ wr.cell? ⟨c10.heap.size, 7, none⟩ = some (.int .i64 h14) ∧ wr.cell? ⟨c10.heap.size, 8, none⟩ = some (.int .i64 n14) ∧ Hid (wr.ownsRow w.heap.size 88 5 (.slice a14 t_5a.length t13) t_5a.length (PRate.flat t_5a)) ∧ Hid (wr.ownsRow w.heap.size 3 1 (.slice z14 f10.length s14) f10.length (HelpInt.iv f10)) ∧ Hid (wr.ownsRow w.heap.size 3 1 (.slice e15 v11.length g15) v11.length (HelpInt.iv v11)))
                case atStart => exact ⟨0, by omega, rfl, H, r18, g10, h11, p10, a11, y10, e11, f11, g11, d11, i10, q10, c11, z10, s10, x10, j10, m10, k10, h10, r10, n10, o10, l10, b11, t10, w10, v10, a10, d10, e10⟩
                case round =>
                 obtain ⟨k2, hkm2, rfl, H, b18, g10, h11, p10, a11, y10, e11, f11, g11, d11, i10, q10, c11, z10, s10, x10, j10, m10, k10, h10, r10, n10, o10, l10, b11, t10, w10, v10, a10, d10, e10⟩ := hrel; rename World => wr2
                 cases gk with
                 | zero =>
                  obtain rfl : k2 = f10.length := (by omega); have hc2 : decide (((f10.length : Nat) : Int) < ((f10.length : Nat) : Int)) = false := (by simp); replace H := cnt_zero H; unfold e2 at H; obtain rfl := ret_hid H; go_wp2_with fail; go_ret; exact ⟨rfl, b18.out⟩
                 | succ m2 =>
                  have hlt2 : k2 < f10.length := (by omega); have hc2 : decide ((k2 : Int) < ((f10.length : Nat) : Int)) = true := (by simp; omega); replace H := cnt_succ H; unfold l2 at H; replace H := idx_hid H; obtain ⟨f20, t22, a20, z22, d20, H⟩ := H; obtain rfl : k2 = f20 := (by omega); clear a20; obtain ⟨h21, g20⟩ := own_some d10.out (by omega); subst g20; obtain ⟨a22, w22, r23, q18, n18, l20⟩ := HelpInt.Ints.at_ (own_cells d10.out) (k := k2) (by omega); obtain rfl := Option.some.inj (d20.out.symm.trans n18); simp only [Option.some.injEq, Addr.mk.injEq] at q18; obtain ⟨rfl, rfl, _⟩ := q18; clear n18; simp only [Nat.zero_add] at l20; have o24 : (0 : Int) ≤ (k2 : Int) := (by omega); have m21 : (k2 : Int) < ((f10.length : Nat) : Int) := (by omega); have t24 : ((k2 : Int)).toNat = k2 := (by omega); replace H := let_hid H; obtain ⟨e24, k23, H⟩ := H; replace H := let_hid H; obtain ⟨s19, m24, H⟩ := H
                  cases s19 with
                  | false =>
                   replace H := ite_f H; replace H := app_hid H; go_wp2_with fail
                   go_roundg m2
                   case measure => omega
                   case rel => exact ⟨k2 + 1, by omega, by go_num, H, b18, g10, h11, p10, a11, y10, e11, f11, g11, d11, i10, q10, c11, z10, s10, x10, j10, m10, k10, h10, r10, n10, o10, l10, b11, t10, w10, v10, a10, d10, e10⟩
                  | true =>
                   replace H := ite_t H; obtain rfl := ret_hid H; go_wp2_with fail; go_ret; exact ⟨rfl, b18.out⟩
               | true =>
                replace H := ite_t H; obtain rfl := ret_hid H; go_wp2_with fail; go_ret; exact ⟨rfl, r18.out⟩
          | true =>
           replace H := ite_t H; obtain rfl := ret_hid H; go_wp2_with fail; go_ret; exact ⟨rfl, k18.out⟩
       | true =>
        replace H := ite_t H; obtain rfl := ret_hid H; go_wp2_with fail; go_ret; exact ⟨rfl, p18.out⟩
    | true =>
     replace H := ite_t H; obtain rfl := ret_hid H; go_wp2_with fail; go_ret; exact ⟨rfl, j18.out⟩
 | true =>
  replace H := ite_t H; obtain rfl := ret_hid H; go_wp2_with fail; go_ret; exact ⟨rfl, c16.out⟩
end Go.Proofs.YtihibckijdfidaaGreat.GlFnChanges

namespace Go.Proofs.YtihibckijdfidaaGreat.PlainStamp

/-- a number lies in a..b -/
def inB (x a b : Int) : Bool := decide (a ≤ x ∧ x ≤ b)
theorem inB_of {x a b : Int} (h : inB x a b = true) : a ≤ x ∧ x ≤ b := by unfold inB at h; exact of_decide_eq_true h
structure St where
  id : Int
  face : Int
  color : Int
  year : Int
deriving DecidableEq

def St.cells (s : St) : List Value := [.int .i64 s.id, .int .i64 s.face, .int .i64 s.color, .int .i64 s.year]
def St.val (s : St) : Value := .agg #[.int .i64 s.id, .int .i64 s.face, .int .i64 s.color, .int .i64 s.year]
/-- each field fits an int -/
def St.fits (s : St) : Prop := (Lit.int .i64 s.id).wf = true ∧ (Lit.int .i64 s.face).wf = true ∧ (Lit.int .i64 s.color).wf = true ∧ (Lit.int .i64 s.year).wf = true

def okSt (s : St) : Bool := inB s.id 1 999 && inB s.face 0 9999 && inB s.color 0 99 && inB s.year 1840 2100
/-- the stamp at k is valid, and its id is above the one ahead of it -/
def okAt (l : List St) (k : Nat) : Bool :=
  match l[k]? with
  | none => true
  | some s => okSt s && (decide (k = 0) || (match l[k-1]? with | none => true | some r => decide (r.id < s.id)))
def okUp (l : List St) (k : Nat) : Bool := (List.range k).all (okAt l)
/-- a list of at most twelve valid stamps with rising ids -/
def okSts (l : List St) : Bool := decide (l.length ≤ 12) && okUp l l.length
/-- the cells of a list of stamps, one after the other -/
def flat (l : List St) : List Value := l.flatMap St.cells
theorem flat_nil : flat [] = [] := rfl
theorem flat_cons (s : St) (l : List St) : flat (s :: l) = s.cells ++ flat l := by simp [flat]
theorem flat_len (l : List St) : (flat l).length = l.length * 4 := by
  induction l with
  | nil => rfl
  | cons s l ih => rw [flat_cons, List.length_append, ih]; simp [St.cells]; omega
theorem flat_at : ∀ (l : List St) (k : Nat) (s : St), l[k]? = some s → ∀ j, j < 4 → (flat l)[k * 4 + j]? = s.cells[j]?
  | [], k, s, h, _, _ => by simp at h
  | r :: l, 0, s, h, j, hj => by
    obtain rfl : r = s := by simpa using h
    rw [flat_cons, List.getElem?_append_left (by simp [St.cells]; omega)]; simp
  | r :: l, k + 1, s, h, j, hj => by
    rw [flat_cons, List.getElem?_append_right (by simp [St.cells]; omega), show (k + 1) * 4 + j - r.cells.length = k * 4 + j by simp [St.cells]; omega]
    exact flat_at l k s (by simpa using h) j hj
end Go.Proofs.YtihibckijdfidaaGreat.PlainStamp

namespace Go.Proofs.YtihibckijdfidaaGreat.QBase
open Go.RowKit
open Go.Proofs.YtihibckijdfidaaGreat.GoP Go.Proofs.YtihibckijdfidaaGreat.PlainStamp

theorem iteK_if {ρ : Type} (c : Bool) (a b : Option ρ) : iteK c a b = if c = true then a else b := by cases c <;> rfl
theorem bind2_some {α β ρ : Type} (a : α) (b : β) (f : α → β → Option ρ) : bind2 (some (a, b)) f = f a b := rfl
theorem bind3_some {α β γ ρ : Type} (a : α) (b : β) (c : γ) (f : α → β → γ → Option ρ) : bind3 (some (a, b, c)) f = f a b c := rfl
theorem guardK_pos {ρ : Type} {p : Prop} [Decidable p] {a : Option ρ} (h : p) : guardK p a = a := if_pos h
theorem within_eq (n a b : Int) : GiWithin.P n a b = some (inB n a b) := by
  simp only [GiWithin.P, letK, joinK, appK, iteK_if, inB]
  by_cases h1 : a ≤ n <;> by_cases h2 : n ≤ b <;> simp [h1, h2]
theorem l1In_eq (n a b : Int) : GsL1In.P n a b = some (inB n a b) := by
  simp only [GsL1In.P, letK, joinK, appK, iteK_if, inB]
  by_cases h1 : a ≤ n <;> by_cases h2 : n ≤ b <;> simp [h1, h2]
end Go.Proofs.YtihibckijdfidaaGreat.QBase

