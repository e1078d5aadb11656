/- Texts on which the proofs of several laws stand, one behind the other (11 of 13). No condition of their own. -/
import Derived.Test.YtgimcnpkngpmiaaGreatDoorChecked
import Derived.Test.YtgimcnpkngpmiaaGreatDoorX12P1
import Derived.Test.YtgimcnpkngpmiaaGreatDoorX12P2
import Derived.Test.YtgimcnpkngpmiaaGreatDoorX12P4
import Derived.Test.YtgimcnpkngpmiaaGreatDoorX12P5
import Derived.Test.YtgimcnpkngpmiaaGreatDoorX12P6
import Derived.Test.YtgimcnpkngpmiaaGreatDoorX12P7
import Derived.Test.YtgimcnpkngpmiaaGreatDoorX12P8
import Derived.Test.YtgimcnpkngpmiaaGreatDoorX12P9
import Derived.Test.YtgimcnpkngpmiaaGreatDoorX12P10
import Derived.WalkKit
import Derived.WalkSpells
import Derived.WalkLawsBesides
import Derived.BigQuiet
import Derived.OwnWalk
import Derived.Deep.LoopGhost
import Derived.Deep.QuietTactic
import Derived.IntWalk
import Derived.Lib.QuietBelow
import Derived.Deep.DeepCutAuto
import Derived.Test.YtgimcnpkngpmiaaGreatDoorRows
import Derived.LaidSub
import Derived.Lib.LaidTab
import Derived.Lib.ItoaNum
import Derived.KernelRfl
/- loop.example/g01062/laws.FnUses as a plain function, and the contract of the program's: where the plain one has an answer, the program has it. Conditions: slices read as lists. -/
namespace Go.Proofs.YtgimcnpkngpmiaaGreatDoor.GlFnUses
set_option linter.unusedVariables false
set_option linter.unusedSimpArgs false
open Go.RowKit
open Go.Proofs.YtgimcnpkngpmiaaGreatDoor.Rowed Go.Proofs.YtgimcnpkngpmiaaGreatDoor.Turn Go.Proofs.YtgimcnpkngpmiaaGreatDoor.Aid Go.Proofs.YtgimcnpkngpmiaaGreatDoor.GoP Go.Proofs.YtgimcnpkngpmiaaGreatDoor.GoM Go.Proofs.YtgimcnpkngpmiaaGreatDoor.Tab

def q9  (s : Bool) : Option (Bool) :=
  letK s fun t_2q9 =>
  some t_2q9

def q4 (code : (List Int)) (fuel : Nat) (tapes : List Int → Go.Proofs.YtgimcnpkngpmiaaGreatDoor.GoC.Tape) (s : Unit) : Option (Bool) :=
  bind2 (Go.Proofs.YtgimcnpkngpmiaaGreatDoor.GsDrawTownsOn.P fuel tapes code) fun (t_213a : (List Go.Proofs.YtgimcnpkngpmiaaGreatDoor.PPostmark.Postmark)) (t_213b : Int) =>
  bind2 (Go.Proofs.YtgimcnpkngpmiaaGreatDoor.GiTownsOn.P t_213a t_213b) fun (t_221a : (List ByteArray)) (t_221b : Bool) =>
  bind2 (Go.Proofs.YtgimcnpkngpmiaaGreatDoor.GsTownsOn.P fuel t_213a t_213b) fun (t_229a : (List ByteArray)) (t_229b : Bool) =>
  Option.bind (Go.Proofs.YtgimcnpkngpmiaaGreatDoor.GsDrawPostmarkText.P fuel tapes code) fun (t_236 : Go.Proofs.YtgimcnpkngpmiaaGreatDoor.PPostmark.Postmark) =>
  unPostmark t_236 fun (t_236_id : Int) (t_236_town : ByteArray) (t_236_kind_ : Int) (t_236_first : Int) (t_236_last : Int) (t_236_lost : ByteArray) =>
  bind2 (Go.Proofs.YtgimcnpkngpmiaaGreatDoor.GiPostmarkText.P (Go.Proofs.YtgimcnpkngpmiaaGreatDoor.PPostmark.Postmark.mk t_236_id t_236_town t_236_kind_ t_236_first t_236_last t_236_lost)) fun (t_240a : ByteArray) (t_240b : Bool) =>
  bind2 (Go.Proofs.YtgimcnpkngpmiaaGreatDoor.GsPostmarkText.P fuel (Go.Proofs.YtgimcnpkngpmiaaGreatDoor.PPostmark.Postmark.mk t_236_id t_236_town t_236_kind_ t_236_first t_236_last t_236_lost)) fun (t_247a : ByteArray) (t_247b : Bool) =>
  letK (t_221b == t_229b) fun (t_255 : Bool) =>
  joinK (fun (t_260 : Bool) =>
  joinK (fun (t_265 : Bool) =>
  joinK (fun (t_270 : Bool) =>
  q9  (t_270)) fun jt_270 => iteK t_265 (letK (t_240b == t_247b) fun (t_269 : Bool) =>
  appK jt_270 t_269) (appK jt_270 false)) fun jt_265 => iteK t_260 (letK (t_240a.toList == t_247a.toList) fun (t_264 : Bool) =>
  appK jt_265 t_264) (appK jt_265 false)) fun jt_260 => iteK t_255 (Option.bind (Go.Proofs.YtgimcnpkngpmiaaGreatDoor.GlRTexts.P t_221a t_229a) fun (t_259 : Bool) =>
  appK jt_260 t_259) (appK jt_260 false)

def q7 (t_116a : (List Go.Proofs.YtgimcnpkngpmiaaGreatDoor.PPostmark.Postmark)) (nx1 : (Int × Int) → Option (Bool)) (last_22l1 : Int) (k1 : Nat) (first_21j6 : Int) (s : Bool) : Option (Bool) :=
  letK s fun t_200q7 =>
  iteK t_200q7
  (Option.bind (idx t_116a (k1 : Int)) fun (yt_195 : Go.Proofs.YtgimcnpkngpmiaaGreatDoor.PPostmark.Postmark) =>
  unPostmark yt_195 fun (t_195_id : Int) (t_195_town : ByteArray) (t_195_kind_ : Int) (t_195_first : Int) (t_195_last : Int) (t_195_lost : ByteArray) =>
  appK nx1 (first_21j6, t_195_last))
  (appK nx1 (first_21j6, last_22l1))

def j6 (t_116a : (List Go.Proofs.YtgimcnpkngpmiaaGreatDoor.PPostmark.Postmark)) (t_116b : ByteArray) (nx1 : (Int × Int) → Option (Bool)) (last_22l1 : Int) (k1 : Nat) (s : Int) : Option (Bool) :=
  Option.bind (idx t_116a (k1 : Int)) fun (yt_179 : Go.Proofs.YtgimcnpkngpmiaaGreatDoor.PPostmark.Postmark) =>
  unPostmark yt_179 fun (t_179_id : Int) (t_179_town : ByteArray) (t_179_kind_ : Int) (t_179_first : Int) (t_179_last : Int) (t_179_lost : ByteArray) =>
  letK (t_179_town.toList == t_116b.toList) fun (t_183 : Bool) =>
  joinK (fun (t_192 : Bool) =>
  q7 t_116a nx1 last_22l1 k1 s (t_192)) fun jt_192 => iteK t_183 (Option.bind (idx t_116a (k1 : Int)) fun (yt_187 : Go.Proofs.YtgimcnpkngpmiaaGreatDoor.PPostmark.Postmark) =>
  unPostmark yt_187 fun (t_187_id : Int) (t_187_town : ByteArray) (t_187_kind_ : Int) (t_187_first : Int) (t_187_last : Int) (t_187_lost : ByteArray) =>
  letK (decide (last_22l1 < t_187_last)) fun (t_191 : Bool) =>
  appK jt_192 t_191) (appK jt_192 false)

def q5 (t_116a : (List Go.Proofs.YtgimcnpkngpmiaaGreatDoor.PPostmark.Postmark)) (t_116b : ByteArray) (nx1 : (Int × Int) → Option (Bool)) (first_21l1 : Int) (last_22l1 : Int) (k1 : Nat) (s : Bool) : Option (Bool) :=
  letK s fun t_179q5 =>
  iteK t_179q5
  (Option.bind (idx t_116a (k1 : Int)) fun (yt_173 : Go.Proofs.YtgimcnpkngpmiaaGreatDoor.PPostmark.Postmark) =>
  unPostmark yt_173 fun (t_173_id : Int) (t_173_town : ByteArray) (t_173_kind_ : Int) (t_173_first : Int) (t_173_last : Int) (t_173_lost : ByteArray) =>
  j6 t_116a t_116b nx1 last_22l1 k1 (t_173_first))
  (j6 t_116a t_116b nx1 last_22l1 k1 (first_21l1))

def l1 (t_116a : (List Go.Proofs.YtgimcnpkngpmiaaGreatDoor.PPostmark.Postmark)) (t_116b : ByteArray) (k1 : Nat) (s : Int × Int) (nx1 bk1 : Int × Int → Option (Bool)) : Option (Bool) :=
  unp2 s fun first_21l1 last_22l1 =>
  Option.bind (idx t_116a (k1 : Int)) fun (yt_157 : Go.Proofs.YtgimcnpkngpmiaaGreatDoor.PPostmark.Postmark) =>
  unPostmark yt_157 fun (t_157_id : Int) (t_157_town : ByteArray) (t_157_kind_ : Int) (t_157_first : Int) (t_157_last : Int) (t_157_lost : ByteArray) =>
  letK (t_157_town.toList == t_116b.toList) fun (t_161 : Bool) =>
  joinK (fun (t_170 : Bool) =>
  q5 t_116a t_116b nx1 first_21l1 last_22l1 k1 (t_170)) fun jt_170 => iteK t_161 (Option.bind (idx t_116a (k1 : Int)) fun (yt_165 : Go.Proofs.YtgimcnpkngpmiaaGreatDoor.PPostmark.Postmark) =>
  unPostmark yt_165 fun (t_165_id : Int) (t_165_town : ByteArray) (t_165_kind_ : Int) (t_165_first : Int) (t_165_last : Int) (t_165_lost : ByteArray) =>
  letK (decide (t_165_first < first_21l1)) fun (t_169 : Bool) =>
  appK jt_170 t_169) (appK jt_170 false)

def q8 (code : (List Int)) (fuel : Nat) (tapes : List Int → Go.Proofs.YtgimcnpkngpmiaaGreatDoor.GoC.Tape) (t_2 : Bool) (t_5a : (List Go.Proofs.YtgimcnpkngpmiaaGreatDoor.PPostmark.Postmark)) (t_5b : Int) (t_5c : Int) (t_16a : (List Go.Proofs.YtgimcnpkngpmiaaGreatDoor.PPostmark.Postmark)) (t_16b : Int) (t_16c : Bool) (t_27a : (List Go.Proofs.YtgimcnpkngpmiaaGreatDoor.PPostmark.Postmark)) (t_27b : Int) (t_27c : Bool) (t_72q0 : Bool) (t_116a : (List Go.Proofs.YtgimcnpkngpmiaaGreatDoor.PPostmark.Postmark)) (t_116b : ByteArray) (t_124a : Int) (t_124b : Bool) (t_132a : Int) (t_132b : Bool) (t_156q3 : Bool) (first_21l1 : Int) (last_22l1 : Int) (s : Bool) : Option (Bool) :=
  letK s fun t_214q8 =>
  iteK t_214q8
  (some false)
  (q4 code fuel tapes ())

def e1 (code : (List Int)) (fuel : Nat) (tapes : List Int → Go.Proofs.YtgimcnpkngpmiaaGreatDoor.GoC.Tape) (t_2 : Bool) (t_5a : (List Go.Proofs.YtgimcnpkngpmiaaGreatDoor.PPostmark.Postmark)) (t_5b : Int) (t_5c : Int) (t_16a : (List Go.Proofs.YtgimcnpkngpmiaaGreatDoor.PPostmark.Postmark)) (t_16b : Int) (t_16c : Bool) (t_27a : (List Go.Proofs.YtgimcnpkngpmiaaGreatDoor.PPostmark.Postmark)) (t_27b : Int) (t_27c : Bool) (t_72q0 : Bool) (t_116a : (List Go.Proofs.YtgimcnpkngpmiaaGreatDoor.PPostmark.Postmark)) (t_116b : ByteArray) (t_124a : Int) (t_124b : Bool) (t_132a : Int) (t_132b : Bool) (t_156q3 : Bool) (s : Int × Int) : Option (Bool) :=
  unp2 s fun first_21l1 last_22l1 =>
  letK (decide (t_124a < 0)) fun (t_203 : Bool) =>
  joinK (fun (t_210 : Bool) =>
  q8 code fuel tapes t_2 t_5a t_5b t_5c t_16a t_16b t_16c t_27a t_27b t_27c t_72q0 t_116a t_116b t_124a t_124b t_132a t_132b t_156q3 first_21l1 last_22l1 (t_210)) fun jt_210 => iteK t_203 (appK jt_210 true) (letK (IntKind.i64.wrap (last_22l1 - first_21l1)) fun (t_208 : Int) =>
  letK (decide (t_208 < t_124a)) fun (t_209 : Bool) =>
  appK jt_210 t_209)

def q3 (code : (List Int)) (fuel : Nat) (tapes : List Int → Go.Proofs.YtgimcnpkngpmiaaGreatDoor.GoC.Tape) (t_2 : Bool) (t_5a : (List Go.Proofs.YtgimcnpkngpmiaaGreatDoor.PPostmark.Postmark)) (t_5b : Int) (t_5c : Int) (t_16a : (List Go.Proofs.YtgimcnpkngpmiaaGreatDoor.PPostmark.Postmark)) (t_16b : Int) (t_16c : Bool) (t_27a : (List Go.Proofs.YtgimcnpkngpmiaaGreatDoor.PPostmark.Postmark)) (t_27b : Int) (t_27c : Bool) (t_72q0 : Bool) (t_116a : (List Go.Proofs.YtgimcnpkngpmiaaGreatDoor.PPostmark.Postmark)) (t_116b : ByteArray) (t_124a : Int) (t_124b : Bool) (t_132a : Int) (t_132b : Bool) (s : Bool) : Option (Bool) :=
  letK s fun t_156q3 =>
  iteK t_156q3
  (some false)
  (iteK t_124b
  (cntK (l1 t_116a t_116b) (t_116a.length) 0 (4000, 0) (e1 code fuel tapes t_2 t_5a t_5b t_5c t_16a t_16b t_16c t_27a t_27b t_27c t_72q0 t_116a t_116b t_124a t_124b t_132a t_132b t_156q3))
  (q4 code fuel tapes ()))

def q1 (code : (List Int)) (fuel : Nat) (tapes : List Int → Go.Proofs.YtgimcnpkngpmiaaGreatDoor.GoC.Tape) (t_2 : Bool) (t_5a : (List Go.Proofs.YtgimcnpkngpmiaaGreatDoor.PPostmark.Postmark)) (t_5b : Int) (t_5c : Int) (t_16a : (List Go.Proofs.YtgimcnpkngpmiaaGreatDoor.PPostmark.Postmark)) (t_16b : Int) (t_16c : Bool) (t_27a : (List Go.Proofs.YtgimcnpkngpmiaaGreatDoor.PPostmark.Postmark)) (t_27b : Int) (t_27c : Bool) (t_72q0 : Bool) (s : Unit) : Option (Bool) :=
  bind2 (Go.Proofs.YtgimcnpkngpmiaaGreatDoor.GsDrawGapBetween.P fuel tapes code) fun (t_116a : (List Go.Proofs.YtgimcnpkngpmiaaGreatDoor.PPostmark.Postmark)) (t_116b : ByteArray) =>
  bind2 (Go.Proofs.YtgimcnpkngpmiaaGreatDoor.GiGapBetween.P fuel t_116a t_116b) fun (t_124a : Int) (t_124b : Bool) =>
  bind2 (Go.Proofs.YtgimcnpkngpmiaaGreatDoor.GsGapBetween.P fuel t_116a t_116b) fun (t_132a : Int) (t_132b : Bool) =>
  letK (t_124a != t_132a) fun (t_140 : Bool) =>
  joinK (fun (t_145 : Bool) =>
  q3 code fuel tapes t_2 t_5a t_5b t_5c t_16a t_16b t_16c t_27a t_27b t_27c t_72q0 t_116a t_116b t_124a t_124b t_132a t_132b (t_145)) fun jt_145 => iteK t_140 (appK jt_145 true) (letK (!(t_124b == t_132b)) fun (t_144 : Bool) =>
  appK jt_145 t_144)

def q2 (nx0 : (Unit) → Option (Bool)) (s : Bool) : Option (Bool) :=
  letK s fun t_131q2 =>
  iteK t_131q2
  (some false)
  (appK nx0 ())

def l0 (t_5a : (List Go.Proofs.YtgimcnpkngpmiaaGreatDoor.PPostmark.Postmark)) (t_5b : Int) (t_16a : (List Go.Proofs.YtgimcnpkngpmiaaGreatDoor.PPostmark.Postmark)) (t_16b : Int) (t_53a : (List ByteArray)) (k0 : Nat) (s : Unit) (nx0 bk0 : Unit → Option (Bool)) : Option (Bool) :=
  
  Option.bind (idx t_5a (k0 : Int)) fun (yt_69 : Go.Proofs.YtgimcnpkngpmiaaGreatDoor.PPostmark.Postmark) =>
  unPostmark yt_69 fun (t_69_id : Int) (t_69_town : ByteArray) (t_69_kind_ : Int) (t_69_first : Int) (t_69_last : Int) (t_69_lost : ByteArray) =>
  letK (t_69_id == t_5b) fun (t_73 : Bool) =>
  joinK (fun (t_110 : Bool) =>
  q2 nx0 (t_110)) fun jt_110 => iteK t_73 (Option.bind (idx t_5a (k0 : Int)) fun (yt_78 : Go.Proofs.YtgimcnpkngpmiaaGreatDoor.PPostmark.Postmark) =>
  unPostmark yt_78 fun (t_78_id : Int) (t_78_town : ByteArray) (t_78_kind_ : Int) (t_78_first : Int) (t_78_last : Int) (t_78_lost : ByteArray) =>
  Option.bind (Go.Proofs.YtgimcnpkngpmiaaGreatDoor.GlRHasText.P t_53a t_78_town) fun (t_81 : Bool) =>
  letK (!t_81) fun (t_82 : Bool) =>
  joinK (fun (t_109 : Bool) =>
  appK jt_110 t_109) fun jt_109 => iteK t_82 (appK jt_109 true) (Option.bind (idx t_16a (k0 : Int)) fun (yt_86 : Go.Proofs.YtgimcnpkngpmiaaGreatDoor.PPostmark.Postmark) =>
  unPostmark yt_86 fun (t_86_id : Int) (t_86_town : ByteArray) (t_86_kind_ : Int) (t_86_first : Int) (t_86_last : Int) (t_86_lost : ByteArray) =>
  Option.bind (idx t_16a (k0 : Int)) fun (yt_91 : Go.Proofs.YtgimcnpkngpmiaaGreatDoor.PPostmark.Postmark) =>
  unPostmark yt_91 fun (t_91_id : Int) (t_91_town : ByteArray) (t_91_kind_ : Int) (t_91_first : Int) (t_91_last : Int) (t_91_lost : ByteArray) =>
  letK (IntKind.i64.wrap (t_86_last - t_91_first)) fun (t_94 : Int) =>
  Option.bind (idx t_5a (k0 : Int)) fun (yt_97 : Go.Proofs.YtgimcnpkngpmiaaGreatDoor.PPostmark.Postmark) =>
  unPostmark yt_97 fun (t_97_id : Int) (t_97_town : ByteArray) (t_97_kind_ : Int) (t_97_first : Int) (t_97_last : Int) (t_97_lost : ByteArray) =>
  Option.bind (idx t_5a (k0 : Int)) fun (yt_102 : Go.Proofs.YtgimcnpkngpmiaaGreatDoor.PPostmark.Postmark) =>
  unPostmark yt_102 fun (t_102_id : Int) (t_102_town : ByteArray) (t_102_kind_ : Int) (t_102_first : Int) (t_102_last : Int) (t_102_lost : ByteArray) =>
  letK (IntKind.i64.wrap (t_97_last - t_102_first)) fun (t_105 : Int) =>
  letK (IntKind.i64.wrap (t_105 + t_16b)) fun (t_107 : Int) =>
  letK (t_94 != t_107) fun (t_108 : Bool) =>
  appK jt_109 t_108)) (appK jt_110 false)

def e0 (code : (List Int)) (fuel : Nat) (tapes : List Int → Go.Proofs.YtgimcnpkngpmiaaGreatDoor.GoC.Tape) (t_2 : Bool) (t_5a : (List Go.Proofs.YtgimcnpkngpmiaaGreatDoor.PPostmark.Postmark)) (t_5b : Int) (t_5c : Int) (t_16a : (List Go.Proofs.YtgimcnpkngpmiaaGreatDoor.PPostmark.Postmark)) (t_16b : Int) (t_16c : Bool) (t_27a : (List Go.Proofs.YtgimcnpkngpmiaaGreatDoor.PPostmark.Postmark)) (t_27b : Int) (t_27c : Bool) (t_72q0 : Bool) (t_53a : (List ByteArray)) (t_53b : Bool) (t_60 : Bool) (s : Unit) : Option (Bool) :=
  
  q1 code fuel tapes t_2 t_5a t_5b t_5c t_16a t_16b t_16c t_27a t_27b t_27c t_72q0 ()

def q0 (code : (List Int)) (fuel : Nat) (tapes : List Int → Go.Proofs.YtgimcnpkngpmiaaGreatDoor.GoC.Tape) (t_2 : Bool) (t_5a : (List Go.Proofs.YtgimcnpkngpmiaaGreatDoor.PPostmark.Postmark)) (t_5b : Int) (t_5c : Int) (t_16a : (List Go.Proofs.YtgimcnpkngpmiaaGreatDoor.PPostmark.Postmark)) (t_16b : Int) (t_16c : Bool) (t_27a : (List Go.Proofs.YtgimcnpkngpmiaaGreatDoor.PPostmark.Postmark)) (t_27b : Int) (t_27c : Bool) (s : Bool) : Option (Bool) :=
  letK s fun t_72q0 =>
  iteK t_72q0
  (some false)
  (iteK t_16c
  (bind2 (Go.Proofs.YtgimcnpkngpmiaaGreatDoor.GiTownsOn.P t_16a t_5c) fun (t_53a : (List ByteArray)) (t_53b : Bool) =>
  letK (!t_53b) fun (t_60 : Bool) =>
  iteK t_60
  (some false)
  (cntK (l0 t_5a t_5b t_16a t_16b t_53a) (t_5a.length) 0 () (e0 code fuel tapes t_2 t_5a t_5b t_5c t_16a t_16b t_16c t_27a t_27b t_27c t_72q0 t_53a t_53b t_60)))
  (q1 code fuel tapes t_2 t_5a t_5b t_5c t_16a t_16b t_16c t_27a t_27b t_27c t_72q0 ()))

def P (fuel : Nat) (tapes : List Int → Go.Proofs.YtgimcnpkngpmiaaGreatDoor.GoC.Tape) (code : (List Int)) : Option (Bool) :=
  Option.bind (Go.Proofs.YtgimcnpkngpmiaaGreatDoor.GlRBig.P code) fun (t_2 : Bool) =>
  iteK t_2
  (some true)
  (bind3 (Go.Proofs.YtgimcnpkngpmiaaGreatDoor.GsDrawExtendUse.P fuel tapes code) fun (t_5a : (List Go.Proofs.YtgimcnpkngpmiaaGreatDoor.PPostmark.Postmark)) (t_5b : Int) (t_5c : Int) =>
  bind3 (Go.Proofs.YtgimcnpkngpmiaaGreatDoor.GiExtendUse.P t_5a t_5b t_5c) fun (t_16a : (List Go.Proofs.YtgimcnpkngpmiaaGreatDoor.PPostmark.Postmark)) (t_16b : Int) (t_16c : Bool) =>
  bind3 (Go.Proofs.YtgimcnpkngpmiaaGreatDoor.GsExtendUse.P fuel t_5a t_5b t_5c) fun (t_27a : (List Go.Proofs.YtgimcnpkngpmiaaGreatDoor.PPostmark.Postmark)) (t_27b : Int) (t_27c : Bool) =>
  letK (!(t_16c == t_27c)) fun (t_37 : Bool) =>
  joinK (fun (t_42 : Bool) =>
  joinK (fun (t_48 : Bool) =>
  q0 code fuel tapes t_2 t_5a t_5b t_5c t_16a t_16b t_16c t_27a t_27b t_27c (t_48)) fun jt_48 => iteK t_42 (appK jt_48 true) (Option.bind (Go.Proofs.YtgimcnpkngpmiaaGreatDoor.GlRMarks.P t_16a t_27a) fun (t_46 : Bool) =>
  letK (!t_46) fun (t_47 : Bool) =>
  appK jt_48 t_47)) fun jt_42 => iteK t_37 (appK jt_42 true) (letK (t_16b != t_27b) fun (t_41 : Bool) =>
  appK jt_42 t_41))

set_option maxRecDepth 100000 in
set_option maxHeartbeats 20000000 in
theorem C (fuel : Nat) (tapes : List Int → Go.Proofs.YtgimcnpkngpmiaaGreatDoor.GoC.Tape) (code : (List Int)) (A0 : Option Addr) (c0 : Nat)  (w : World) (HT : Hid (Tab w)) (HE : Hid (Go.Proofs.YtgimcnpkngpmiaaGreatDoor.GoC.Tells tapes)) (M0 : Hid (Cells w 1 A0 code.length (Go.Proofs.YtgimcnpkngpmiaaGreatDoor.GoC.u8s code))) (N0 : Hid (code.length ≤ 9223372036854775807)) (V0 : Hid (∀ z ∈ code, 0 ≤ z ∧ z ≤ 255))  {r : Bool} (H : Hid (P fuel tapes code = some r)) :
    Calls Tryz.prog 3 #[.slice A0 code.length c0] w (Gives (.bool r) w) := by
  have HB := Lib.hid (Below.refl w.heap.size w)
  unfold P at H
  have N0o := N0.out
  go_enter Tryz.func3, Tryz.ntmps3
  replace H := bind_hid H
  obtain ⟨t_2, qt_2, H⟩ := H
  go_wp2_with fail
  go_at_call 4
  refine (Go.Proofs.YtgimcnpkngpmiaaGreatDoor.GlRBig.C (code) A0 c0 _   (Lib.hid (Cells.below M0.out HB.out)) N0 V0 qt_2).mono ?_
  rintro e_t_2 wt_2 ⟨rfl, bt_2⟩
  have HBwt_2 := Lib.hid (Below.step HB.out bt_2)
  clear bt_2
  cases t_2 with
  | false =>
    replace H := ite_f H
    replace H := bind3_hid H
    obtain ⟨t_5a, t_5b, t_5c, qt_5, H⟩ := H
    go_wp2_with fail
    go_at_call 5
    refine (Go.Proofs.YtgimcnpkngpmiaaGreatDoor.GsDrawExtendUse.C fuel tapes (code) A0 c0 _  HE (Lib.hid (Cells.below M0.out HBwt_2.out)) N0 V0 qt_5).mono ?_
    rintro e_t_5 wt_5 ⟨At_5a, ct_5a, rfl, ot_5a, bt_5⟩
    have Ot_5a := Lib.hid (own_lower ot_5a HBwt_2.out.size)
    clear ot_5a
    have HBwt_5 := Lib.hid (Below.step HBwt_2.out bt_5)
    clear bt_5
    replace H := bind3_hid H
    obtain ⟨t_16a, t_16b, t_16c, qt_16, H⟩ := H
    go_wp2_with fail
    go_at_call 6
    refine (Go.Proofs.YtgimcnpkngpmiaaGreatDoor.GiExtendUse.C (t_5a) (t_5b) (t_5c) At_5a ct_5a _   (Lib.hid (own_cells Ot_5a.out)) (Lib.hid (own_max Ot_5a.out)) (Lib.hid (own_room Ot_5a.out)) qt_16).mono ?_
    rintro e_t_16 wt_16 ⟨At_16a, ct_16a, rfl, ot_16a, bt_16⟩
    have Dt_16a_t_5a := Lib.hid (apart_call ot_16a Ot_5a.out)
    have Ot_16a := Lib.hid (own_lower ot_16a HBwt_5.out.size)
    clear ot_16a
    have HBwt_16 := Lib.hid (Below.step HBwt_5.out bt_16)
    replace Ot_5a := Lib.hid (own_below Ot_5a.out bt_16)
    clear bt_16
    replace H := bind3_hid H
    obtain ⟨t_27a, t_27b, t_27c, qt_27, H⟩ := H
    go_wp2_with fail
    go_at_call 7
    refine (Go.Proofs.YtgimcnpkngpmiaaGreatDoor.GsExtendUse.C fuel (t_5a) (t_5b) (t_5c) At_5a ct_5a _   (Lib.hid (own_cells Ot_5a.out)) (Lib.hid (own_max Ot_5a.out)) (Lib.hid (own_room Ot_5a.out)) qt_27).mono ?_
    rintro e_t_27 wt_27 ⟨At_27a, ct_27a, rfl, ot_27a, bt_27⟩
    have Dt_27a_t_5a := Lib.hid (apart_call ot_27a Ot_5a.out)
    have Dt_27a_t_16a := Lib.hid (apart_call ot_27a Ot_16a.out)
    have Ot_27a := Lib.hid (own_lower ot_27a HBwt_16.out.size)
    clear ot_27a
    have HBwt_27 := Lib.hid (Below.step HBwt_16.out bt_27)
    replace Ot_5a := Lib.hid (own_below Ot_5a.out bt_27)
    replace Ot_16a := Lib.hid (own_below Ot_16a.out bt_27)
    clear bt_27
    go_upto_region 6 with fail
    go_cut [72] (fun v72_ wr => ∃ (t_72q0 : Bool), v72_ = .bool t_72q0 ∧ Hid (q0 code fuel tapes false t_5a t_5b t_5c t_16a t_16b t_16c t_27a t_27b t_27c (t_72q0) = some r) ∧ Hid (Below w.heap.size w wr) ∧ Hid (wr.ownsRow w.heap.size 34 6 (.slice At_5a t_5a.length ct_5a) t_5a.length (Go.Proofs.YtgimcnpkngpmiaaGreatDoor.PPostmark.flat t_5a)) ∧ Hid (wr.ownsRow w.heap.size 34 6 (.slice At_16a t_16a.length ct_16a) t_16a.length (Go.Proofs.YtgimcnpkngpmiaaGreatDoor.PPostmark.flat t_16a)) ∧ Hid (wr.ownsRow w.heap.size 34 6 (.slice At_27a t_27a.length ct_27a) t_27a.length (Go.Proofs.YtgimcnpkngpmiaaGreatDoor.PPostmark.flat t_27a)))
    case first =>
      as_aux_lemma =>
        replace H := let_hid H
        obtain ⟨t_37, ht_37, H⟩ := H
        replace H := join_hid H
        cases t_37 with
        | false =>
          replace H := ite_f H
          replace H := let_hid H
          obtain ⟨t_41, ht_41, H⟩ := H
          replace H := app_hid H
          replace H := join_hid H
          cases t_41 with
          | false =>
            replace H := ite_f H
            replace H := bind_hid H
            obtain ⟨t_46, qt_46, H⟩ := H
            go_wp2_with fail
            go_at_call 8
            refine (Go.Proofs.YtgimcnpkngpmiaaGreatDoor.GlRMarks.C (t_16a) (t_27a) At_16a ct_16a At_27a ct_27a _   (Lib.hid (own_cells Ot_16a.out)) (Lib.hid (own_max Ot_16a.out)) (Lib.hid (own_cells Ot_27a.out)) (Lib.hid (own_max Ot_27a.out)) qt_46).mono ?_
            rintro e_t_46 wt_46 ⟨rfl, bt_46⟩
            have HBwt_46 := Lib.hid (Below.step HBwt_27.out bt_46)
            replace Ot_5a := Lib.hid (own_below Ot_5a.out bt_46)
            replace Ot_16a := Lib.hid (own_below Ot_16a.out bt_46)
            replace Ot_27a := Lib.hid (own_below Ot_27a.out bt_46)
            clear bt_46
            cases t_46 with
            | false =>
              replace H := let_hid H
              obtain ⟨t_47, ht_47, H⟩ := H
              obtain rfl : t_47 = true := ht_47.symm
              replace H := app_hid H
              go_wp2_with fail
              go_meet
              case rel => exact ⟨_, rfl, H, HBwt_46, Ot_5a, Ot_16a, Ot_27a⟩
            | true =>
              replace H := let_hid H
              obtain ⟨t_47, ht_47, H⟩ := H
              obtain rfl : t_47 = false := ht_47.symm
              replace H := app_hid H
              go_wp2_with fail
              go_meet
              case rel => exact ⟨_, rfl, H, HBwt_46, Ot_5a, Ot_16a, Ot_27a⟩
          | true =>
            replace H := ite_t H
            replace H := app_hid H
            go_wp2_with fail
            go_meet
            case rel => exact ⟨_, rfl, H, HBwt_27, Ot_5a, Ot_16a, Ot_27a⟩
        | true =>
          replace H := ite_t H
          replace H := app_hid H
          replace H := join_hid H
          replace H := ite_t H
          replace H := app_hid H
          go_wp2_with fail
          go_meet
          case rel => exact ⟨_, rfl, H, HBwt_27, Ot_5a, Ot_16a, Ot_27a⟩
    case rest =>
      as_aux_lemma =>
        obtain ⟨t_72q0, rfl, H, HBwq0, Ot_5a, Ot_16a, Ot_27a⟩ := hcut
        rename World => wq0
        unfold q0 at H
        replace H := let_hid H
        obtain ⟨_, rfl, H⟩ := H
        cases t_72q0 with
        | false =>
          replace H := ite_f H
          go_upto_if 73 with fail
          go_cut [] (fun  wr => Hid (q1 code fuel tapes false t_5a t_5b t_5c t_16a t_16b t_16c t_27a t_27b t_27c false () = some r) ∧ Hid (Below w.heap.size w wr) ∧ Hid (wr.ownsRow w.heap.size 34 6 (.slice At_5a t_5a.length ct_5a) t_5a.length (Go.Proofs.YtgimcnpkngpmiaaGreatDoor.PPostmark.flat t_5a)) ∧ Hid (wr.ownsRow w.heap.size 34 6 (.slice At_16a t_16a.length ct_16a) t_16a.length (Go.Proofs.YtgimcnpkngpmiaaGreatDoor.PPostmark.flat t_16a)) ∧ Hid (wr.ownsRow w.heap.size 34 6 (.slice At_27a t_27a.length ct_27a) t_27a.length (Go.Proofs.YtgimcnpkngpmiaaGreatDoor.PPostmark.flat t_27a)))
          case first =>
            as_aux_lemma =>
              cases t_16c with
              | false =>
                replace H := ite_f H
                go_wp2_with fail
                go_meet
                case rel => exact ⟨H, HBwq0, Ot_5a, Ot_16a, Ot_27a⟩
              | true =>
                replace H := ite_t H
                replace H := bind2_hid H
                obtain ⟨t_53a, t_53b, qt_53, H⟩ := H
                go_wp2_with fail
                go_at_call 9
                refine (Go.Proofs.YtgimcnpkngpmiaaGreatDoor.GiTownsOn.C (t_16a) (t_5c) At_16a ct_16a _   (Lib.hid (own_cells Ot_16a.out)) (Lib.hid (own_max Ot_16a.out)) qt_53).mono ?_
                rintro e_t_53 wt_53 ⟨At_53a, ct_53a, rfl, ot_53a, bt_53⟩
                have Dt_53a_t_5a := Lib.hid (apart_call ot_53a Ot_5a.out)
                have Dt_53a_t_16a := Lib.hid (apart_call ot_53a Ot_16a.out)
                have Dt_53a_t_27a := Lib.hid (apart_call ot_53a Ot_27a.out)
                have Ot_53a := Lib.hid (own_lower ot_53a HBwq0.out.size)
                clear ot_53a
                have HBwt_53 := Lib.hid (Below.step HBwq0.out bt_53)
                replace Ot_5a := Lib.hid (own_below Ot_5a.out bt_53)
                replace Ot_16a := Lib.hid (own_below Ot_16a.out bt_53)
                replace Ot_27a := Lib.hid (own_below Ot_27a.out bt_53)
                clear bt_53
                cases t_53b with
                | false =>
                  replace H := let_hid H
                  obtain ⟨t_60, ht_60, H⟩ := H
                  obtain rfl : t_60 = true := ht_60.symm
                  replace H := ite_t H
                  obtain rfl := ret_hid H
                  go_wp2_with fail
                  go_ret
                  exact ⟨rfl, HBwt_53.out⟩
                | true =>
                  replace H := let_hid H
                  obtain ⟨t_60, ht_60, H⟩ := H
                  obtain rfl : t_60 = false := ht_60.symm
                  replace H := ite_f H
                  have hb_0 : t_5a.length ≤ 9223372036854775807 := own_max Ot_5a.out
                  go_wp2_with fail
                  go_loopg [14] (t_5a.length) (fun m_ v14_ wr => ∃ (k0 : Nat) , k0 + m_ = t_5a.length ∧ v14_ = .int .i64 (k0 : Int) ∧ Hid (cntK (l0 t_5a t_5b t_16a t_16b t_53a) m_ k0 () (e0 code fuel tapes false t_5a t_5b t_5c t_16a t_16b true t_27a t_27b t_27c false t_53a true false) = some r) ∧ Hid (Below w.heap.size w wr) ∧ Hid (wr.ownsRow w.heap.size 34 6 (.slice At_5a t_5a.length ct_5a) t_5a.length (Go.Proofs.YtgimcnpkngpmiaaGreatDoor.PPostmark.flat t_5a)) ∧ Hid (wr.ownsRow w.heap.size 34 6 (.slice At_16a t_16a.length ct_16a) t_16a.length (Go.Proofs.YtgimcnpkngpmiaaGreatDoor.PPostmark.flat t_16a)) ∧ Hid (wr.ownsRow w.heap.size 34 6 (.slice At_27a t_27a.length ct_27a) t_27a.length (Go.Proofs.YtgimcnpkngpmiaaGreatDoor.PPostmark.flat t_27a)) ∧ Hid (wr.ownsRow w.heap.size 9 1 (.slice At_53a t_53a.length ct_53a) t_53a.length (t_53a.map Value.string)))
                  case atStart => exact ⟨0, by omega, rfl, H, HBwt_53, Ot_5a, Ot_16a, Ot_27a, Ot_53a⟩
                  case round =>
                    obtain ⟨k0, hkm0, rfl, H, HBwr0, Ot_5a, Ot_16a, Ot_27a, Ot_53a⟩ := hrel
                    rename World => wr0
                    cases gk with
                    | zero =>
                      obtain rfl : k0 = t_5a.length := by omega
                      have hc0 : decide (((t_5a.length : Nat) : Int) < ((t_5a.length : Nat) : Int)) = false := by simp
                      replace H := cnt_zero H
                      unfold e0 at H
                      go_wp2_with fail
                      go_meet
                      case rel => exact ⟨H, HBwr0, Ot_5a, Ot_16a, Ot_27a⟩
                    | succ m0 =>
                      have hlt0 : k0 < t_5a.length := by omega
                      have hc0 : decide ((k0 : Int) < ((t_5a.length : Nat) : Int)) = true := by simp; omega
                      replace H := cnt_succ H
                      unfold l0 at H
                      go_upto_region 15 with fail
                      go_cut [131] (fun v131_ wr => ∃ (t_131q2 : Bool), v131_ = .bool t_131q2 ∧ Hid (q2 (fun s' => cntK (l0 t_5a t_5b t_16a t_16b t_53a) m0 (k0 + 1) s' (e0 code fuel tapes false t_5a t_5b t_5c t_16a t_16b true t_27a t_27b t_27c false t_53a true false)) (t_131q2) = some r) ∧ Hid (Below w.heap.size w wr) ∧ Hid (wr.ownsRow w.heap.size 34 6 (.slice At_5a t_5a.length ct_5a) t_5a.length (Go.Proofs.YtgimcnpkngpmiaaGreatDoor.PPostmark.flat t_5a)) ∧ Hid (wr.ownsRow w.heap.size 34 6 (.slice At_16a t_16a.length ct_16a) t_16a.length (Go.Proofs.YtgimcnpkngpmiaaGreatDoor.PPostmark.flat t_16a)) ∧ Hid (wr.ownsRow w.heap.size 34 6 (.slice At_27a t_27a.length ct_27a) t_27a.length (Go.Proofs.YtgimcnpkngpmiaaGreatDoor.PPostmark.flat t_27a)) ∧ Hid (wr.ownsRow w.heap.size 9 1 (.slice At_53a t_53a.length ct_53a) t_53a.length (t_53a.map Value.string)))
                      case first =>
                        as_aux_lemma =>
                          go_wp2_with fail
                          replace H := idx_hid H
                          obtain ⟨nt_69, yt_69, et_69, lt_69, gt_69, H⟩ := H
                          obtain rfl : k0 = nt_69 := by omega
                          clear et_69
                          obtain ⟨t_69_id, t_69_town, t_69_kind_, t_69_first, t_69_last, t_69_lost⟩ := yt_69
                          replace H := unPostmark_hid H
                          obtain ⟨qt_69, Qt_69⟩ := own_some Ot_5a.out (by omega)
                          subst Qt_69
                          obtain ⟨ab_t_69, ao_t_69, zt_69, At_69, z_t_69, ct_69_0, ct_69_1, ct_69_2, ct_69_3, ct_69_4, ct_69_5⟩ := Go.Proofs.YtgimcnpkngpmiaaGreatDoor.OPostmark.at_ (own_cells Ot_5a.out) (k := k0) (by omega)
                          obtain rfl := Option.some.inj (gt_69.out.symm.trans z_t_69)
                          simp only [Option.some.injEq, Addr.mk.injEq] at At_69
                          obtain ⟨rfl, rfl, _⟩ := At_69
                          clear z_t_69
                          simp only [Nat.zero_add] at ct_69_0 ct_69_1 ct_69_2 ct_69_3 ct_69_4 ct_69_5
                          have b0t_69 : (0 : Int) ≤ (k0 : Int) := by omega
                          have b1t_69 : (k0 : Int) < ((t_5a.length : Nat) : Int) := by omega
                          have b2t_69 : ((k0 : Int)).toNat = k0 := by omega
                          have Hct_69_0 := Lib.hid ct_69_0
                          replace ct_69_0 := cell_regrown ct_69_0
                          have Hct_69_1 := Lib.hid ct_69_1
                          replace ct_69_1 := cell_regrown ct_69_1
                          have Hct_69_2 := Lib.hid ct_69_2
                          replace ct_69_2 := cell_regrown ct_69_2
                          have Hct_69_3 := Lib.hid ct_69_3
                          replace ct_69_3 := cell_regrown ct_69_3
                          have Hct_69_4 := Lib.hid ct_69_4
                          replace ct_69_4 := cell_regrown ct_69_4
                          have Hct_69_5 := Lib.hid ct_69_5
                          replace ct_69_5 := cell_regrown ct_69_5
                          replace H := let_hid H
                          obtain ⟨t_73, ht_73, H⟩ := H
                          replace H := join_hid H
                          cases t_73 with
                          | false =>
                            replace H := ite_f H
                            replace H := app_hid H
                            refine wp_region_quiet_below (by kernel_rfl) (by kernel_rfl) ?_
                            repeat (go_big_quiet_step (fail))
                            refine wpQuiet_nil ?_
                            intro Y15 hY15
                            replace hY15 := below_class hY15
                            replace ct_69_0 := Hct_69_0.out
                            clear Hct_69_0
                            replace ct_69_1 := Hct_69_1.out
                            clear Hct_69_1
                            replace ct_69_2 := Hct_69_2.out
                            clear Hct_69_2
                            replace ct_69_3 := Hct_69_3.out
                            clear Hct_69_3
                            replace ct_69_4 := Hct_69_4.out
                            clear Hct_69_4
                            replace ct_69_5 := Hct_69_5.out
                            clear Hct_69_5
                            have HBY15 := Lib.hid (Below.step HBwr0.out hY15)
                            replace ct_69_0 := cell_below hY15 ct_69_0
                            replace ct_69_1 := cell_below hY15 ct_69_1
                            replace ct_69_2 := cell_below hY15 ct_69_2
                            replace ct_69_3 := cell_below hY15 ct_69_3
                            replace ct_69_4 := cell_below hY15 ct_69_4
                            replace ct_69_5 := cell_below hY15 ct_69_5
                            replace Ot_5a := Lib.hid (own_below Ot_5a.out hY15)
                            replace Ot_16a := Lib.hid (own_below Ot_16a.out hY15)
                            replace Ot_27a := Lib.hid (own_below Ot_27a.out hY15)
                            replace Ot_53a := Lib.hid (own_below Ot_53a.out hY15)
                            clear hY15
                            go_wp2_with fail
                            go_meet
                            case rel => exact ⟨_, rfl, H, HBY15, Ot_5a, Ot_16a, Ot_27a, Ot_53a⟩
                          | true =>
                            replace H := ite_t H
                            replace H := idx_hid H
                            obtain ⟨nt_78, yt_78, et_78, lt_78, gt_78, H⟩ := H
                            obtain rfl : k0 = nt_78 := by omega
                            clear et_78
                            obtain rfl := Option.some.inj (gt_69.out.symm.trans gt_78.out)
                            clear gt_78 lt_78
                            replace H := unPostmark_hid H
                            replace H := bind_hid H
                            obtain ⟨t_81, qt_81, H⟩ := H
                            have nt_81 : ∀ d os, Calls Tryz.prog 10 #[.slice At_53a t_53a.length ct_53a, .string t_69_town] (Go.Sort.grow (redrawn wr0 d) os) fun e w'' => e = .returned (.bool t_81) ∧ ∃ p : Regrown, w'' = Go.Sort.grow (redrawn wr0 p.d) p.os := fun d os => Calls.regrown_of (Go.Proofs.YtgimcnpkngpmiaaGreatDoor.GlRHasText.C (t_53a) (t_69_town) At_53a ct_53a _   (Lib.hid (Cells.below (own_cells Ot_53a.out) (below_regrown _ _ _))) (Lib.hid (own_max Ot_53a.out)) qt_81)
                            cases t_81 with
                            | false =>
                              replace H := let_hid H
                              obtain ⟨t_82, ht_82, H⟩ := H
                              obtain rfl : t_82 = true := ht_82.symm
                              replace H := join_hid H
                              replace H := ite_t H
                              replace H := app_hid H
                              replace H := app_hid H
                              refine wp_region_quiet_below (by kernel_rfl) (by kernel_rfl) ?_
                              repeat (go_big_quiet_step (first | (go_at_call 10; exact nt_81 _ _)))
                              refine wpQuiet_nil ?_
                              intro Y15 hY15
                              replace hY15 := below_class hY15
                              clear nt_81
                              replace ct_69_0 := Hct_69_0.out
                              clear Hct_69_0
                              replace ct_69_1 := Hct_69_1.out
                              clear Hct_69_1
                              replace ct_69_2 := Hct_69_2.out
                              clear Hct_69_2
                              replace ct_69_3 := Hct_69_3.out
                              clear Hct_69_3
                              replace ct_69_4 := Hct_69_4.out
                              clear Hct_69_4
                              replace ct_69_5 := Hct_69_5.out
                              clear Hct_69_5
                              have HBY15 := Lib.hid (Below.step HBwr0.out hY15)
                              replace ct_69_0 := cell_below hY15 ct_69_0
                              replace ct_69_1 := cell_below hY15 ct_69_1
                              replace ct_69_2 := cell_below hY15 ct_69_2
                              replace ct_69_3 := cell_below hY15 ct_69_3
                              replace ct_69_4 := cell_below hY15 ct_69_4
                              replace ct_69_5 := cell_below hY15 ct_69_5
                              replace Ot_5a := Lib.hid (own_below Ot_5a.out hY15)
                              replace Ot_16a := Lib.hid (own_below Ot_16a.out hY15)
                              replace Ot_27a := Lib.hid (own_below Ot_27a.out hY15)
                              replace Ot_53a := Lib.hid (own_below Ot_53a.out hY15)
                              clear hY15
                              go_wp2_with fail
                              go_meet
                              case rel => exact ⟨_, rfl, H, HBY15, Ot_5a, Ot_16a, Ot_27a, Ot_53a⟩
                            | true =>
                              replace H := let_hid H
                              obtain ⟨t_82, ht_82, H⟩ := H
                              obtain rfl : t_82 = false := ht_82.symm
                              replace H := join_hid H
                              replace H := ite_f H
                              replace H := idx_hid H
                              obtain ⟨nt_86, yt_86, et_86, lt_86, gt_86, H⟩ := H
                              obtain rfl : k0 = nt_86 := by omega
                              clear et_86
                              obtain ⟨t_86_id, t_86_town, t_86_kind_, t_86_first, t_86_last, t_86_lost⟩ := yt_86
                              replace H := unPostmark_hid H
                              obtain ⟨qt_86, Qt_86⟩ := own_some Ot_16a.out (by omega)
                              subst Qt_86
                              obtain ⟨ab_t_86, ao_t_86, zt_86, At_86, z_t_86, ct_86_0, ct_86_1, ct_86_2, ct_86_3, ct_86_4, ct_86_5⟩ := Go.Proofs.YtgimcnpkngpmiaaGreatDoor.OPostmark.at_ (own_cells Ot_16a.out) (k := k0) (by omega)
                              obtain rfl := Option.some.inj (gt_86.out.symm.trans z_t_86)
                              simp only [Option.some.injEq, Addr.mk.injEq] at At_86
                              obtain ⟨rfl, rfl, _⟩ := At_86
                              clear z_t_86
                              simp only [Nat.zero_add] at ct_86_0 ct_86_1 ct_86_2 ct_86_3 ct_86_4 ct_86_5
                              have b0t_86 : (0 : Int) ≤ (k0 : Int) := by omega
                              have b1t_86 : (k0 : Int) < ((t_16a.length : Nat) : Int) := by omega
                              have b2t_86 : ((k0 : Int)).toNat = k0 := by omega
                              have Hct_86_0 := Lib.hid ct_86_0
                              replace ct_86_0 := cell_regrown ct_86_0
                              have Hct_86_1 := Lib.hid ct_86_1
                              replace ct_86_1 := cell_regrown ct_86_1
                              have Hct_86_2 := Lib.hid ct_86_2
                              replace ct_86_2 := cell_regrown ct_86_2
                              have Hct_86_3 := Lib.hid ct_86_3
                              replace ct_86_3 := cell_regrown ct_86_3
                              have Hct_86_4 := Lib.hid ct_86_4
                              replace ct_86_4 := cell_regrown ct_86_4
                              have Hct_86_5 := Lib.hid ct_86_5
                              replace ct_86_5 := cell_regrown ct_86_5
                              replace H := idx_hid H
                              obtain ⟨nt_91, yt_91, et_91, lt_91, gt_91, H⟩ := H
                              obtain rfl : k0 = nt_91 := by omega
                              clear et_91
                              obtain rfl := Option.some.inj (gt_86.out.symm.trans gt_91.out)
                              clear gt_91 lt_91
                              replace H := unPostmark_hid H
                              replace H := let_hid H
                              obtain ⟨t_94, ht_94, H⟩ := H
                              replace H := idx_hid H
                              obtain ⟨nt_97, yt_97, et_97, lt_97, gt_97, H⟩ := H
                              obtain rfl : k0 = nt_97 := by omega
                              clear et_97
                              obtain rfl := Option.some.inj (gt_69.out.symm.trans gt_97.out)
                              clear gt_97 lt_97
                              replace H := unPostmark_hid H
                              replace H := idx_hid H
                              obtain ⟨nt_102, yt_102, et_102, lt_102, gt_102, H⟩ := H
                              obtain rfl : k0 = nt_102 := by omega
                              clear et_102
                              obtain rfl := Option.some.inj (gt_69.out.symm.trans gt_102.out)
                              clear gt_102 lt_102
                              replace H := unPostmark_hid H
                              replace H := let_hid H
                              obtain ⟨t_105, ht_105, H⟩ := H
                              replace H := let_hid H
                              obtain ⟨t_107, ht_107, H⟩ := H
                              replace H := let_hid H
                              obtain ⟨t_108, ht_108, H⟩ := H
                              replace H := app_hid H
                              replace H := app_hid H
                              refine wp_region_quiet_below (by kernel_rfl) (by kernel_rfl) ?_
                              repeat (go_big_quiet_step (first | (go_at_call 10; exact nt_81 _ _)))
                              refine wpQuiet_nil ?_
                              intro Y15 hY15
                              replace hY15 := below_class hY15
                              clear nt_81
                              replace ct_69_0 := Hct_69_0.out
                              clear Hct_69_0
                              replace ct_69_1 := Hct_69_1.out
                              clear Hct_69_1
                              replace ct_69_2 := Hct_69_2.out
                              clear Hct_69_2
                              replace ct_69_3 := Hct_69_3.out
                              clear Hct_69_3
                              replace ct_69_4 := Hct_69_4.out
                              clear Hct_69_4
                              replace ct_69_5 := Hct_69_5.out
                              clear Hct_69_5
                              replace ct_86_0 := Hct_86_0.out
                              clear Hct_86_0
                              replace ct_86_1 := Hct_86_1.out
                              clear Hct_86_1
                              replace ct_86_2 := Hct_86_2.out
                              clear Hct_86_2
                              replace ct_86_3 := Hct_86_3.out
                              clear Hct_86_3
                              replace ct_86_4 := Hct_86_4.out
                              clear Hct_86_4
                              replace ct_86_5 := Hct_86_5.out
                              clear Hct_86_5
                              have HBY15 := Lib.hid (Below.step HBwr0.out hY15)
                              replace ct_69_0 := cell_below hY15 ct_69_0
                              replace ct_69_1 := cell_below hY15 ct_69_1
                              replace ct_69_2 := cell_below hY15 ct_69_2
                              replace ct_69_3 := cell_below hY15 ct_69_3
                              replace ct_69_4 := cell_below hY15 ct_69_4
                              replace ct_69_5 := cell_below hY15 ct_69_5
                              replace ct_86_0 := cell_below hY15 ct_86_0
                              replace ct_86_1 := cell_below hY15 ct_86_1
                              replace ct_86_2 := cell_below hY15 ct_86_2
                              replace ct_86_3 := cell_below hY15 ct_86_3
                              replace ct_86_4 := cell_below hY15 ct_86_4
                              replace ct_86_5 := cell_below hY15 ct_86_5
                              replace Ot_5a := Lib.hid (own_below Ot_5a.out hY15)
                              replace Ot_16a := Lib.hid (own_below Ot_16a.out hY15)
                              replace Ot_27a := Lib.hid (own_below Ot_27a.out hY15)
                              replace Ot_53a := Lib.hid (own_below Ot_53a.out hY15)
                              clear hY15
                              go_wp2_with fail
                              go_meet
                              case rel => exact ⟨_, rfl, H, HBY15, Ot_5a, Ot_16a, Ot_27a, Ot_53a⟩
                      case rest =>
                        as_aux_lemma =>
                          obtain ⟨t_131q2, rfl, H, HBwq2, Ot_5a, Ot_16a, Ot_27a, Ot_53a⟩ := hcut
                          rename World => wq2
                          unfold q2 at H
                          replace H := let_hid H
                          obtain ⟨_, rfl, H⟩ := H
                          cases t_131q2 with
                          | false =>
                            replace H := ite_f H
                            replace H := app_hid H
                            go_wp2_with fail
                            go_roundg m0
                            case measure => omega
                            case rel => exact ⟨k0 + 1, by omega, by go_num, H, HBwq2, Ot_5a, Ot_16a, Ot_27a, Ot_53a⟩
                          | true =>
                            replace H := ite_t H
                            obtain rfl := ret_hid H
                            go_wp2_with fail
                            go_ret
                            exact ⟨rfl, HBwq2.out⟩
          case rest =>
            as_aux_lemma =>
              obtain ⟨H, HBwq1, Ot_5a, Ot_16a, Ot_27a⟩ := hcut
              rename World => wq1
              unfold q1 at H
              replace H := bind2_hid H
              obtain ⟨t_116a, t_116b, qt_116, H⟩ := H
              go_wp2_with fail
              go_at_call 11
              refine (Go.Proofs.YtgimcnpkngpmiaaGreatDoor.GsDrawGapBetween.C fuel tapes (code) A0 c0 _  HE (Lib.hid (Cells.below M0.out HBwq1.out)) N0 V0 qt_116).mono ?_
              rintro e_t_116 wt_116 ⟨At_116a, ct_116a, rfl, ot_116a, bt_116⟩
              have Dt_116a_t_5a := Lib.hid (apart_call ot_116a Ot_5a.out)
              have Dt_116a_t_16a := Lib.hid (apart_call ot_116a Ot_16a.out)
              have Dt_116a_t_27a := Lib.hid (apart_call ot_116a Ot_27a.out)
              have Ot_116a := Lib.hid (own_lower ot_116a HBwq1.out.size)
              clear ot_116a
              have HBwt_116 := Lib.hid (Below.step HBwq1.out bt_116)
              replace Ot_5a := Lib.hid (own_below Ot_5a.out bt_116)
              replace Ot_16a := Lib.hid (own_below Ot_16a.out bt_116)
              replace Ot_27a := Lib.hid (own_below Ot_27a.out bt_116)
              clear bt_116
              replace H := bind2_hid H
              obtain ⟨t_124a, t_124b, qt_124, H⟩ := H
              go_wp2_with fail
              go_at_call 12
              refine (Go.Proofs.YtgimcnpkngpmiaaGreatDoor.GiGapBetween.C fuel (t_116a) (t_116b) At_116a ct_116a _   (Lib.hid (own_cells Ot_116a.out)) (Lib.hid (own_max Ot_116a.out)) (Lib.hid (own_room Ot_116a.out)) qt_124).mono ?_
              rintro e_t_124 wt_124 ⟨rfl, bt_124⟩
              have HBwt_124 := Lib.hid (Below.step HBwt_116.out bt_124)
              replace Ot_5a := Lib.hid (own_below Ot_5a.out bt_124)
              replace Ot_16a := Lib.hid (own_below Ot_16a.out bt_124)
              replace Ot_27a := Lib.hid (own_below Ot_27a.out bt_124)
              replace Ot_116a := Lib.hid (own_below Ot_116a.out bt_124)
              clear bt_124
              replace H := bind2_hid H
              obtain ⟨t_132a, t_132b, qt_132, H⟩ := H
              go_wp2_with fail
              go_at_call 13
              refine (Go.Proofs.YtgimcnpkngpmiaaGreatDoor.GsGapBetween.C fuel (t_116a) (t_116b) At_116a ct_116a _   (Lib.hid (own_cells Ot_116a.out)) (Lib.hid (own_max Ot_116a.out)) qt_132).mono ?_
              rintro e_t_132 wt_132 ⟨rfl, bt_132⟩
              have HBwt_132 := Lib.hid (Below.step HBwt_124.out bt_132)
              replace Ot_5a := Lib.hid (own_below Ot_5a.out bt_132)
              replace Ot_16a := Lib.hid (own_below Ot_16a.out bt_132)
              replace Ot_27a := Lib.hid (own_below Ot_27a.out bt_132)
              replace Ot_116a := Lib.hid (own_below Ot_116a.out bt_132)
              clear bt_132
              go_upto_region 20 with fail
              go_cut [156] (fun v156_ wr => ∃ (t_156q3 : Bool), v156_ = .bool t_156q3 ∧ Hid (q3 code fuel tapes false t_5a t_5b t_5c t_16a t_16b t_16c t_27a t_27b t_27c false t_116a t_116b t_124a t_124b t_132a t_132b (t_156q3) = some r) ∧ Hid (Below w.heap.size w wr) ∧ Hid (wr.ownsRow w.heap.size 34 6 (.slice At_5a t_5a.length ct_5a) t_5a.length (Go.Proofs.YtgimcnpkngpmiaaGreatDoor.PPostmark.flat t_5a)) ∧ Hid (wr.ownsRow w.heap.size 34 6 (.slice At_16a t_16a.length ct_16a) t_16a.length (Go.Proofs.YtgimcnpkngpmiaaGreatDoor.PPostmark.flat t_16a)) ∧ Hid (wr.ownsRow w.heap.size 34 6 (.slice At_27a t_27a.length ct_27a) t_27a.length (Go.Proofs.YtgimcnpkngpmiaaGreatDoor.PPostmark.flat t_27a)) ∧ Hid (wr.ownsRow w.heap.size 34 6 (.slice At_116a t_116a.length ct_116a) t_116a.length (Go.Proofs.YtgimcnpkngpmiaaGreatDoor.PPostmark.flat t_116a)))
              case first =>
                as_aux_lemma =>
                  replace H := let_hid H
                  obtain ⟨t_140, ht_140, H⟩ := H
                  replace H := join_hid H
                  cases t_140 with
                  | false =>
                    replace H := ite_f H
                    replace H := let_hid H
                    obtain ⟨t_144, ht_144, H⟩ := H
                    replace H := app_hid H
                    go_wp2_with fail
                    go_meet
                    case rel => exact ⟨_, rfl, H, HBwt_132, Ot_5a, Ot_16a, Ot_27a, Ot_116a⟩
                  | true =>
                    replace H := ite_t H
                    replace H := app_hid H
                    go_wp2_with fail
                    go_meet
                    case rel => exact ⟨_, rfl, H, HBwt_132, Ot_5a, Ot_16a, Ot_27a, Ot_116a⟩
              case rest =>
                as_aux_lemma =>
                  obtain ⟨t_156q3, rfl, H, HBwq3, Ot_5a, Ot_16a, Ot_27a, Ot_116a⟩ := hcut
                  rename World => wq3
                  unfold q3 at H
                  replace H := let_hid H
                  obtain ⟨_, rfl, H⟩ := H
                  cases t_156q3 with
                  | false =>
                    replace H := ite_f H
                    go_upto_if 157 with fail
                    go_cut [] (fun  wr => Hid (q4 code fuel tapes () = some r) ∧ Hid (Below w.heap.size w wr) ∧ Hid (wr.ownsRow w.heap.size 34 6 (.slice At_5a t_5a.length ct_5a) t_5a.length (Go.Proofs.YtgimcnpkngpmiaaGreatDoor.PPostmark.flat t_5a)) ∧ Hid (wr.ownsRow w.heap.size 34 6 (.slice At_16a t_16a.length ct_16a) t_16a.length (Go.Proofs.YtgimcnpkngpmiaaGreatDoor.PPostmark.flat t_16a)) ∧ Hid (wr.ownsRow w.heap.size 34 6 (.slice At_27a t_27a.length ct_27a) t_27a.length (Go.Proofs.YtgimcnpkngpmiaaGreatDoor.PPostmark.flat t_27a)) ∧ Hid (wr.ownsRow w.heap.size 34 6 (.slice At_116a t_116a.length ct_116a) t_116a.length (Go.Proofs.YtgimcnpkngpmiaaGreatDoor.PPostmark.flat t_116a)))
                    case first =>
                      as_aux_lemma =>
                        cases t_124b with
                        | false =>
                          replace H := ite_f H
                          go_wp2_with fail
                          go_meet
                          case rel => exact ⟨H, HBwq3, Ot_5a, Ot_16a, Ot_27a, Ot_116a⟩
                        | true =>
                          replace H := ite_t H
                          have hb_1 : t_116a.length ≤ 9223372036854775807 := own_max Ot_116a.out
                          go_wp2_with fail
                          go_loopg [23, 21, 22] (t_116a.length) (fun m_ v23_ v21_ v22_ wr => ∃ (k1 : Nat) (first_21l1 : Int) (last_22l1 : Int), k1 + m_ = t_116a.length ∧ v23_ = .int .i64 (k1 : Int) ∧ v21_ = .int .i64 first_21l1 ∧ v22_ = .int .i64 last_22l1 ∧ Hid (cntK (l1 t_116a t_116b) m_ k1 (first_21l1, last_22l1) (e1 code fuel tapes false t_5a t_5b t_5c t_16a t_16b t_16c t_27a t_27b t_27c false t_116a t_116b t_124a true t_132a t_132b false) = some r) ∧ Hid (Below w.heap.size w wr) ∧ Hid (wr.ownsRow w.heap.size 34 6 (.slice At_5a t_5a.length ct_5a) t_5a.length (Go.Proofs.YtgimcnpkngpmiaaGreatDoor.PPostmark.flat t_5a)) ∧ Hid (wr.ownsRow w.heap.size 34 6 (.slice At_16a t_16a.length ct_16a) t_16a.length (Go.Proofs.YtgimcnpkngpmiaaGreatDoor.PPostmark.flat t_16a)) ∧ Hid (wr.ownsRow w.heap.size 34 6 (.slice At_27a t_27a.length ct_27a) t_27a.length (Go.Proofs.YtgimcnpkngpmiaaGreatDoor.PPostmark.flat t_27a)) ∧ Hid (wr.ownsRow w.heap.size 34 6 (.slice At_116a t_116a.length ct_116a) t_116a.length (Go.Proofs.YtgimcnpkngpmiaaGreatDoor.PPostmark.flat t_116a)))
                          case atStart => exact ⟨0, _, _, by omega, rfl, rfl, rfl, H, HBwq3, Ot_5a, Ot_16a, Ot_27a, Ot_116a⟩
                          case round =>
                            obtain ⟨k1, first_21l1, last_22l1, hkm1, rfl, rfl, rfl, H, HBwr1, Ot_5a, Ot_16a, Ot_27a, Ot_116a⟩ := hrel
                            rename World => wr1
                            cases gk with
                            | zero =>
                              obtain rfl : k1 = t_116a.length := by omega
                              have hc1 : decide (((t_116a.length : Nat) : Int) < ((t_116a.length : Nat) : Int)) = false := by simp
                              replace H := cnt_zero H
                              unfold e1 at H
                              replace H := unp2_hid H
                              go_upto_region 31 with fail
                              go_cut [214] (fun v214_ wr => ∃ (t_214q8 : Bool), v214_ = .bool t_214q8 ∧ Hid (q8 code fuel tapes false t_5a t_5b t_5c t_16a t_16b t_16c t_27a t_27b t_27c false t_116a t_116b t_124a true t_132a t_132b false first_21l1 last_22l1 (t_214q8) = some r) ∧ Hid (Below w.heap.size w wr) ∧ Hid (wr.ownsRow w.heap.size 34 6 (.slice At_5a t_5a.length ct_5a) t_5a.length (Go.Proofs.YtgimcnpkngpmiaaGreatDoor.PPostmark.flat t_5a)) ∧ Hid (wr.ownsRow w.heap.size 34 6 (.slice At_16a t_16a.length ct_16a) t_16a.length (Go.Proofs.YtgimcnpkngpmiaaGreatDoor.PPostmark.flat t_16a)) ∧ Hid (wr.ownsRow w.heap.size 34 6 (.slice At_27a t_27a.length ct_27a) t_27a.length (Go.Proofs.YtgimcnpkngpmiaaGreatDoor.PPostmark.flat t_27a)) ∧ Hid (wr.ownsRow w.heap.size 34 6 (.slice At_116a t_116a.length ct_116a) t_116a.length (Go.Proofs.YtgimcnpkngpmiaaGreatDoor.PPostmark.flat t_116a)))
                              case first =>
                                as_aux_lemma =>
                                  replace H := let_hid H
                                  obtain ⟨t_203, ht_203, H⟩ := H
                                  replace H := join_hid H
                                  cases t_203 with
                                  | false =>
                                    replace H := ite_f H
                                    replace H := let_hid H
                                    obtain ⟨t_208, ht_208, H⟩ := H
                                    replace H := let_hid H
                                    obtain ⟨t_209, ht_209, H⟩ := H
                                    replace H := app_hid H
                                    go_wp2_with fail
                                    go_meet
                                    case rel => exact ⟨_, rfl, H, HBwr1, Ot_5a, Ot_16a, Ot_27a, Ot_116a⟩
                                  | true =>
                                    replace H := ite_t H
                                    replace H := app_hid H
                                    go_wp2_with fail
                                    go_meet
                                    case rel => exact ⟨_, rfl, H, HBwr1, Ot_5a, Ot_16a, Ot_27a, Ot_116a⟩
                              case rest =>
                                as_aux_lemma =>
                                  obtain ⟨t_214q8, rfl, H, HBwq8, Ot_5a, Ot_16a, Ot_27a, Ot_116a⟩ := hcut
                                  rename World => wq8
                                  unfold q8 at H
                                  replace H := let_hid H
                                  obtain ⟨_, rfl, H⟩ := H
                                  cases t_214q8 with
                                  | false =>
                                    replace H := ite_f H
                                    go_wp2_with fail
                                    go_meet
                                    case rel => exact ⟨H, HBwq8, Ot_5a, Ot_16a, Ot_27a, Ot_116a⟩
                                  | true =>
                                    replace H := ite_t H
                                    obtain rfl := ret_hid H
                                    go_wp2_with fail
                                    go_ret
                                    exact ⟨rfl, HBwq8.out⟩
                            | succ m1 =>
                              have hlt1 : k1 < t_116a.length := by omega
                              have hc1 : decide ((k1 : Int) < ((t_116a.length : Nat) : Int)) = true := by simp; omega
                              replace H := cnt_succ H
                              unfold l1 at H
                              replace H := unp2_hid H
                              go_upto_region 27 with fail
                              go_cut [179] (fun v179_ wr => ∃ (t_179q5 : Bool), v179_ = .bool t_179q5 ∧ Hid (q5 t_116a t_116b (fun s' => cntK (l1 t_116a t_116b) m1 (k1 + 1) s' (e1 code fuel tapes false t_5a t_5b t_5c t_16a t_16b t_16c t_27a t_27b t_27c false t_116a t_116b t_124a true t_132a t_132b false)) first_21l1 last_22l1 k1 (t_179q5) = some r) ∧ Hid (Below w.heap.size w wr) ∧ Hid (wr.ownsRow w.heap.size 34 6 (.slice At_5a t_5a.length ct_5a) t_5a.length (Go.Proofs.YtgimcnpkngpmiaaGreatDoor.PPostmark.flat t_5a)) ∧ Hid (wr.ownsRow w.heap.size 34 6 (.slice At_16a t_16a.length ct_16a) t_16a.length (Go.Proofs.YtgimcnpkngpmiaaGreatDoor.PPostmark.flat t_16a)) ∧ Hid (wr.ownsRow w.heap.size 34 6 (.slice At_27a t_27a.length ct_27a) t_27a.length (Go.Proofs.YtgimcnpkngpmiaaGreatDoor.PPostmark.flat t_27a)) ∧ Hid (wr.ownsRow w.heap.size 34 6 (.slice At_116a t_116a.length ct_116a) t_116a.length (Go.Proofs.YtgimcnpkngpmiaaGreatDoor.PPostmark.flat t_116a)))
                              case first =>
                                as_aux_lemma =>
                                  replace H := idx_hid H
                                  obtain ⟨nt_157, yt_157, et_157, lt_157, gt_157, H⟩ := H
                                  obtain rfl : k1 = nt_157 := by omega
                                  clear et_157
                                  obtain ⟨t_157_id, t_157_town, t_157_kind_, t_157_first, t_157_last, t_157_lost⟩ := yt_157
                                  replace H := unPostmark_hid H
                                  obtain ⟨qt_157, Qt_157⟩ := own_some Ot_116a.out (by omega)
                                  subst Qt_157
                                  obtain ⟨ab_t_157, ao_t_157, zt_157, At_157, z_t_157, ct_157_0, ct_157_1, ct_157_2, ct_157_3, ct_157_4, ct_157_5⟩ := Go.Proofs.YtgimcnpkngpmiaaGreatDoor.OPostmark.at_ (own_cells Ot_116a.out) (k := k1) (by omega)
                                  obtain rfl := Option.some.inj (gt_157.out.symm.trans z_t_157)
                                  simp only [Option.some.injEq, Addr.mk.injEq] at At_157
                                  obtain ⟨rfl, rfl, _⟩ := At_157
                                  clear z_t_157
                                  simp only [Nat.zero_add] at ct_157_0 ct_157_1 ct_157_2 ct_157_3 ct_157_4 ct_157_5
                                  have b0t_157 : (0 : Int) ≤ (k1 : Int) := by omega
                                  have b1t_157 : (k1 : Int) < ((t_116a.length : Nat) : Int) := by omega
                                  have b2t_157 : ((k1 : Int)).toNat = k1 := by omega
                                  replace H := let_hid H
                                  obtain ⟨t_161, ht_161, H⟩ := H
                                  replace H := join_hid H
                                  cases t_161 with
                                  | false =>
                                    replace H := ite_f H
                                    replace H := app_hid H
                                    go_wp2_with fail
                                    go_meet
                                    case rel => exact ⟨_, rfl, H, HBwr1, Ot_5a, Ot_16a, Ot_27a, Ot_116a⟩
                                  | true =>
                                    replace H := ite_t H
                                    replace H := idx_hid H
                                    obtain ⟨nt_165, yt_165, et_165, lt_165, gt_165, H⟩ := H
                                    obtain rfl : k1 = nt_165 := by omega
                                    clear et_165
                                    obtain rfl := Option.some.inj (gt_157.out.symm.trans gt_165.out)
                                    clear gt_165 lt_165
                                    replace H := unPostmark_hid H
                                    replace H := let_hid H
                                    obtain ⟨t_169, ht_169, H⟩ := H
                                    replace H := app_hid H
                                    go_wp2_with fail
                                    go_meet
                                    case rel => exact ⟨_, rfl, H, HBwr1, Ot_5a, Ot_16a, Ot_27a, Ot_116a⟩
                              case rest =>
                                as_aux_lemma =>
                                  obtain ⟨t_179q5, rfl, H, HBwq5, Ot_5a, Ot_16a, Ot_27a, Ot_116a⟩ := hcut
                                  rename World => wq5
                                  unfold q5 at H
                                  replace H := let_hid H
                                  obtain ⟨_, rfl, H⟩ := H
                                  cases t_179q5 with
                                  | false =>
                                    replace H := ite_f H
                                    unfold j6 at H
                                    go_upto_region 29 with fail
                                    go_cut [200] (fun v200_ wr => ∃ (t_200q7 : Bool), v200_ = .bool t_200q7 ∧ Hid (q7 t_116a (fun s' => cntK (l1 t_116a t_116b) m1 (k1 + 1) s' (e1 code fuel tapes false t_5a t_5b t_5c t_16a t_16b t_16c t_27a t_27b t_27c false t_116a t_116b t_124a true t_132a t_132b false)) last_22l1 k1 first_21l1 (t_200q7) = some r) ∧ Hid (Below w.heap.size w wr) ∧ Hid (wr.ownsRow w.heap.size 34 6 (.slice At_5a t_5a.length ct_5a) t_5a.length (Go.Proofs.YtgimcnpkngpmiaaGreatDoor.PPostmark.flat t_5a)) ∧ Hid (wr.ownsRow w.heap.size 34 6 (.slice At_16a t_16a.length ct_16a) t_16a.length (Go.Proofs.YtgimcnpkngpmiaaGreatDoor.PPostmark.flat t_16a)) ∧ Hid (wr.ownsRow w.heap.size 34 6 (.slice At_27a t_27a.length ct_27a) t_27a.length (Go.Proofs.YtgimcnpkngpmiaaGreatDoor.PPostmark.flat t_27a)) ∧ Hid (wr.ownsRow w.heap.size 34 6 (.slice At_116a t_116a.length ct_116a) t_116a.length (Go.Proofs.YtgimcnpkngpmiaaGreatDoor.PPostmark.flat t_116a)))
                                    case first =>
                                      as_aux_lemma =>
                                        replace H := idx_hid H
                                        obtain ⟨nt_179, yt_179, et_179, lt_179, gt_179, H⟩ := H
                                        obtain rfl : k1 = nt_179 := by omega
                                        clear et_179
                                        obtain ⟨t_179_id, t_179_town, t_179_kind_, t_179_first, t_179_last, t_179_lost⟩ := yt_179
                                        replace H := unPostmark_hid H
                                        obtain ⟨qt_179, Qt_179⟩ := own_some Ot_116a.out (by omega)
                                        subst Qt_179
                                        obtain ⟨ab_t_179, ao_t_179, zt_179, At_179, z_t_179, ct_179_0, ct_179_1, ct_179_2, ct_179_3, ct_179_4, ct_179_5⟩ := Go.Proofs.YtgimcnpkngpmiaaGreatDoor.OPostmark.at_ (own_cells Ot_116a.out) (k := k1) (by omega)
                                        obtain rfl := Option.some.inj (gt_179.out.symm.trans z_t_179)
                                        simp only [Option.some.injEq, Addr.mk.injEq] at At_179
                                        obtain ⟨rfl, rfl, _⟩ := At_179
                                        clear z_t_179
                                        simp only [Nat.zero_add] at ct_179_0 ct_179_1 ct_179_2 ct_179_3 ct_179_4 ct_179_5
                                        have b0t_179 : (0 : Int) ≤ (k1 : Int) := by omega
                                        have b1t_179 : (k1 : Int) < ((t_116a.length : Nat) : Int) := by omega
                                        have b2t_179 : ((k1 : Int)).toNat = k1 := by omega
                                        replace H := let_hid H
                                        obtain ⟨t_183, ht_183, H⟩ := H
                                        replace H := join_hid H
                                        cases t_183 with
                                        | false =>
                                          replace H := ite_f H
                                          replace H := app_hid H
                                          go_wp2_with fail
                                          go_meet
                                          case rel => exact ⟨_, rfl, H, HBwq5, Ot_5a, Ot_16a, Ot_27a, Ot_116a⟩
                                        | true =>
                                          replace H := ite_t H
                                          replace H := idx_hid H
                                          obtain ⟨nt_187, yt_187, et_187, lt_187, gt_187, H⟩ := H
                                          obtain rfl : k1 = nt_187 := by omega
                                          clear et_187
                                          obtain rfl := Option.some.inj (gt_179.out.symm.trans gt_187.out)
                                          clear gt_187 lt_187
                                          replace H := unPostmark_hid H
                                          replace H := let_hid H
                                          obtain ⟨t_191, ht_191, H⟩ := H
                                          replace H := app_hid H
                                          go_wp2_with fail
                                          go_meet
                                          case rel => exact ⟨_, rfl, H, HBwq5, Ot_5a, Ot_16a, Ot_27a, Ot_116a⟩
                                    case rest =>
                                      as_aux_lemma =>
                                        obtain ⟨t_200q7, rfl, H, HBwq7, Ot_5a, Ot_16a, Ot_27a, Ot_116a⟩ := hcut
                                        rename World => wq7
                                        unfold q7 at H
                                        replace H := let_hid H
                                        obtain ⟨_, rfl, H⟩ := H
                                        cases t_200q7 with
                                        | false =>
                                          replace H := ite_f H
                                          replace H := app_hid H
                                          go_wp2_with fail
                                          go_roundg m1
                                          case measure => omega
                                          case rel => exact ⟨k1 + 1, _, _, by omega, by go_num, rfl, rfl, H, HBwq7, Ot_5a, Ot_16a, Ot_27a, Ot_116a⟩
                                        | true =>
                                          replace H := ite_t H
                                          replace H := idx_hid H
                                          obtain ⟨nt_195, yt_195, et_195, lt_195, gt_195, H⟩ := H
                                          obtain rfl : k1 = nt_195 := by omega
                                          clear et_195
                                          obtain ⟨t_195_id, t_195_town, t_195_kind_, t_195_first, t_195_last, t_195_lost⟩ := yt_195
                                          replace H := unPostmark_hid H
                                          obtain ⟨qt_195, Qt_195⟩ := own_some Ot_116a.out (by omega)
                                          subst Qt_195
                                          obtain ⟨ab_t_195, ao_t_195, zt_195, At_195, z_t_195, ct_195_0, ct_195_1, ct_195_2, ct_195_3, ct_195_4, ct_195_5⟩ := Go.Proofs.YtgimcnpkngpmiaaGreatDoor.OPostmark.at_ (own_cells Ot_116a.out) (k := k1) (by omega)
                                          obtain rfl := Option.some.inj (gt_195.out.symm.trans z_t_195)
                                          simp only [Option.some.injEq, Addr.mk.injEq] at At_195
                                          obtain ⟨rfl, rfl, _⟩ := At_195
                                          clear z_t_195
                                          simp only [Nat.zero_add] at ct_195_0 ct_195_1 ct_195_2 ct_195_3 ct_195_4 ct_195_5
                                          have b0t_195 : (0 : Int) ≤ (k1 : Int) := by omega
                                          have b1t_195 : (k1 : Int) < ((t_116a.length : Nat) : Int) := by omega
                                          have b2t_195 : ((k1 : Int)).toNat = k1 := by omega
                                          replace H := app_hid H
                                          go_wp2_with fail
                                          go_roundg m1
                                          case measure => omega
                                          case rel => exact ⟨k1 + 1, _, _, by omega, by go_num, rfl, rfl, H, HBwq7, Ot_5a, Ot_16a, Ot_27a, Ot_116a⟩
                                  | true =>
                                    replace H := ite_t H
                                    replace H := idx_hid H
                                    obtain ⟨nt_173, yt_173, et_173, lt_173, gt_173, H⟩ := H
                                    obtain rfl : k1 = nt_173 := by omega
                                    clear et_173
                                    obtain ⟨t_173_id, t_173_town, t_173_kind_, t_173_first, t_173_last, t_173_lost⟩ := yt_173
                                    replace H := unPostmark_hid H
                                    obtain ⟨qt_173, Qt_173⟩ := own_some Ot_116a.out (by omega)
                                    subst Qt_173
                                    obtain ⟨ab_t_173, ao_t_173, zt_173, At_173, z_t_173, ct_173_0, ct_173_1, ct_173_2, ct_173_3, ct_173_4, ct_173_5⟩ := Go.Proofs.YtgimcnpkngpmiaaGreatDoor.OPostmark.at_ (own_cells Ot_116a.out) (k := k1) (by omega)
                                    obtain rfl := Option.some.inj (gt_173.out.symm.trans z_t_173)
                                    simp only [Option.some.injEq, Addr.mk.injEq] at At_173
                                    obtain ⟨rfl, rfl, _⟩ := At_173
                                    clear z_t_173
                                    simp only [Nat.zero_add] at ct_173_0 ct_173_1 ct_173_2 ct_173_3 ct_173_4 ct_173_5
                                    have b0t_173 : (0 : Int) ≤ (k1 : Int) := by omega
                                    have b1t_173 : (k1 : Int) < ((t_116a.length : Nat) : Int) := by omega
                                    have b2t_173 : ((k1 : Int)).toNat = k1 := by omega
                                    unfold j6 at H
                                    go_upto_region 29 with fail
                                    go_cut [200] (fun v200_ wr => ∃ (t_200q7 : Bool), v200_ = .bool t_200q7 ∧ Hid (q7 t_116a (fun s' => cntK (l1 t_116a t_116b) m1 (k1 + 1) s' (e1 code fuel tapes false t_5a t_5b t_5c t_16a t_16b t_16c t_27a t_27b t_27c false t_116a t_116b t_124a true t_132a t_132b false)) last_22l1 k1 t_173_first (t_200q7) = some r) ∧ Hid (Below w.heap.size w wr) ∧ Hid (wr.ownsRow w.heap.size 34 6 (.slice At_5a t_5a.length ct_5a) t_5a.length (Go.Proofs.YtgimcnpkngpmiaaGreatDoor.PPostmark.flat t_5a)) ∧ Hid (wr.ownsRow w.heap.size 34 6 (.slice At_16a t_16a.length ct_16a) t_16a.length (Go.Proofs.YtgimcnpkngpmiaaGreatDoor.PPostmark.flat t_16a)) ∧ Hid (wr.ownsRow w.heap.size 34 6 (.slice At_27a t_27a.length ct_27a) t_27a.length (Go.Proofs.YtgimcnpkngpmiaaGreatDoor.PPostmark.flat t_27a)) ∧ Hid (wr.ownsRow w.heap.size 34 6 (.slice (some ⟨qt_173, 0, none⟩) t_116a.length ct_116a) t_116a.length (Go.Proofs.YtgimcnpkngpmiaaGreatDoor.PPostmark.flat t_116a)))
                                    case first =>
                                      as_aux_lemma =>
                                        replace H := idx_hid H
                                        obtain ⟨nt_179, yt_179, et_179, lt_179, gt_179, H⟩ := H
                                        obtain rfl : k1 = nt_179 := by omega
                                        clear et_179
                                        obtain rfl := Option.some.inj (gt_173.out.symm.trans gt_179.out)
                                        clear gt_179 lt_179
                                        replace H := unPostmark_hid H
                                        replace H := let_hid H
                                        obtain ⟨t_183, ht_183, H⟩ := H
                                        replace H := join_hid H
                                        cases t_183 with
                                        | false =>
                                          replace H := ite_f H
                                          replace H := app_hid H
                                          go_wp2_with fail
                                          go_meet
                                          case rel => exact ⟨_, rfl, H, HBwq5, Ot_5a, Ot_16a, Ot_27a, Ot_116a⟩
                                        | true =>
                                          replace H := ite_t H
                                          replace H := idx_hid H
                                          obtain ⟨nt_187, yt_187, et_187, lt_187, gt_187, H⟩ := H
                                          obtain rfl : k1 = nt_187 := by omega
                                          clear et_187
                                          obtain rfl := Option.some.inj (gt_173.out.symm.trans gt_187.out)
                                          clear gt_187 lt_187
                                          replace H := unPostmark_hid H
                                          replace H := let_hid H
                                          obtain ⟨t_191, ht_191, H⟩ := H
                                          replace H := app_hid H
                                          go_wp2_with fail
                                          go_meet
                                          case rel => exact ⟨_, rfl, H, HBwq5, Ot_5a, Ot_16a, Ot_27a, Ot_116a⟩
                                    case rest =>
                                      as_aux_lemma =>
                                        obtain ⟨t_200q7, rfl, H, HBwq7, Ot_5a, Ot_16a, Ot_27a, Ot_116a⟩ := hcut
                                        rename World => wq7
                                        unfold q7 at H
                                        replace H := let_hid H
                                        obtain ⟨_, rfl, H⟩ := H
                                        cases t_200q7 with
                                        | false =>
                                          replace H := ite_f H
                                          replace H := app_hid H
                                          go_wp2_with fail
                                          go_roundg m1
                                          case measure => omega
                                          case rel => exact ⟨k1 + 1, _, _, by omega, by go_num, rfl, rfl, H, HBwq7, Ot_5a, Ot_16a, Ot_27a, Ot_116a⟩
                                        | true =>
                                          replace H := ite_t H
                                          replace H := idx_hid H
                                          obtain ⟨nt_195, yt_195, et_195, lt_195, gt_195, H⟩ := H
                                          obtain rfl : k1 = nt_195 := by omega
                                          clear et_195
                                          obtain ⟨t_195_id, t_195_town, t_195_kind_, t_195_first, t_195_last, t_195_lost⟩ := yt_195
                                          replace H := unPostmark_hid H
                                          obtain ⟨ab_t_195, ao_t_195, zt_195, At_195, z_t_195, ct_195_0, ct_195_1, ct_195_2, ct_195_3, ct_195_4, ct_195_5⟩ := Go.Proofs.YtgimcnpkngpmiaaGreatDoor.OPostmark.at_ (own_cells Ot_116a.out) (k := k1) (by omega)
                                          obtain rfl := Option.some.inj (gt_195.out.symm.trans z_t_195)
                                          simp only [Option.some.injEq, Addr.mk.injEq] at At_195
                                          obtain ⟨rfl, rfl, _⟩ := At_195
                                          clear z_t_195
                                          simp only [Nat.zero_add] at ct_195_0 ct_195_1 ct_195_2 ct_195_3 ct_195_4 ct_195_5
                                          have b0t_195 : (0 : Int) ≤ (k1 : Int) := by omega
                                          have b1t_195 : (k1 : Int) < ((t_116a.length : Nat) : Int) := by omega
                                          have b2t_195 : ((k1 : Int)).toNat = k1 := by omega
                                          replace H := app_hid H
                                          go_wp2_with fail
                                          go_roundg m1
                                          case measure => omega
                                          case rel => exact ⟨k1 + 1, _, _, by omega, by go_num, rfl, rfl, H, HBwq7, Ot_5a, Ot_16a, Ot_27a, Ot_116a⟩
                    case rest =>
                      as_aux_lemma =>
                        obtain ⟨H, HBwq4, Ot_5a, Ot_16a, Ot_27a, Ot_116a⟩ := hcut
                        rename World => wq4
                        unfold q4 at H
                        replace H := bind2_hid H
                        obtain ⟨t_213a, t_213b, qt_213, H⟩ := H
                        go_wp2_with fail
                        go_at_call 14
                        refine (Go.Proofs.YtgimcnpkngpmiaaGreatDoor.GsDrawTownsOn.C fuel tapes (code) A0 c0 _  HE (Lib.hid (Cells.below M0.out HBwq4.out)) N0 V0 qt_213).mono ?_
                        rintro e_t_213 wt_213 ⟨At_213a, ct_213a, rfl, ot_213a, bt_213⟩
                        have Dt_213a_t_5a := Lib.hid (apart_call ot_213a Ot_5a.out)
                        have Dt_213a_t_16a := Lib.hid (apart_call ot_213a Ot_16a.out)
                        have Dt_213a_t_27a := Lib.hid (apart_call ot_213a Ot_27a.out)
                        have Dt_213a_t_116a := Lib.hid (apart_call ot_213a Ot_116a.out)
                        have Ot_213a := Lib.hid (own_lower ot_213a HBwq4.out.size)
                        clear ot_213a
                        have HBwt_213 := Lib.hid (Below.step HBwq4.out bt_213)
                        replace Ot_5a := Lib.hid (own_below Ot_5a.out bt_213)
                        replace Ot_16a := Lib.hid (own_below Ot_16a.out bt_213)
                        replace Ot_27a := Lib.hid (own_below Ot_27a.out bt_213)
                        replace Ot_116a := Lib.hid (own_below Ot_116a.out bt_213)
                        clear bt_213
                        replace H := bind2_hid H
                        obtain ⟨t_221a, t_221b, qt_221, H⟩ := H
                        go_wp2_with fail
                        go_at_call 9
                        refine (Go.Proofs.YtgimcnpkngpmiaaGreatDoor.GiTownsOn.C (t_213a) (t_213b) At_213a ct_213a _   (Lib.hid (own_cells Ot_213a.out)) (Lib.hid (own_max Ot_213a.out)) qt_221).mono ?_
                        rintro e_t_221 wt_221 ⟨At_221a, ct_221a, rfl, ot_221a, bt_221⟩
                        have Dt_221a_t_5a := Lib.hid (apart_call ot_221a Ot_5a.out)
                        have Dt_221a_t_16a := Lib.hid (apart_call ot_221a Ot_16a.out)
                        have Dt_221a_t_27a := Lib.hid (apart_call ot_221a Ot_27a.out)
                        have Dt_221a_t_116a := Lib.hid (apart_call ot_221a Ot_116a.out)
                        have Dt_221a_t_213a := Lib.hid (apart_call ot_221a Ot_213a.out)
                        have Ot_221a := Lib.hid (own_lower ot_221a HBwt_213.out.size)
                        clear ot_221a
                        have HBwt_221 := Lib.hid (Below.step HBwt_213.out bt_221)
                        replace Ot_5a := Lib.hid (own_below Ot_5a.out bt_221)
                        replace Ot_16a := Lib.hid (own_below Ot_16a.out bt_221)
                        replace Ot_27a := Lib.hid (own_below Ot_27a.out bt_221)
                        replace Ot_116a := Lib.hid (own_below Ot_116a.out bt_221)
                        replace Ot_213a := Lib.hid (own_below Ot_213a.out bt_221)
                        clear bt_221
                        replace H := bind2_hid H
                        obtain ⟨t_229a, t_229b, qt_229, H⟩ := H
                        go_wp2_with fail
                        go_at_call 15
                        refine (Go.Proofs.YtgimcnpkngpmiaaGreatDoor.GsTownsOn.C fuel (t_213a) (t_213b) At_213a ct_213a _   (Lib.hid (own_cells Ot_213a.out)) (Lib.hid (own_max Ot_213a.out)) qt_229).mono ?_
                        rintro e_t_229 wt_229 ⟨At_229a, ct_229a, rfl, ot_229a, bt_229⟩
                        have Dt_229a_t_5a := Lib.hid (apart_call ot_229a Ot_5a.out)
                        have Dt_229a_t_16a := Lib.hid (apart_call ot_229a Ot_16a.out)
                        have Dt_229a_t_27a := Lib.hid (apart_call ot_229a Ot_27a.out)
                        have Dt_229a_t_116a := Lib.hid (apart_call ot_229a Ot_116a.out)
                        have Dt_229a_t_213a := Lib.hid (apart_call ot_229a Ot_213a.out)
                        have Dt_229a_t_221a := Lib.hid (apart_call ot_229a Ot_221a.out)
                        have Ot_229a := Lib.hid (own_lower ot_229a HBwt_221.out.size)
                        clear ot_229a
                        have HBwt_229 := Lib.hid (Below.step HBwt_221.out bt_229)
                        replace Ot_5a := Lib.hid (own_below Ot_5a.out bt_229)
                        replace Ot_16a := Lib.hid (own_below Ot_16a.out bt_229)
                        replace Ot_27a := Lib.hid (own_below Ot_27a.out bt_229)
                        replace Ot_116a := Lib.hid (own_below Ot_116a.out bt_229)
                        replace Ot_213a := Lib.hid (own_below Ot_213a.out bt_229)
                        replace Ot_221a := Lib.hid (own_below Ot_221a.out bt_229)
                        clear bt_229
                        replace H := bind_hid H
                        obtain ⟨t_236, qt_236, H⟩ := H
                        obtain ⟨t_236_id, t_236_town, t_236_kind_, t_236_first, t_236_last, t_236_lost⟩ := t_236
                        replace H := unPostmark_hid H
                        go_wp2_with fail
                        go_at_call 16
                        refine (Go.Proofs.YtgimcnpkngpmiaaGreatDoor.GsDrawPostmarkText.C fuel tapes (code) A0 c0 _  HE (Lib.hid (Cells.below M0.out HBwt_229.out)) N0 V0 qt_236).mono ?_
                        rintro e_t_236 wt_236 ⟨rfl, bt_236⟩
                        unfold Go.Proofs.YtgimcnpkngpmiaaGreatDoor.PPostmark.Postmark.val
                        have HBwt_236 := Lib.hid (Below.step HBwt_229.out bt_236)
                        replace Ot_5a := Lib.hid (own_below Ot_5a.out bt_236)
                        replace Ot_16a := Lib.hid (own_below Ot_16a.out bt_236)
                        replace Ot_27a := Lib.hid (own_below Ot_27a.out bt_236)
                        replace Ot_116a := Lib.hid (own_below Ot_116a.out bt_236)
                        replace Ot_213a := Lib.hid (own_below Ot_213a.out bt_236)
                        replace Ot_221a := Lib.hid (own_below Ot_221a.out bt_236)
                        replace Ot_229a := Lib.hid (own_below Ot_229a.out bt_236)
                        clear bt_236
                        obtain ⟨w_p_237, hw_p_237⟩ : ∃ x, wt_236.alloc (.cells #[.int .i64 t_236_id, .string t_236_town, .int .i64 t_236_kind_, .int .i64 t_236_first, .int .i64 t_236_last, .string t_236_lost] 34) = x := ⟨_, rfl⟩
                        have bw_p_237 : Below wt_236.heap.size wt_236 w_p_237 := by rw [← hw_p_237]; exact (Below.refl _ _).alloc (Nat.le_refl _) _
                        have Dp_237_t_5a := Lib.hid (apart_fresh Ot_5a.out)
                        have Dp_237_t_16a := Lib.hid (apart_fresh Ot_16a.out)
                        have Dp_237_t_27a := Lib.hid (apart_fresh Ot_27a.out)
                        have Dp_237_t_116a := Lib.hid (apart_fresh Ot_116a.out)
                        have Dp_237_t_213a := Lib.hid (apart_fresh Ot_213a.out)
                        have Dp_237_t_221a := Lib.hid (apart_fresh Ot_221a.out)
                        have Dp_237_t_229a := Lib.hid (apart_fresh Ot_229a.out)
                        have HBw_p_237 := Lib.hid (Below.step HBwt_236.out bw_p_237)
                        replace Ot_5a := Lib.hid (own_below Ot_5a.out bw_p_237)
                        replace Ot_16a := Lib.hid (own_below Ot_16a.out bw_p_237)
                        replace Ot_27a := Lib.hid (own_below Ot_27a.out bw_p_237)
                        replace Ot_116a := Lib.hid (own_below Ot_116a.out bw_p_237)
                        replace Ot_213a := Lib.hid (own_below Ot_213a.out bw_p_237)
                        replace Ot_221a := Lib.hid (own_below Ot_221a.out bw_p_237)
                        replace Ot_229a := Lib.hid (own_below Ot_229a.out bw_p_237)
                        clear bw_p_237
                        have kp_237_0 : w_p_237.cell? ⟨wt_236.heap.size, 0, none⟩ = some (.int .i64 t_236_id) := by rw [← hw_p_237]; exact box_new _ _ _ 0 _ rfl
                        have kp_237_1 : w_p_237.cell? ⟨wt_236.heap.size, 1, none⟩ = some (.string t_236_town) := by rw [← hw_p_237]; exact box_new _ _ _ 1 _ rfl
                        have kp_237_2 : w_p_237.cell? ⟨wt_236.heap.size, 2, none⟩ = some (.int .i64 t_236_kind_) := by rw [← hw_p_237]; exact box_new _ _ _ 2 _ rfl
                        have kp_237_3 : w_p_237.cell? ⟨wt_236.heap.size, 3, none⟩ = some (.int .i64 t_236_first) := by rw [← hw_p_237]; exact box_new _ _ _ 3 _ rfl
                        have kp_237_4 : w_p_237.cell? ⟨wt_236.heap.size, 4, none⟩ = some (.int .i64 t_236_last) := by rw [← hw_p_237]; exact box_new _ _ _ 4 _ rfl
                        have kp_237_5 : w_p_237.cell? ⟨wt_236.heap.size, 5, none⟩ = some (.string t_236_lost) := by rw [← hw_p_237]; exact box_new _ _ _ 5 _ rfl
                        replace H := bind2_hid H
                        obtain ⟨t_240a, t_240b, qt_240, H⟩ := H
                        go_wp2_with fail
                        go_at_call 17
                        refine (Go.Proofs.YtgimcnpkngpmiaaGreatDoor.GiPostmarkText.C ((Go.Proofs.YtgimcnpkngpmiaaGreatDoor.PPostmark.Postmark.mk t_236_id t_236_town t_236_kind_ t_236_first t_236_last t_236_lost))  _ (tab_below HBw_p_237.out HT)   qt_240).mono ?_
                        rintro e_t_240 wt_240 ⟨rfl, bt_240⟩
                        have HBwt_240 := Lib.hid (Below.step HBw_p_237.out bt_240)
                        replace kp_237_0 := cell_below bt_240 kp_237_0
                        replace kp_237_1 := cell_below bt_240 kp_237_1
                        replace kp_237_2 := cell_below bt_240 kp_237_2
                        replace kp_237_3 := cell_below bt_240 kp_237_3
                        replace kp_237_4 := cell_below bt_240 kp_237_4
                        replace kp_237_5 := cell_below bt_240 kp_237_5
                        replace Ot_5a := Lib.hid (own_below Ot_5a.out bt_240)
                        replace Ot_16a := Lib.hid (own_below Ot_16a.out bt_240)
                        replace Ot_27a := Lib.hid (own_below Ot_27a.out bt_240)
                        replace Ot_116a := Lib.hid (own_below Ot_116a.out bt_240)
                        replace Ot_213a := Lib.hid (own_below Ot_213a.out bt_240)
                        replace Ot_221a := Lib.hid (own_below Ot_221a.out bt_240)
                        replace Ot_229a := Lib.hid (own_below Ot_229a.out bt_240)
                        clear bt_240
                        replace H := bind2_hid H
                        obtain ⟨t_247a, t_247b, qt_247, H⟩ := H
                        go_wp2_with fail
                        go_at_call 18
                        refine (Go.Proofs.YtgimcnpkngpmiaaGreatDoor.GsPostmarkText.C fuel ((Go.Proofs.YtgimcnpkngpmiaaGreatDoor.PPostmark.Postmark.mk t_236_id t_236_town t_236_kind_ t_236_first t_236_last t_236_lost))  _    qt_247).mono ?_
                        rintro e_t_247 wt_247 ⟨rfl, bt_247⟩
                        have HBwt_247 := Lib.hid (Below.step HBwt_240.out bt_247)
                        replace kp_237_0 := cell_below bt_247 kp_237_0
                        replace kp_237_1 := cell_below bt_247 kp_237_1
                        replace kp_237_2 := cell_below bt_247 kp_237_2
                        replace kp_237_3 := cell_below bt_247 kp_237_3
                        replace kp_237_4 := cell_below bt_247 kp_237_4
                        replace kp_237_5 := cell_below bt_247 kp_237_5
                        replace Ot_5a := Lib.hid (own_below Ot_5a.out bt_247)
                        replace Ot_16a := Lib.hid (own_below Ot_16a.out bt_247)
                        replace Ot_27a := Lib.hid (own_below Ot_27a.out bt_247)
                        replace Ot_116a := Lib.hid (own_below Ot_116a.out bt_247)
                        replace Ot_213a := Lib.hid (own_below Ot_213a.out bt_247)
                        replace Ot_221a := Lib.hid (own_below Ot_221a.out bt_247)
                        replace Ot_229a := Lib.hid (own_below Ot_229a.out bt_247)
                        clear bt_247
                        go_upto_region 39 with fail
                        go_cut [2] (fun v2_ wr => ∃ (t_2q9 : Bool), v2_ = .bool t_2q9 ∧ Hid (q9  (t_2q9) = some r) ∧ Hid (Below w.heap.size w wr) ∧ wr.cell? ⟨wt_236.heap.size, 0, none⟩ = some (.int .i64 t_236_id) ∧ wr.cell? ⟨wt_236.heap.size, 1, none⟩ = some (.string t_236_town) ∧ wr.cell? ⟨wt_236.heap.size, 2, none⟩ = some (.int .i64 t_236_kind_) ∧ wr.cell? ⟨wt_236.heap.size, 3, none⟩ = some (.int .i64 t_236_first) ∧ wr.cell? ⟨wt_236.heap.size, 4, none⟩ = some (.int .i64 t_236_last) ∧ wr.cell? ⟨wt_236.heap.size, 5, none⟩ = some (.string t_236_lost) ∧ Hid (wr.ownsRow w.heap.size 34 6 (.slice At_5a t_5a.length ct_5a) t_5a.length (Go.Proofs.YtgimcnpkngpmiaaGreatDoor.PPostmark.flat t_5a)) ∧ Hid (wr.ownsRow w.heap.size 34 6 (.slice At_16a t_16a.length ct_16a) t_16a.length (Go.Proofs.YtgimcnpkngpmiaaGreatDoor.PPostmark.flat t_16a)) ∧ Hid (wr.ownsRow w.heap.size 34 6 (.slice At_27a t_27a.length ct_27a) t_27a.length (Go.Proofs.YtgimcnpkngpmiaaGreatDoor.PPostmark.flat t_27a)) ∧ Hid (wr.ownsRow w.heap.size 34 6 (.slice At_116a t_116a.length ct_116a) t_116a.length (Go.Proofs.YtgimcnpkngpmiaaGreatDoor.PPostmark.flat t_116a)) ∧ Hid (wr.ownsRow w.heap.size 34 6 (.slice At_213a t_213a.length ct_213a) t_213a.length (Go.Proofs.YtgimcnpkngpmiaaGreatDoor.PPostmark.flat t_213a)) ∧ Hid (wr.ownsRow w.heap.size 9 1 (.slice At_221a t_221a.length ct_221a) t_221a.length (t_221a.map Value.string)) ∧ Hid (wr.ownsRow w.heap.size 9 1 (.slice At_229a t_229a.length ct_229a) t_229a.length (t_229a.map Value.string)))
                        case first =>
                          as_aux_lemma =>
                            replace H := let_hid H
                            obtain ⟨t_255, ht_255, H⟩ := H
                            replace H := join_hid H
                            cases t_255 with
                            | false =>
                              replace H := ite_f H
                              replace H := app_hid H
                              replace H := join_hid H
                              replace H := ite_f H
                              replace H := app_hid H
                              replace H := join_hid H
                              replace H := ite_f H
                              replace H := app_hid H
                              go_wp2_with fail
                              go_meet
                              case rel => exact ⟨_, rfl, H, HBwt_247, kp_237_0, kp_237_1, kp_237_2, kp_237_3, kp_237_4, kp_237_5, Ot_5a, Ot_16a, Ot_27a, Ot_116a, Ot_213a, Ot_221a, Ot_229a⟩
                            | true =>
                              replace H := ite_t H
                              replace H := bind_hid H
                              obtain ⟨t_259, qt_259, H⟩ := H
                              go_wp2_with fail
                              go_at_call 19
                              refine (Go.Proofs.YtgimcnpkngpmiaaGreatDoor.GlRTexts.C (t_221a) (t_229a) At_221a ct_221a At_229a ct_229a _   (Lib.hid (own_cells Ot_221a.out)) (Lib.hid (own_max Ot_221a.out)) (Lib.hid (own_cells Ot_229a.out)) (Lib.hid (own_max Ot_229a.out)) qt_259).mono ?_
                              rintro e_t_259 wt_259 ⟨rfl, bt_259⟩
                              have HBwt_259 := Lib.hid (Below.step HBwt_247.out bt_259)
                              replace kp_237_0 := cell_below bt_259 kp_237_0
                              replace kp_237_1 := cell_below bt_259 kp_237_1
                              replace kp_237_2 := cell_below bt_259 kp_237_2
                              replace kp_237_3 := cell_below bt_259 kp_237_3
                              replace kp_237_4 := cell_below bt_259 kp_237_4
                              replace kp_237_5 := cell_below bt_259 kp_237_5
                              replace Ot_5a := Lib.hid (own_below Ot_5a.out bt_259)
                              replace Ot_16a := Lib.hid (own_below Ot_16a.out bt_259)
                              replace Ot_27a := Lib.hid (own_below Ot_27a.out bt_259)
                              replace Ot_116a := Lib.hid (own_below Ot_116a.out bt_259)
                              replace Ot_213a := Lib.hid (own_below Ot_213a.out bt_259)
                              replace Ot_221a := Lib.hid (own_below Ot_221a.out bt_259)
                              replace Ot_229a := Lib.hid (own_below Ot_229a.out bt_259)
                              clear bt_259
                              replace H := app_hid H
                              replace H := join_hid H
                              cases t_259 with
                              | false =>
                                replace H := ite_f H
                                replace H := app_hid H
                                replace H := join_hid H
                                replace H := ite_f H
                                replace H := app_hid H
                                go_wp2_with fail
                                go_meet
                                case rel => exact ⟨_, rfl, H, HBwt_259, kp_237_0, kp_237_1, kp_237_2, kp_237_3, kp_237_4, kp_237_5, Ot_5a, Ot_16a, Ot_27a, Ot_116a, Ot_213a, Ot_221a, Ot_229a⟩
                              | true =>
                                replace H := ite_t H
                                replace H := let_hid H
                                obtain ⟨t_264, ht_264, H⟩ := H
                                replace H := app_hid H
                                replace H := join_hid H
                                cases t_264 with
                                | false =>
                                  replace H := ite_f H
                                  replace H := app_hid H
                                  go_wp2_with fail
                                  go_meet
                                  case rel => exact ⟨_, rfl, H, HBwt_259, kp_237_0, kp_237_1, kp_237_2, kp_237_3, kp_237_4, kp_237_5, Ot_5a, Ot_16a, Ot_27a, Ot_116a, Ot_213a, Ot_221a, Ot_229a⟩
                                | true =>
                                  replace H := ite_t H
                                  replace H := let_hid H
                                  obtain ⟨t_269, ht_269, H⟩ := H
                                  replace H := app_hid H
                                  go_wp2_with fail
                                  go_meet
                                  case rel => exact ⟨_, rfl, H, HBwt_259, kp_237_0, kp_237_1, kp_237_2, kp_237_3, kp_237_4, kp_237_5, Ot_5a, Ot_16a, Ot_27a, Ot_116a, Ot_213a, Ot_221a, Ot_229a⟩
                        case rest =>
                          as_aux_lemma =>
                            obtain ⟨t_2q9, rfl, H, HBwq9, kp_237_0, kp_237_1, kp_237_2, kp_237_3, kp_237_4, kp_237_5, Ot_5a, Ot_16a, Ot_27a, Ot_116a, Ot_213a, Ot_221a, Ot_229a⟩ := hcut
                            rename World => wq9
                            unfold q9 at H
                            replace H := let_hid H
                            obtain ⟨_, rfl, H⟩ := H
                            obtain rfl := ret_hid H
                            go_wp2_with fail
                            go_ret
                            exact ⟨rfl, HBwq9.out⟩
                  | true =>
                    replace H := ite_t H
                    obtain rfl := ret_hid H
                    go_wp2_with fail
                    go_ret
                    exact ⟨rfl, HBwq3.out⟩
        | true =>
          replace H := ite_t H
          obtain rfl := ret_hid H
          go_wp2_with fail
          go_ret
          exact ⟨rfl, HBwq0.out⟩
  | true =>
    replace H := ite_t H
    obtain rfl := ret_hid H
    go_wp2_with fail
    go_ret
    exact ⟨rfl, HBwt_2.out⟩
end Go.Proofs.YtgimcnpkngpmiaaGreatDoor.GlFnUses

/- What the rows' lists of the library's tables give: the table of powers of ten holds what Itoa reads. Condition: the row's list is met. -/
namespace Go.Proofs.YtgimcnpkngpmiaaGreatDoor.DoorLaid

theorem gPow : Tryz.prog.globalNamed "internal/strconv.uint64pow10" = some 1 := by kernel_rfl
def keepPow (x : String × DataW Unit) : Bool := x.1 == "internal/strconv.uint64pow10"
theorem gPowType : (Tryz.prog.globals[1]?).map (·.type) = some 122 := by kernel_rfl
theorem cellsPow : Tryz.prog.cellsOf 122 = 20 := by kernel_rfl
theorem cellsU64 : Tryz.prog.cellsOf 47 = 1 := by kernel_rfl

/-- Of whatever list holds the table at its own datum: the table is there. -/
theorem pow10 {l : List (String × DataW Unit)} {W : World} (h : laidMetH Tryz.prog l W) (hl : l.filter keepPow = [("internal/strconv.uint64pow10", Lib.tabData .u64 Lib.pow10Tab)]) :
    Lib.TabIs Tryz.prog W "internal/strconv.uint64pow10" .u64 Lib.pow10Tab := by
  have h1 := laidMetH.filter keepPow h
  rw [hl] at h1
  exact Lib.tabIs_of_head (rest := []) gPow gPowType Tryz.underlying122 Tryz.underlying47 cellsU64 cellsPow h1
end Go.Proofs.YtgimcnpkngpmiaaGreatDoor.DoorLaid

/- Plain words on stamps: what a stamp is, when one is valid, when a list of them is; the cells of a list of records. No condition. -/
namespace Go.Proofs.YtgimcnpkngpmiaaGreatDoor.PlainStamp
set_option linter.unusedVariables false

/-- a number lies in a..b -/
def inB (x a b : Int) : Bool := decide (a ≤ x ∧ x ≤ b)
theorem inB_of {x a b : Int} (h : inB x a b = true) : a ≤ x ∧ x ≤ b := by unfold inB at h; exact of_decide_eq_true h
structure St where
  id : Int
  face : Int
  color : Int
  year : Int
deriving DecidableEq

def St.cells (s : St) : List Value := [.int .i64 s.id, .int .i64 s.face, .int .i64 s.color, .int .i64 s.year]
def St.val (s : St) : Value := .agg #[.int .i64 s.id, .int .i64 s.face, .int .i64 s.color, .int .i64 s.year]
/-- each field fits an int -/
def St.fits (s : St) : Prop := (Lit.int .i64 s.id).wf = true ∧ (Lit.int .i64 s.face).wf = true ∧ (Lit.int .i64 s.color).wf = true ∧ (Lit.int .i64 s.year).wf = true

def okSt (s : St) : Bool := inB s.id 1 999 && inB s.face 0 9999 && inB s.color 0 99 && inB s.year 1840 2100
/-- the stamp at k is valid, and its id is above the one ahead of it -/
def okAt (l : List St) (k : Nat) : Bool :=
  match l[k]? with
  | none => true
  | some s => okSt s && (decide (k = 0) || (match l[k-1]? with | none => true | some r => decide (r.id < s.id)))
def okUp (l : List St) (k : Nat) : Bool := (List.range k).all (okAt l)
/-- a list of at most twelve valid stamps with rising ids -/
def okSts (l : List St) : Bool := decide (l.length ≤ 12) && okUp l l.length
/-- the cells of a list of stamps, one after the other -/
def flat (l : List St) : List Value := l.flatMap St.cells
theorem flat_nil : flat [] = [] := rfl
theorem flat_cons (s : St) (l : List St) : flat (s :: l) = s.cells ++ flat l := by simp [flat]
theorem flat_len (l : List St) : (flat l).length = l.length * 4 := by
  induction l with
  | nil => rfl
  | cons s l ih => rw [flat_cons, List.length_append, ih]; simp [St.cells]; omega
theorem flat_at : ∀ (l : List St) (k : Nat) (s : St), l[k]? = some s → ∀ j, j < 4 → (flat l)[k * 4 + j]? = s.cells[j]?
  | [], k, s, h, _, _ => by simp at h
  | r :: l, 0, s, h, j, hj => by
    obtain rfl : r = s := by simpa using h
    rw [flat_cons, List.getElem?_append_left (by simp [St.cells]; omega)]; simp
  | r :: l, k + 1, s, h, j, hj => by
    rw [flat_cons, List.getElem?_append_right (by simp [St.cells]; omega), show (k + 1) * 4 + j - r.cells.length = k * 4 + j by simp [St.cells]; omega]
    exact flat_at l k s (by simpa using h) j hj
end Go.Proofs.YtgimcnpkngpmiaaGreatDoor.PlainStamp

/- Words for reckoning with plain functions; within and l1In. No condition. -/
namespace Go.Proofs.YtgimcnpkngpmiaaGreatDoor.QBase
set_option linter.unusedVariables false
set_option linter.unusedSimpArgs false
open Go.RowKit
open Go.Proofs.YtgimcnpkngpmiaaGreatDoor.GoP Go.Proofs.YtgimcnpkngpmiaaGreatDoor.PlainStamp

theorem iteK_if {ρ : Type} (c : Bool) (a b : Option ρ) : iteK c a b = if c = true then a else b := by cases c <;> rfl
theorem bind2_some {α β ρ : Type} (a : α) (b : β) (f : α → β → Option ρ) : bind2 (some (a, b)) f = f a b := rfl
theorem bind3_some {α β γ ρ : Type} (a : α) (b : β) (c : γ) (f : α → β → γ → Option ρ) : bind3 (some (a, b, c)) f = f a b c := rfl
theorem guardK_pos {ρ : Type} {p : Prop} [Decidable p] {a : Option ρ} (h : p) : guardK p a = a := if_pos h
theorem within_eq (n a b : Int) : GiWithin.P n a b = some (inB n a b) := by
  simp only [GiWithin.P, letK, joinK, appK, iteK_if, inB]
  by_cases h1 : a ≤ n <;> by_cases h2 : n ≤ b <;> simp [h1, h2]
theorem l1In_eq (n a b : Int) : GsL1In.P n a b = some (inB n a b) := by
  simp only [GsL1In.P, letK, joinK, appK, iteK_if, inB]
  by_cases h1 : a ≤ n <;> by_cases h2 : n ≤ b <;> simp [h1, h2]
end Go.Proofs.YtgimcnpkngpmiaaGreatDoor.QBase

