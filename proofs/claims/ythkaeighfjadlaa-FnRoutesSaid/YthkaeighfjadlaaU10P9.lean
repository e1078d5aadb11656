/- Texts on which the proofs of several laws stand, one behind the other (9 of 11). No condition of their own. -/
import Derived.Test.YthkaeighfjadlaaChecked
import Derived.Test.YthkaeighfjadlaaU10P1
import Derived.Test.YthkaeighfjadlaaU10P4
import Derived.Test.YthkaeighfjadlaaU10P6
import Derived.Test.YthkaeighfjadlaaU10P7
import Derived.Test.YthkaeighfjadlaaU10P5
import Derived.Test.YthkaeighfjadlaaU10P8
import Derived.WalkKit
import Derived.WalkSpells
import Derived.WalkLawsBesides
import Derived.BigQuiet
import Derived.OwnWalk
import Derived.Deep.LoopGhost
import Derived.Deep.QuietTactic
import Derived.IntWalk
import Derived.Lib.QuietBelow
import Derived.Deep.DeepCutAuto
import Derived.Test.YthkaeighfjadlaaU10P2
/- loop.example/g01062/laws.FnRoutes as a plain function, and the contract of the program's: where the plain one has an answer, the program has it. Conditions: slices read as lists. -/
namespace Go.Proofs.Ythkaeighfjadlaa.GlFnRoutes
set_option linter.unusedVariables false
set_option linter.unusedSimpArgs false
open Go.RowKit
open Go.Proofs.Ythkaeighfjadlaa.Rowed Go.Proofs.Ythkaeighfjadlaa.Turn Go.Proofs.Ythkaeighfjadlaa.Aid Go.Proofs.Ythkaeighfjadlaa.GoP Go.Proofs.Ythkaeighfjadlaa.GoM

def j7  (s : Unit) : Option (Bool) :=
  some true

def q8 (code : (List Int)) (fuel : Nat) (tapes : List Int → Go.Proofs.Ythkaeighfjadlaa.GoC.Tape) (t_2 : Bool) (t_5a : (List Go.Proofs.Ythkaeighfjadlaa.PMail.Mail)) (t_5b : Int) (t_5c : Int) (t_5d : Int) (t_19a : (List Int)) (t_19b : Bool) (t_29a : (List Int)) (t_29b : Bool) (t_82q0 : Bool) (t_56a : Int) (t_56b : Bool) (t_66a : Int) (t_66b : Bool) (t_111q1 : Bool) (t_155a : (List Go.Proofs.Ythkaeighfjadlaa.PMail.Mail)) (t_155b : Int) (t_155c : Int) (t_155d : (List Int)) (t_169a : Bool) (t_169b : Bool) (t_179a : Bool) (t_179b : Bool) (t_201q5 : Bool) (t_198a : Int) (t_198b : Int) (t_198c : Bool) (t_210a : Int) (t_210b : Int) (t_210c : Bool) (t_239q6 : Bool) (t_244a : Int) (t_244b : Bool) (t_254a : Int) (t_254b : Bool) (t_264a : Int) (t_264b : Bool) (s : Bool) : Option (Bool) :=
  letK s fun t_296q8 =>
  iteK t_296q8
  (some false)
  (j7  ())

def q6 (code : (List Int)) (fuel : Nat) (tapes : List Int → Go.Proofs.Ythkaeighfjadlaa.GoC.Tape) (t_2 : Bool) (t_5a : (List Go.Proofs.Ythkaeighfjadlaa.PMail.Mail)) (t_5b : Int) (t_5c : Int) (t_5d : Int) (t_19a : (List Int)) (t_19b : Bool) (t_29a : (List Int)) (t_29b : Bool) (t_82q0 : Bool) (t_56a : Int) (t_56b : Bool) (t_66a : Int) (t_66b : Bool) (t_111q1 : Bool) (t_155a : (List Go.Proofs.Ythkaeighfjadlaa.PMail.Mail)) (t_155b : Int) (t_155c : Int) (t_155d : (List Int)) (t_169a : Bool) (t_169b : Bool) (t_179a : Bool) (t_179b : Bool) (t_201q5 : Bool) (t_198a : Int) (t_198b : Int) (t_198c : Bool) (t_210a : Int) (t_210b : Int) (t_210c : Bool) (s : Bool) : Option (Bool) :=
  letK s fun t_239q6 =>
  iteK t_239q6
  (some false)
  (iteK t_198c
  (bind2 (Go.Proofs.Ythkaeighfjadlaa.GiEarliestAt.P t_155a t_155b t_155c t_198a) fun (t_244a : Int) (t_244b : Bool) =>
  bind2 (Go.Proofs.Ythkaeighfjadlaa.GiWaitsOn.P t_155a t_155b t_155c t_155d) fun (t_254a : Int) (t_254b : Bool) =>
  bind2 (Go.Proofs.Ythkaeighfjadlaa.GsWaitsOn.P t_155a t_155b t_155c t_155d) fun (t_264a : Int) (t_264b : Bool) =>
  letK (t_254a != t_264a) fun (t_272 : Bool) =>
  joinK (fun (t_277 : Bool) =>
  joinK (fun (t_281 : Bool) =>
  joinK (fun (t_286 : Bool) =>
  joinK (fun (t_290 : Bool) =>
  joinK (fun (t_294 : Bool) =>
  joinK (fun (t_301 : Bool) =>
  q8 code fuel tapes t_2 t_5a t_5b t_5c t_5d t_19a t_19b t_29a t_29b t_82q0 t_56a t_56b t_66a t_66b t_111q1 t_155a t_155b t_155c t_155d t_169a t_169b t_179a t_179b t_201q5 t_198a t_198b t_198c t_210a t_210b t_210c t_239q6 t_244a t_244b t_254a t_254b t_264a t_264b (t_301)) fun jt_301 => iteK t_294 (appK jt_301 true) (letK (IntKind.i64.wrap (t_198b - t_155c)) fun (t_299 : Int) =>
  letK (decide (t_299 < t_254a)) fun (t_300 : Bool) =>
  appK jt_301 t_300)) fun jt_294 => iteK t_290 (appK jt_294 true) (letK (decide (t_254a < 0)) fun (t_293 : Bool) =>
  appK jt_294 t_293)) fun jt_290 => iteK t_286 (appK jt_290 true) (letK (!t_254b) fun (t_289 : Bool) =>
  appK jt_290 t_289)) fun jt_286 => iteK t_281 (appK jt_286 true) (letK (decide (t_198b < t_244a)) fun (t_285 : Bool) =>
  appK jt_286 t_285)) fun jt_281 => iteK t_277 (appK jt_281 true) (letK (!t_244b) fun (t_280 : Bool) =>
  appK jt_281 t_280)) fun jt_277 => iteK t_272 (appK jt_277 true) (letK (!(t_254b == t_264b)) fun (t_276 : Bool) =>
  appK jt_277 t_276))
  (j7  ()))

def q5 (code : (List Int)) (fuel : Nat) (tapes : List Int → Go.Proofs.Ythkaeighfjadlaa.GoC.Tape) (t_2 : Bool) (t_5a : (List Go.Proofs.Ythkaeighfjadlaa.PMail.Mail)) (t_5b : Int) (t_5c : Int) (t_5d : Int) (t_19a : (List Int)) (t_19b : Bool) (t_29a : (List Int)) (t_29b : Bool) (t_82q0 : Bool) (t_56a : Int) (t_56b : Bool) (t_66a : Int) (t_66b : Bool) (t_111q1 : Bool) (t_155a : (List Go.Proofs.Ythkaeighfjadlaa.PMail.Mail)) (t_155b : Int) (t_155c : Int) (t_155d : (List Int)) (t_169a : Bool) (t_169b : Bool) (t_179a : Bool) (t_179b : Bool) (s : Bool) : Option (Bool) :=
  letK s fun t_201q5 =>
  iteK t_201q5
  (some false)
  (bind3 (Go.Proofs.Ythkaeighfjadlaa.GiEndOfRoute.P t_155a t_155b t_155c t_155d) fun (t_198a : Int) (t_198b : Int) (t_198c : Bool) =>
  bind3 (Go.Proofs.Ythkaeighfjadlaa.GsEndOfRoute.P t_155a t_155b t_155c t_155d) fun (t_210a : Int) (t_210b : Int) (t_210c : Bool) =>
  letK (t_198a != t_210a) fun (t_220 : Bool) =>
  joinK (fun (t_225 : Bool) =>
  joinK (fun (t_230 : Bool) =>
  joinK (fun (t_237 : Bool) =>
  q6 code fuel tapes t_2 t_5a t_5b t_5c t_5d t_19a t_19b t_29a t_29b t_82q0 t_56a t_56b t_66a t_66b t_111q1 t_155a t_155b t_155c t_155d t_169a t_169b t_179a t_179b t_201q5 t_198a t_198b t_198c t_210a t_210b t_210c (t_237)) fun jt_237 => iteK t_230 (appK jt_237 true) (joinK (fun (t_236 : Bool) =>
  appK jt_237 t_236) fun jt_236 => iteK t_169a (letK (!t_198c) fun (t_235 : Bool) =>
  appK jt_236 t_235) (appK jt_236 false))) fun jt_230 => iteK t_225 (appK jt_230 true) (letK (!(t_198c == t_210c)) fun (t_229 : Bool) =>
  appK jt_230 t_229)) fun jt_225 => iteK t_220 (appK jt_225 true) (letK (t_198b != t_210b) fun (t_224 : Bool) =>
  appK jt_225 t_224))

def q2 (code : (List Int)) (fuel : Nat) (tapes : List Int → Go.Proofs.Ythkaeighfjadlaa.GoC.Tape) (t_2 : Bool) (t_5a : (List Go.Proofs.Ythkaeighfjadlaa.PMail.Mail)) (t_5b : Int) (t_5c : Int) (t_5d : Int) (t_19a : (List Int)) (t_19b : Bool) (t_29a : (List Int)) (t_29b : Bool) (t_82q0 : Bool) (t_56a : Int) (t_56b : Bool) (t_66a : Int) (t_66b : Bool) (t_111q1 : Bool) (s : Unit) : Option (Bool) :=
  bind4 (Go.Proofs.Ythkaeighfjadlaa.GsDrawIsRoute.P fuel tapes code) fun (t_155a : (List Go.Proofs.Ythkaeighfjadlaa.PMail.Mail)) (t_155b : Int) (t_155c : Int) (t_155d : (List Int)) =>
  bind2 (Go.Proofs.Ythkaeighfjadlaa.GiIsRoute.P t_155a t_155b t_155c t_155d) fun (t_169a : Bool) (t_169b : Bool) =>
  bind2 (Go.Proofs.Ythkaeighfjadlaa.GsIsRoute.P t_155a t_155b t_155c t_155d) fun (t_179a : Bool) (t_179b : Bool) =>
  letK (!(t_169a == t_179a)) fun (t_187 : Bool) =>
  joinK (fun (t_192 : Bool) =>
  q5 code fuel tapes t_2 t_5a t_5b t_5c t_5d t_19a t_19b t_29a t_29b t_82q0 t_56a t_56b t_66a t_66b t_111q1 t_155a t_155b t_155c t_155d t_169a t_169b t_179a t_179b (t_192)) fun jt_192 => iteK t_187 (appK jt_192 true) (letK (!(t_169b == t_179b)) fun (t_191 : Bool) =>
  appK jt_192 t_191)

def q4 (code : (List Int)) (fuel : Nat) (tapes : List Int → Go.Proofs.Ythkaeighfjadlaa.GoC.Tape) (t_2 : Bool) (t_5a : (List Go.Proofs.Ythkaeighfjadlaa.PMail.Mail)) (t_5b : Int) (t_5c : Int) (t_5d : Int) (t_19a : (List Int)) (t_19b : Bool) (t_29a : (List Int)) (t_29b : Bool) (t_82q0 : Bool) (t_56a : Int) (t_56b : Bool) (t_66a : Int) (t_66b : Bool) (t_111q1 : Bool) (t_91a : Int) (t_91b : Int) (t_91c : Bool) (t_103a : (List Int)) (t_103b : Bool) (t_151q3 : Bool) (t_134 : Bool) (t_139 : Int) (t_140a : (List Int)) (t_140b : Bool) (s : Bool) : Option (Bool) :=
  letK s fun t_170q4 =>
  iteK t_170q4
  (some false)
  (q2 code fuel tapes t_2 t_5a t_5b t_5c t_5d t_19a t_19b t_29a t_29b t_82q0 t_56a t_56b t_66a t_66b t_111q1 ())

def q3 (code : (List Int)) (fuel : Nat) (tapes : List Int → Go.Proofs.Ythkaeighfjadlaa.GoC.Tape) (t_2 : Bool) (t_5a : (List Go.Proofs.Ythkaeighfjadlaa.PMail.Mail)) (t_5b : Int) (t_5c : Int) (t_5d : Int) (t_19a : (List Int)) (t_19b : Bool) (t_29a : (List Int)) (t_29b : Bool) (t_82q0 : Bool) (t_56a : Int) (t_56b : Bool) (t_66a : Int) (t_66b : Bool) (t_111q1 : Bool) (t_91a : Int) (t_91b : Int) (t_91c : Bool) (t_103a : (List Int)) (t_103b : Bool) (s : Bool) : Option (Bool) :=
  letK s fun t_151q3 =>
  iteK t_151q3
  (some false)
  (letK (decide (t_5c < t_56a)) fun (t_134 : Bool) =>
  iteK t_134
  (letK (IntKind.i64.wrap (t_56a - 1)) fun (t_139 : Int) =>
  bind2 (Go.Proofs.Ythkaeighfjadlaa.GiReachedBy.P t_5a t_5b t_5c t_139) fun (t_140a : (List Int)) (t_140b : Bool) =>
  letK (!t_140b) fun (t_147 : Bool) =>
  joinK (fun (t_152 : Bool) =>
  q4 code fuel tapes t_2 t_5a t_5b t_5c t_5d t_19a t_19b t_29a t_29b t_82q0 t_56a t_56b t_66a t_66b t_111q1 t_91a t_91b t_91c t_103a t_103b t_151q3 t_134 t_139 t_140a t_140b (t_152)) fun jt_152 => iteK t_147 (appK jt_152 true) (Option.bind (Go.Proofs.Ythkaeighfjadlaa.GlVHas.P t_140a t_5d) fun (t_151 : Bool) =>
  appK jt_152 t_151))
  (q2 code fuel tapes t_2 t_5a t_5b t_5c t_5d t_19a t_19b t_29a t_29b t_82q0 t_56a t_56b t_66a t_66b t_111q1 ()))

def q1 (code : (List Int)) (fuel : Nat) (tapes : List Int → Go.Proofs.Ythkaeighfjadlaa.GoC.Tape) (t_2 : Bool) (t_5a : (List Go.Proofs.Ythkaeighfjadlaa.PMail.Mail)) (t_5b : Int) (t_5c : Int) (t_5d : Int) (t_19a : (List Int)) (t_19b : Bool) (t_29a : (List Int)) (t_29b : Bool) (t_82q0 : Bool) (t_56a : Int) (t_56b : Bool) (t_66a : Int) (t_66b : Bool) (s : Bool) : Option (Bool) :=
  letK s fun t_111q1 =>
  iteK t_111q1
  (some false)
  (iteK t_19b
  (bind3 (Go.Proofs.Ythkaeighfjadlaa.GiEndOfRoute.P t_5a t_5b t_5c t_19a) fun (t_91a : Int) (t_91b : Int) (t_91c : Bool) =>
  bind2 (Go.Proofs.Ythkaeighfjadlaa.GiReachedBy.P t_5a t_5b t_5c t_56a) fun (t_103a : (List Int)) (t_103b : Bool) =>
  letK (!t_91c) fun (t_110 : Bool) =>
  joinK (fun (t_115 : Bool) =>
  joinK (fun (t_120 : Bool) =>
  joinK (fun (t_124 : Bool) =>
  joinK (fun (t_130 : Bool) =>
  q3 code fuel tapes t_2 t_5a t_5b t_5c t_5d t_19a t_19b t_29a t_29b t_82q0 t_56a t_56b t_66a t_66b t_111q1 t_91a t_91b t_91c t_103a t_103b (t_130)) fun jt_130 => iteK t_124 (appK jt_130 true) (Option.bind (Go.Proofs.Ythkaeighfjadlaa.GlVHas.P t_103a t_5d) fun (t_128 : Bool) =>
  letK (!t_128) fun (t_129 : Bool) =>
  appK jt_130 t_129)) fun jt_124 => iteK t_120 (appK jt_124 true) (letK (!t_103b) fun (t_123 : Bool) =>
  appK jt_124 t_123)) fun jt_120 => iteK t_115 (appK jt_120 true) (letK (t_91b != t_56a) fun (t_119 : Bool) =>
  appK jt_120 t_119)) fun jt_115 => iteK t_110 (appK jt_115 true) (letK (t_91a != t_5d) fun (t_114 : Bool) =>
  appK jt_115 t_114))
  (q2 code fuel tapes t_2 t_5a t_5b t_5c t_5d t_19a t_19b t_29a t_29b t_82q0 t_56a t_56b t_66a t_66b t_111q1 ()))

def q0 (code : (List Int)) (fuel : Nat) (tapes : List Int → Go.Proofs.Ythkaeighfjadlaa.GoC.Tape) (t_2 : Bool) (t_5a : (List Go.Proofs.Ythkaeighfjadlaa.PMail.Mail)) (t_5b : Int) (t_5c : Int) (t_5d : Int) (t_19a : (List Int)) (t_19b : Bool) (t_29a : (List Int)) (t_29b : Bool) (s : Bool) : Option (Bool) :=
  letK s fun t_82q0 =>
  iteK t_82q0
  (some false)
  (bind2 (Go.Proofs.Ythkaeighfjadlaa.GiEarliestAt.P t_5a t_5b t_5c t_5d) fun (t_56a : Int) (t_56b : Bool) =>
  bind2 (Go.Proofs.Ythkaeighfjadlaa.GsEarliestAt.P t_5a t_5b t_5c t_5d) fun (t_66a : Int) (t_66b : Bool) =>
  letK (t_56a != t_66a) fun (t_74 : Bool) =>
  joinK (fun (t_79 : Bool) =>
  joinK (fun (t_84 : Bool) =>
  q1 code fuel tapes t_2 t_5a t_5b t_5c t_5d t_19a t_19b t_29a t_29b t_82q0 t_56a t_56b t_66a t_66b (t_84)) fun jt_84 => iteK t_79 (appK jt_84 true) (letK (!(t_56b == t_19b)) fun (t_83 : Bool) =>
  appK jt_84 t_83)) fun jt_79 => iteK t_74 (appK jt_79 true) (letK (!(t_56b == t_66b)) fun (t_78 : Bool) =>
  appK jt_79 t_78))

def P (fuel : Nat) (tapes : List Int → Go.Proofs.Ythkaeighfjadlaa.GoC.Tape) (code : (List Int)) : Option (Bool) :=
  Option.bind (Go.Proofs.Ythkaeighfjadlaa.GlVBig.P code) fun (t_2 : Bool) =>
  iteK t_2
  (some true)
  (bind4 (Go.Proofs.Ythkaeighfjadlaa.GsDrawBestRoute.P fuel tapes code) fun (t_5a : (List Go.Proofs.Ythkaeighfjadlaa.PMail.Mail)) (t_5b : Int) (t_5c : Int) (t_5d : Int) =>
  bind2 (Go.Proofs.Ythkaeighfjadlaa.GiBestRoute.P fuel t_5a t_5b t_5c t_5d) fun (t_19a : (List Int)) (t_19b : Bool) =>
  bind2 (Go.Proofs.Ythkaeighfjadlaa.GsBestRoute.P fuel t_5a t_5b t_5c t_5d) fun (t_29a : (List Int)) (t_29b : Bool) =>
  letK (!(t_19b == t_29b)) fun (t_37 : Bool) =>
  joinK (fun (t_43 : Bool) =>
  joinK (fun (t_50 : Bool) =>
  q0 code fuel tapes t_2 t_5a t_5b t_5c t_5d t_19a t_19b t_29a t_29b (t_50)) fun jt_50 => iteK t_43 (appK jt_50 true) (Option.bind (Go.Proofs.Ythkaeighfjadlaa.GiIsTimetable.P t_5a) fun (t_46 : Bool) =>
  Option.bind (Go.Proofs.Ythkaeighfjadlaa.GsIsTimetable.P t_5a) fun (t_48 : Bool) =>
  letK (!(t_46 == t_48)) fun (t_49 : Bool) =>
  appK jt_50 t_49)) fun jt_43 => iteK t_37 (appK jt_43 true) (Option.bind (Go.Proofs.Ythkaeighfjadlaa.GlVInts.P t_19a t_29a) fun (t_41 : Bool) =>
  letK (!t_41) fun (t_42 : Bool) =>
  appK jt_43 t_42))

set_option maxRecDepth 100000 in
set_option maxHeartbeats 20000000 in
theorem C (fuel : Nat) (tapes : List Int → Go.Proofs.Ythkaeighfjadlaa.GoC.Tape) (code : (List Int)) (A0 : Option Addr) (c0 : Nat)  (w : World) (HE : Hid (Go.Proofs.Ythkaeighfjadlaa.GoC.Tells tapes)) (M0 : Hid (Cells w 1 A0 code.length (Go.Proofs.Ythkaeighfjadlaa.GoC.u8s code))) (N0 : Hid (code.length ≤ 9223372036854775807)) (V0 : Hid (∀ z ∈ code, 0 ≤ z ∧ z ≤ 255))  {r : Bool} (H : Hid (P fuel tapes code = some r)) :
    Calls Try.prog 3 #[.slice A0 code.length c0] w (Gives (.bool r) w) := by
  have HB := Lib.hid (Below.refl w.heap.size w)
  unfold P at H
  have N0o := N0.out
  go_enter Try.func3, Try.ntmps3
  replace H := bind_hid H
  obtain ⟨t_2, qt_2, H⟩ := H
  go_wp2_with fail
  go_at_call 8
  refine (Go.Proofs.Ythkaeighfjadlaa.GlVBig.C (code) A0 c0 _   (Lib.hid (Cells.below M0.out HB.out)) N0 V0 qt_2).mono ?_
  rintro e_t_2 wt_2 ⟨rfl, bt_2⟩
  have HBwt_2 := Lib.hid (Below.step HB.out bt_2)
  clear bt_2
  cases t_2 with
  | false =>
    replace H := ite_f H
    replace H := bind4_hid H
    obtain ⟨t_5a, t_5b, t_5c, t_5d, qt_5, H⟩ := H
    go_wp2_with fail
    go_at_call 9
    refine (Go.Proofs.Ythkaeighfjadlaa.GsDrawBestRoute.C fuel tapes (code) A0 c0 _  HE (Lib.hid (Cells.below M0.out HBwt_2.out)) N0 V0 qt_5).mono ?_
    rintro e_t_5 wt_5 ⟨At_5a, ct_5a, rfl, ot_5a, bt_5⟩
    have Ot_5a := Lib.hid (own_lower ot_5a HBwt_2.out.size)
    clear ot_5a
    have HBwt_5 := Lib.hid (Below.step HBwt_2.out bt_5)
    clear bt_5
    replace H := bind2_hid H
    obtain ⟨t_19a, t_19b, qt_19, H⟩ := H
    go_wp2_with fail
    go_at_call 10
    refine (Go.Proofs.Ythkaeighfjadlaa.GiBestRoute.C fuel (t_5a) (t_5b) (t_5c) (t_5d) At_5a ct_5a _   (Lib.hid (own_cells Ot_5a.out)) (Lib.hid (own_max Ot_5a.out)) qt_19).mono ?_
    rintro e_t_19 wt_19 ⟨At_19a, ct_19a, rfl, ot_19a, bt_19⟩
    have Dt_19a_t_5a := Lib.hid (apart_call ot_19a Ot_5a.out)
    have Ot_19a := Lib.hid (own_lower ot_19a HBwt_5.out.size)
    clear ot_19a
    have HBwt_19 := Lib.hid (Below.step HBwt_5.out bt_19)
    replace Ot_5a := Lib.hid (own_below Ot_5a.out bt_19)
    clear bt_19
    replace H := bind2_hid H
    obtain ⟨t_29a, t_29b, qt_29, H⟩ := H
    go_wp2_with fail
    go_at_call 11
    refine (Go.Proofs.Ythkaeighfjadlaa.GsBestRoute.C fuel (t_5a) (t_5b) (t_5c) (t_5d) At_5a ct_5a _   (Lib.hid (own_cells Ot_5a.out)) (Lib.hid (own_max Ot_5a.out)) qt_29).mono ?_
    rintro e_t_29 wt_29 ⟨At_29a, ct_29a, rfl, ot_29a, bt_29⟩
    have Dt_29a_t_5a := Lib.hid (apart_call ot_29a Ot_5a.out)
    have Dt_29a_t_19a := Lib.hid (apart_call ot_29a Ot_19a.out)
    have Ot_29a := Lib.hid (own_lower ot_29a HBwt_19.out.size)
    clear ot_29a
    have HBwt_29 := Lib.hid (Below.step HBwt_19.out bt_29)
    replace Ot_5a := Lib.hid (own_below Ot_5a.out bt_29)
    replace Ot_19a := Lib.hid (own_below Ot_19a.out bt_29)
    clear bt_29
    go_upto_region 6 with fail
    go_cut [82] (fun v82_ wr => ∃ (t_82q0 : Bool), v82_ = .bool t_82q0 ∧ Hid (q0 code fuel tapes false t_5a t_5b t_5c t_5d t_19a t_19b t_29a t_29b (t_82q0) = some r) ∧ Hid (Below w.heap.size w wr) ∧ Hid (wr.ownsRow w.heap.size 93 4 (.slice At_5a t_5a.length ct_5a) t_5a.length (Go.Proofs.Ythkaeighfjadlaa.PMail.flat t_5a)) ∧ Hid (wr.ownsRow w.heap.size 3 1 (.slice At_19a t_19a.length ct_19a) t_19a.length (Go.Proofs.Ythkaeighfjadlaa.HelpInt.iv t_19a)) ∧ Hid (wr.ownsRow w.heap.size 3 1 (.slice At_29a t_29a.length ct_29a) t_29a.length (Go.Proofs.Ythkaeighfjadlaa.HelpInt.iv t_29a)))
    case first =>
      as_aux_lemma =>
        replace H := let_hid H
        obtain ⟨t_37, ht_37, H⟩ := H
        replace H := join_hid H
        cases t_37 with
        | false =>
          replace H := ite_f H
          replace H := bind_hid H
          obtain ⟨t_41, qt_41, H⟩ := H
          go_wp2_with fail
          go_at_call 12
          refine (Go.Proofs.Ythkaeighfjadlaa.GlVInts.C (t_19a) (t_29a) At_19a ct_19a At_29a ct_29a _   (Lib.hid (own_cells Ot_19a.out)) (Lib.hid (own_max Ot_19a.out)) (Lib.hid (own_cells Ot_29a.out)) (Lib.hid (own_max Ot_29a.out)) qt_41).mono ?_
          rintro e_t_41 wt_41 ⟨rfl, bt_41⟩
          have HBwt_41 := Lib.hid (Below.step HBwt_29.out bt_41)
          replace Ot_5a := Lib.hid (own_below Ot_5a.out bt_41)
          replace Ot_19a := Lib.hid (own_below Ot_19a.out bt_41)
          replace Ot_29a := Lib.hid (own_below Ot_29a.out bt_41)
          clear bt_41
          cases t_41 with
          | false =>
            replace H := let_hid H
            obtain ⟨t_42, ht_42, H⟩ := H
            obtain rfl : t_42 = true := ht_42.symm
            replace H := app_hid H
            replace H := join_hid H
            replace H := ite_t H
            replace H := app_hid H
            go_wp2_with fail
            go_meet
            case rel => exact ⟨_, rfl, H, HBwt_41, Ot_5a, Ot_19a, Ot_29a⟩
          | true =>
            replace H := let_hid H
            obtain ⟨t_42, ht_42, H⟩ := H
            obtain rfl : t_42 = false := ht_42.symm
            replace H := app_hid H
            replace H := join_hid H
            replace H := ite_f H
            replace H := bind_hid H
            obtain ⟨t_46, qt_46, H⟩ := H
            go_wp2_with fail
            go_at_call 13
            refine (Go.Proofs.Ythkaeighfjadlaa.GiIsTimetable.C (t_5a) At_5a ct_5a _   (Lib.hid (own_cells Ot_5a.out)) (Lib.hid (own_max Ot_5a.out)) qt_46).mono ?_
            rintro e_t_46 wt_46 ⟨rfl, bt_46⟩
            have HBwt_46 := Lib.hid (Below.step HBwt_41.out bt_46)
            replace Ot_5a := Lib.hid (own_below Ot_5a.out bt_46)
            replace Ot_19a := Lib.hid (own_below Ot_19a.out bt_46)
            replace Ot_29a := Lib.hid (own_below Ot_29a.out bt_46)
            clear bt_46
            replace H := bind_hid H
            obtain ⟨t_48, qt_48, H⟩ := H
            go_wp2_with fail
            go_at_call 14
            refine (Go.Proofs.Ythkaeighfjadlaa.GsIsTimetable.C (t_5a) At_5a ct_5a _   (Lib.hid (own_cells Ot_5a.out)) (Lib.hid (own_max Ot_5a.out)) qt_48).mono ?_
            rintro e_t_48 wt_48 ⟨rfl, bt_48⟩
            have HBwt_48 := Lib.hid (Below.step HBwt_46.out bt_48)
            replace Ot_5a := Lib.hid (own_below Ot_5a.out bt_48)
            replace Ot_19a := Lib.hid (own_below Ot_19a.out bt_48)
            replace Ot_29a := Lib.hid (own_below Ot_29a.out bt_48)
            clear bt_48
            replace H := let_hid H
            obtain ⟨t_49, ht_49, H⟩ := H
            replace H := app_hid H
            go_wp2_with fail
            go_meet
            case rel => exact ⟨_, rfl, H, HBwt_48, Ot_5a, Ot_19a, Ot_29a⟩
        | true =>
          replace H := ite_t H
          replace H := app_hid H
          replace H := join_hid H
          replace H := ite_t H
          replace H := app_hid H
          go_wp2_with fail
          go_meet
          case rel => exact ⟨_, rfl, H, HBwt_29, Ot_5a, Ot_19a, Ot_29a⟩
    case rest =>
      as_aux_lemma =>
        obtain ⟨t_82q0, rfl, H, HBwq0, Ot_5a, Ot_19a, Ot_29a⟩ := hcut
        rename World => wq0
        unfold q0 at H
        replace H := let_hid H
        obtain ⟨_, rfl, H⟩ := H
        cases t_82q0 with
        | false =>
          replace H := ite_f H
          replace H := bind2_hid H
          obtain ⟨t_56a, t_56b, qt_56, H⟩ := H
          go_wp2_with fail
          go_at_call 15
          refine (Go.Proofs.Ythkaeighfjadlaa.GiEarliestAt.C (t_5a) (t_5b) (t_5c) (t_5d) At_5a ct_5a _   (Lib.hid (own_cells Ot_5a.out)) (Lib.hid (own_max Ot_5a.out)) qt_56).mono ?_
          rintro e_t_56 wt_56 ⟨rfl, bt_56⟩
          have HBwt_56 := Lib.hid (Below.step HBwq0.out bt_56)
          replace Ot_5a := Lib.hid (own_below Ot_5a.out bt_56)
          replace Ot_19a := Lib.hid (own_below Ot_19a.out bt_56)
          replace Ot_29a := Lib.hid (own_below Ot_29a.out bt_56)
          clear bt_56
          replace H := bind2_hid H
          obtain ⟨t_66a, t_66b, qt_66, H⟩ := H
          go_wp2_with fail
          go_at_call 16
          refine (Go.Proofs.Ythkaeighfjadlaa.GsEarliestAt.C (t_5a) (t_5b) (t_5c) (t_5d) At_5a ct_5a _   (Lib.hid (own_cells Ot_5a.out)) (Lib.hid (own_max Ot_5a.out)) qt_66).mono ?_
          rintro e_t_66 wt_66 ⟨rfl, bt_66⟩
          have HBwt_66 := Lib.hid (Below.step HBwt_56.out bt_66)
          replace Ot_5a := Lib.hid (own_below Ot_5a.out bt_66)
          replace Ot_19a := Lib.hid (own_below Ot_19a.out bt_66)
          replace Ot_29a := Lib.hid (own_below Ot_29a.out bt_66)
          clear bt_66
          go_upto_region 10 with fail
          go_cut [111] (fun v111_ wr => ∃ (t_111q1 : Bool), v111_ = .bool t_111q1 ∧ Hid (q1 code fuel tapes false t_5a t_5b t_5c t_5d t_19a t_19b t_29a t_29b false t_56a t_56b t_66a t_66b (t_111q1) = some r) ∧ Hid (Below w.heap.size w wr) ∧ Hid (wr.ownsRow w.heap.size 93 4 (.slice At_5a t_5a.length ct_5a) t_5a.length (Go.Proofs.Ythkaeighfjadlaa.PMail.flat t_5a)) ∧ Hid (wr.ownsRow w.heap.size 3 1 (.slice At_19a t_19a.length ct_19a) t_19a.length (Go.Proofs.Ythkaeighfjadlaa.HelpInt.iv t_19a)) ∧ Hid (wr.ownsRow w.heap.size 3 1 (.slice At_29a t_29a.length ct_29a) t_29a.length (Go.Proofs.Ythkaeighfjadlaa.HelpInt.iv t_29a)))
          case first =>
            as_aux_lemma =>
              replace H := let_hid H
              obtain ⟨t_74, ht_74, H⟩ := H
              replace H := join_hid H
              cases t_74 with
              | false =>
                replace H := ite_f H
                replace H := let_hid H
                obtain ⟨t_78, ht_78, H⟩ := H
                replace H := app_hid H
                replace H := join_hid H
                cases t_78 with
                | false =>
                  replace H := ite_f H
                  replace H := let_hid H
                  obtain ⟨t_83, ht_83, H⟩ := H
                  replace H := app_hid H
                  go_wp2_with fail
                  go_meet
                  case rel => exact ⟨_, rfl, H, HBwt_66, Ot_5a, Ot_19a, Ot_29a⟩
                | true =>
                  replace H := ite_t H
                  replace H := app_hid H
                  go_wp2_with fail
                  go_meet
                  case rel => exact ⟨_, rfl, H, HBwt_66, Ot_5a, Ot_19a, Ot_29a⟩
              | true =>
                replace H := ite_t H
                replace H := app_hid H
                replace H := join_hid H
                replace H := ite_t H
                replace H := app_hid H
                go_wp2_with fail
                go_meet
                case rel => exact ⟨_, rfl, H, HBwt_66, Ot_5a, Ot_19a, Ot_29a⟩
          case rest =>
            as_aux_lemma =>
              obtain ⟨t_111q1, rfl, H, HBwq1, Ot_5a, Ot_19a, Ot_29a⟩ := hcut
              rename World => wq1
              unfold q1 at H
              replace H := let_hid H
              obtain ⟨_, rfl, H⟩ := H
              cases t_111q1 with
              | false =>
                replace H := ite_f H
                go_upto_if 112 with fail
                go_cut [] (fun  wr => Hid (q2 code fuel tapes false t_5a t_5b t_5c t_5d t_19a t_19b t_29a t_29b false t_56a t_56b t_66a t_66b false () = some r) ∧ Hid (Below w.heap.size w wr) ∧ Hid (wr.ownsRow w.heap.size 93 4 (.slice At_5a t_5a.length ct_5a) t_5a.length (Go.Proofs.Ythkaeighfjadlaa.PMail.flat t_5a)) ∧ Hid (wr.ownsRow w.heap.size 3 1 (.slice At_19a t_19a.length ct_19a) t_19a.length (Go.Proofs.Ythkaeighfjadlaa.HelpInt.iv t_19a)) ∧ Hid (wr.ownsRow w.heap.size 3 1 (.slice At_29a t_29a.length ct_29a) t_29a.length (Go.Proofs.Ythkaeighfjadlaa.HelpInt.iv t_29a)))
                case first =>
                  as_aux_lemma =>
                    cases t_19b with
                    | false =>
                      replace H := ite_f H
                      go_wp2_with fail
                      go_meet
                      case rel => exact ⟨H, HBwq1, Ot_5a, Ot_19a, Ot_29a⟩
                    | true =>
                      replace H := ite_t H
                      replace H := bind3_hid H
                      obtain ⟨t_91a, t_91b, t_91c, qt_91, H⟩ := H
                      go_wp2_with fail
                      go_at_call 17
                      refine (Go.Proofs.Ythkaeighfjadlaa.GiEndOfRoute.C (t_5a) (t_5b) (t_5c) (t_19a) At_5a ct_5a At_19a ct_19a _   (Lib.hid (own_cells Ot_5a.out)) (Lib.hid (own_max Ot_5a.out)) (Lib.hid (own_cells Ot_19a.out)) (Lib.hid (own_max Ot_19a.out)) qt_91).mono ?_
                      rintro e_t_91 wt_91 ⟨rfl, bt_91⟩
                      have HBwt_91 := Lib.hid (Below.step HBwq1.out bt_91)
                      replace Ot_5a := Lib.hid (own_below Ot_5a.out bt_91)
                      replace Ot_19a := Lib.hid (own_below Ot_19a.out bt_91)
                      replace Ot_29a := Lib.hid (own_below Ot_29a.out bt_91)
                      clear bt_91
                      replace H := bind2_hid H
                      obtain ⟨t_103a, t_103b, qt_103, H⟩ := H
                      go_wp2_with fail
                      go_at_call 18
                      refine (Go.Proofs.Ythkaeighfjadlaa.GiReachedBy.C (t_5a) (t_5b) (t_5c) (t_56a) At_5a ct_5a _   (Lib.hid (own_cells Ot_5a.out)) (Lib.hid (own_max Ot_5a.out)) qt_103).mono ?_
                      rintro e_t_103 wt_103 ⟨At_103a, ct_103a, rfl, ot_103a, bt_103⟩
                      have Dt_103a_t_5a := Lib.hid (apart_call ot_103a Ot_5a.out)
                      have Dt_103a_t_19a := Lib.hid (apart_call ot_103a Ot_19a.out)
                      have Dt_103a_t_29a := Lib.hid (apart_call ot_103a Ot_29a.out)
                      have Ot_103a := Lib.hid (own_lower ot_103a HBwt_91.out.size)
                      clear ot_103a
                      have HBwt_103 := Lib.hid (Below.step HBwt_91.out bt_103)
                      replace Ot_5a := Lib.hid (own_below Ot_5a.out bt_103)
                      replace Ot_19a := Lib.hid (own_below Ot_19a.out bt_103)
                      replace Ot_29a := Lib.hid (own_below Ot_29a.out bt_103)
                      clear bt_103
                      go_upto_region 15 with fail
                      go_cut [151] (fun v151_ wr => ∃ (t_151q3 : Bool), v151_ = .bool t_151q3 ∧ Hid (q3 code fuel tapes false t_5a t_5b t_5c t_5d t_19a true t_29a t_29b false t_56a t_56b t_66a t_66b false t_91a t_91b t_91c t_103a t_103b (t_151q3) = some r) ∧ Hid (Below w.heap.size w wr) ∧ Hid (wr.ownsRow w.heap.size 93 4 (.slice At_5a t_5a.length ct_5a) t_5a.length (Go.Proofs.Ythkaeighfjadlaa.PMail.flat t_5a)) ∧ Hid (wr.ownsRow w.heap.size 3 1 (.slice At_19a t_19a.length ct_19a) t_19a.length (Go.Proofs.Ythkaeighfjadlaa.HelpInt.iv t_19a)) ∧ Hid (wr.ownsRow w.heap.size 3 1 (.slice At_29a t_29a.length ct_29a) t_29a.length (Go.Proofs.Ythkaeighfjadlaa.HelpInt.iv t_29a)) ∧ Hid (wr.ownsRow w.heap.size 3 1 (.slice At_103a t_103a.length ct_103a) t_103a.length (Go.Proofs.Ythkaeighfjadlaa.HelpInt.iv t_103a)))
                      case first =>
                        as_aux_lemma =>
                          cases t_91c with
                          | false =>
                            replace H := let_hid H
                            obtain ⟨t_110, ht_110, H⟩ := H
                            obtain rfl : t_110 = true := ht_110.symm
                            replace H := join_hid H
                            replace H := ite_t H
                            replace H := app_hid H
                            replace H := join_hid H
                            replace H := ite_t H
                            replace H := app_hid H
                            replace H := join_hid H
                            replace H := ite_t H
                            replace H := app_hid H
                            replace H := join_hid H
                            replace H := ite_t H
                            replace H := app_hid H
                            go_wp2_with fail
                            go_meet
                            case rel => exact ⟨_, rfl, H, HBwt_103, Ot_5a, Ot_19a, Ot_29a, Ot_103a⟩
                          | true =>
                            replace H := let_hid H
                            obtain ⟨t_110, ht_110, H⟩ := H
                            obtain rfl : t_110 = false := ht_110.symm
                            replace H := join_hid H
                            replace H := ite_f H
                            replace H := let_hid H
                            obtain ⟨t_114, ht_114, H⟩ := H
                            replace H := app_hid H
                            replace H := join_hid H
                            cases t_114 with
                            | false =>
                              replace H := ite_f H
                              replace H := let_hid H
                              obtain ⟨t_119, ht_119, H⟩ := H
                              replace H := app_hid H
                              replace H := join_hid H
                              cases t_119 with
                              | false =>
                                replace H := ite_f H
                                cases t_103b with
                                | false =>
                                  replace H := let_hid H
                                  obtain ⟨t_123, ht_123, H⟩ := H
                                  obtain rfl : t_123 = true := ht_123.symm
                                  replace H := app_hid H
                                  replace H := join_hid H
                                  replace H := ite_t H
                                  replace H := app_hid H
                                  go_wp2_with fail
                                  go_meet
                                  case rel => exact ⟨_, rfl, H, HBwt_103, Ot_5a, Ot_19a, Ot_29a, Ot_103a⟩
                                | true =>
                                  replace H := let_hid H
                                  obtain ⟨t_123, ht_123, H⟩ := H
                                  obtain rfl : t_123 = false := ht_123.symm
                                  replace H := app_hid H
                                  replace H := join_hid H
                                  replace H := ite_f H
                                  replace H := bind_hid H
                                  obtain ⟨t_128, qt_128, H⟩ := H
                                  go_wp2_with fail
                                  go_at_call 19
                                  refine (Go.Proofs.Ythkaeighfjadlaa.GlVHas.C (t_103a) (t_5d) At_103a ct_103a _   (Lib.hid (own_cells Ot_103a.out)) (Lib.hid (own_max Ot_103a.out)) qt_128).mono ?_
                                  rintro e_t_128 wt_128 ⟨rfl, bt_128⟩
                                  have HBwt_128 := Lib.hid (Below.step HBwt_103.out bt_128)
                                  replace Ot_5a := Lib.hid (own_below Ot_5a.out bt_128)
                                  replace Ot_19a := Lib.hid (own_below Ot_19a.out bt_128)
                                  replace Ot_29a := Lib.hid (own_below Ot_29a.out bt_128)
                                  replace Ot_103a := Lib.hid (own_below Ot_103a.out bt_128)
                                  clear bt_128
                                  cases t_128 with
                                  | false =>
                                    replace H := let_hid H
                                    obtain ⟨t_129, ht_129, H⟩ := H
                                    obtain rfl : t_129 = true := ht_129.symm
                                    replace H := app_hid H
                                    go_wp2_with fail
                                    go_meet
                                    case rel => exact ⟨_, rfl, H, HBwt_128, Ot_5a, Ot_19a, Ot_29a, Ot_103a⟩
                                  | true =>
                                    replace H := let_hid H
                                    obtain ⟨t_129, ht_129, H⟩ := H
                                    obtain rfl : t_129 = false := ht_129.symm
                                    replace H := app_hid H
                                    go_wp2_with fail
                                    go_meet
                                    case rel => exact ⟨_, rfl, H, HBwt_128, Ot_5a, Ot_19a, Ot_29a, Ot_103a⟩
                              | true =>
                                replace H := ite_t H
                                replace H := app_hid H
                                replace H := join_hid H
                                replace H := ite_t H
                                replace H := app_hid H
                                go_wp2_with fail
                                go_meet
                                case rel => exact ⟨_, rfl, H, HBwt_103, Ot_5a, Ot_19a, Ot_29a, Ot_103a⟩
                            | true =>
                              replace H := ite_t H
                              replace H := app_hid H
                              replace H := join_hid H
                              replace H := ite_t H
                              replace H := app_hid H
                              replace H := join_hid H
                              replace H := ite_t H
                              replace H := app_hid H
                              go_wp2_with fail
                              go_meet
                              case rel => exact ⟨_, rfl, H, HBwt_103, Ot_5a, Ot_19a, Ot_29a, Ot_103a⟩
                      case rest =>
                        as_aux_lemma =>
                          obtain ⟨t_151q3, rfl, H, HBwq3, Ot_5a, Ot_19a, Ot_29a, Ot_103a⟩ := hcut
                          rename World => wq3
                          unfold q3 at H
                          replace H := let_hid H
                          obtain ⟨_, rfl, H⟩ := H
                          cases t_151q3 with
                          | false =>
                            replace H := ite_f H
                            replace H := let_hid H
                            obtain ⟨t_134, ht_134, H⟩ := H
                            cases t_134 with
                            | false =>
                              replace H := ite_f H
                              go_wp2_with fail
                              go_meet
                              case rel => exact ⟨H, HBwq3, Ot_5a, Ot_19a, Ot_29a⟩
                            | true =>
                              replace H := ite_t H
                              replace H := let_hid H
                              obtain ⟨t_139, ht_139, H⟩ := H
                              replace H := bind2_hid H
                              obtain ⟨t_140a, t_140b, qt_140, H⟩ := H
                              go_wp2_with fail
                              go_at_call 18
                              refine (Go.Proofs.Ythkaeighfjadlaa.GiReachedBy.C (t_5a) (t_5b) (t_5c) (t_139) At_5a ct_5a _   (Lib.hid (own_cells Ot_5a.out)) (Lib.hid (own_max Ot_5a.out)) qt_140).mono ?_
                              rintro e_t_140 wt_140 ⟨At_140a, ct_140a, rfl, ot_140a, bt_140⟩
                              have Dt_140a_t_5a := Lib.hid (apart_call ot_140a Ot_5a.out)
                              have Dt_140a_t_19a := Lib.hid (apart_call ot_140a Ot_19a.out)
                              have Dt_140a_t_29a := Lib.hid (apart_call ot_140a Ot_29a.out)
                              have Dt_140a_t_103a := Lib.hid (apart_call ot_140a Ot_103a.out)
                              have Ot_140a := Lib.hid (own_lower ot_140a HBwq3.out.size)
                              clear ot_140a
                              have HBwt_140 := Lib.hid (Below.step HBwq3.out bt_140)
                              replace Ot_5a := Lib.hid (own_below Ot_5a.out bt_140)
                              replace Ot_19a := Lib.hid (own_below Ot_19a.out bt_140)
                              replace Ot_29a := Lib.hid (own_below Ot_29a.out bt_140)
                              replace Ot_103a := Lib.hid (own_below Ot_103a.out bt_140)
                              clear bt_140
                              go_upto_region 19 with fail
                              go_cut [170] (fun v170_ wr => ∃ (t_170q4 : Bool), v170_ = .bool t_170q4 ∧ Hid (q4 code fuel tapes false t_5a t_5b t_5c t_5d t_19a true t_29a t_29b false t_56a t_56b t_66a t_66b false t_91a t_91b t_91c t_103a t_103b false true t_139 t_140a t_140b (t_170q4) = some r) ∧ Hid (Below w.heap.size w wr) ∧ Hid (wr.ownsRow w.heap.size 93 4 (.slice At_5a t_5a.length ct_5a) t_5a.length (Go.Proofs.Ythkaeighfjadlaa.PMail.flat t_5a)) ∧ Hid (wr.ownsRow w.heap.size 3 1 (.slice At_19a t_19a.length ct_19a) t_19a.length (Go.Proofs.Ythkaeighfjadlaa.HelpInt.iv t_19a)) ∧ Hid (wr.ownsRow w.heap.size 3 1 (.slice At_29a t_29a.length ct_29a) t_29a.length (Go.Proofs.Ythkaeighfjadlaa.HelpInt.iv t_29a)) ∧ Hid (wr.ownsRow w.heap.size 3 1 (.slice At_103a t_103a.length ct_103a) t_103a.length (Go.Proofs.Ythkaeighfjadlaa.HelpInt.iv t_103a)) ∧ Hid (wr.ownsRow w.heap.size 3 1 (.slice At_140a t_140a.length ct_140a) t_140a.length (Go.Proofs.Ythkaeighfjadlaa.HelpInt.iv t_140a)))
                              case first =>
                                as_aux_lemma =>
                                  cases t_140b with
                                  | false =>
                                    replace H := let_hid H
                                    obtain ⟨t_147, ht_147, H⟩ := H
                                    obtain rfl : t_147 = true := ht_147.symm
                                    replace H := join_hid H
                                    replace H := ite_t H
                                    replace H := app_hid H
                                    go_wp2_with fail
                                    go_meet
                                    case rel => exact ⟨_, rfl, H, HBwt_140, Ot_5a, Ot_19a, Ot_29a, Ot_103a, Ot_140a⟩
                                  | true =>
                                    replace H := let_hid H
                                    obtain ⟨t_147, ht_147, H⟩ := H
                                    obtain rfl : t_147 = false := ht_147.symm
                                    replace H := join_hid H
                                    replace H := ite_f H
                                    replace H := bind_hid H
                                    obtain ⟨t_151, qt_151, H⟩ := H
                                    go_wp2_with fail
                                    go_at_call 19
                                    refine (Go.Proofs.Ythkaeighfjadlaa.GlVHas.C (t_140a) (t_5d) At_140a ct_140a _   (Lib.hid (own_cells Ot_140a.out)) (Lib.hid (own_max Ot_140a.out)) qt_151).mono ?_
                                    rintro e_t_151 wt_151 ⟨rfl, bt_151⟩
                                    have HBwt_151 := Lib.hid (Below.step HBwt_140.out bt_151)
                                    replace Ot_5a := Lib.hid (own_below Ot_5a.out bt_151)
                                    replace Ot_19a := Lib.hid (own_below Ot_19a.out bt_151)
                                    replace Ot_29a := Lib.hid (own_below Ot_29a.out bt_151)
                                    replace Ot_103a := Lib.hid (own_below Ot_103a.out bt_151)
                                    replace Ot_140a := Lib.hid (own_below Ot_140a.out bt_151)
                                    clear bt_151
                                    replace H := app_hid H
                                    go_wp2_with fail
                                    go_meet
                                    case rel => exact ⟨_, rfl, H, HBwt_151, Ot_5a, Ot_19a, Ot_29a, Ot_103a, Ot_140a⟩
                              case rest =>
                                as_aux_lemma =>
                                  obtain ⟨t_170q4, rfl, H, HBwq4, Ot_5a, Ot_19a, Ot_29a, Ot_103a, Ot_140a⟩ := hcut
                                  rename World => wq4
                                  unfold q4 at H
                                  replace H := let_hid H
                                  obtain ⟨_, rfl, H⟩ := H
                                  cases t_170q4 with
                                  | false =>
                                    replace H := ite_f H
                                    go_wp2_with fail
                                    go_meet
                                    case rel => exact ⟨H, HBwq4, Ot_5a, Ot_19a, Ot_29a⟩
                                  | true =>
                                    replace H := ite_t H
                                    obtain rfl := ret_hid H
                                    go_wp2_with fail
                                    go_ret
                                    exact ⟨rfl, HBwq4.out⟩
                          | true =>
                            replace H := ite_t H
                            obtain rfl := ret_hid H
                            go_wp2_with fail
                            go_ret
                            exact ⟨rfl, HBwq3.out⟩
                case rest =>
                  as_aux_lemma =>
                    obtain ⟨H, HBwq2, Ot_5a, Ot_19a, Ot_29a⟩ := hcut
                    rename World => wq2
                    unfold q2 at H
                    replace H := bind4_hid H
                    obtain ⟨t_155a, t_155b, t_155c, t_155d, qt_155, H⟩ := H
                    go_wp2_with fail
                    go_at_call 20
                    refine (Go.Proofs.Ythkaeighfjadlaa.GsDrawIsRoute.C fuel tapes (code) A0 c0 _  HE (Lib.hid (Cells.below M0.out HBwq2.out)) N0 V0 qt_155).mono ?_
                    rintro e_t_155 wt_155 ⟨At_155a, ct_155a, At_155d, ct_155d, rfl, ot_155a, ⟨rm_t_155d, rn_t_155d, rq_t_155d⟩, bt_155⟩
                    have Dt_155a_t_5a := Lib.hid (apart_call ot_155a Ot_5a.out)
                    have Dt_155a_t_19a := Lib.hid (apart_call ot_155a Ot_19a.out)
                    have Dt_155a_t_29a := Lib.hid (apart_call ot_155a Ot_29a.out)
                    have Ot_155a := Lib.hid (own_lower ot_155a HBwq2.out.size)
                    clear ot_155a
                    have Ot_155d := Lib.hid rm_t_155d
                    have Nt_155d := Lib.hid rn_t_155d
                    have Qt_155d := Lib.hid rq_t_155d
                    clear rm_t_155d rq_t_155d
                    have HBwt_155 := Lib.hid (Below.step HBwq2.out bt_155)
                    replace Ot_5a := Lib.hid (own_below Ot_5a.out bt_155)
                    replace Ot_19a := Lib.hid (own_below Ot_19a.out bt_155)
                    replace Ot_29a := Lib.hid (own_below Ot_29a.out bt_155)
                    clear bt_155
                    replace H := bind2_hid H
                    obtain ⟨t_169a, t_169b, qt_169, H⟩ := H
                    go_wp2_with fail
                    go_at_call 21
                    refine (Go.Proofs.Ythkaeighfjadlaa.GiIsRoute.C (t_155a) (t_155b) (t_155c) (t_155d) At_155a ct_155a At_155d ct_155d _   (Lib.hid (own_cells Ot_155a.out)) (Lib.hid (own_max Ot_155a.out)) (Lib.hid (Ot_155d.out)) Nt_155d qt_169).mono ?_
                    rintro e_t_169 wt_169 ⟨rfl, bt_169⟩
                    have HBwt_169 := Lib.hid (Below.step HBwt_155.out bt_169)
                    replace Ot_5a := Lib.hid (own_below Ot_5a.out bt_169)
                    replace Ot_19a := Lib.hid (own_below Ot_19a.out bt_169)
                    replace Ot_29a := Lib.hid (own_below Ot_29a.out bt_169)
                    replace Ot_155a := Lib.hid (own_below Ot_155a.out bt_169)
                    replace Ot_155d := Lib.hid (Cells.below Ot_155d.out bt_169)
                    clear bt_169
                    replace H := bind2_hid H
                    obtain ⟨t_179a, t_179b, qt_179, H⟩ := H
                    go_wp2_with fail
                    go_at_call 22
                    refine (Go.Proofs.Ythkaeighfjadlaa.GsIsRoute.C (t_155a) (t_155b) (t_155c) (t_155d) At_155a ct_155a At_155d ct_155d _   (Lib.hid (own_cells Ot_155a.out)) (Lib.hid (own_max Ot_155a.out)) (Lib.hid (Ot_155d.out)) Nt_155d qt_179).mono ?_
                    rintro e_t_179 wt_179 ⟨rfl, bt_179⟩
                    have HBwt_179 := Lib.hid (Below.step HBwt_169.out bt_179)
                    replace Ot_5a := Lib.hid (own_below Ot_5a.out bt_179)
                    replace Ot_19a := Lib.hid (own_below Ot_19a.out bt_179)
                    replace Ot_29a := Lib.hid (own_below Ot_29a.out bt_179)
                    replace Ot_155a := Lib.hid (own_below Ot_155a.out bt_179)
                    replace Ot_155d := Lib.hid (Cells.below Ot_155d.out bt_179)
                    clear bt_179
                    go_upto_region 24 with fail
                    go_cut [201] (fun v201_ wr => ∃ (t_201q5 : Bool), v201_ = .bool t_201q5 ∧ Hid (q5 code fuel tapes false t_5a t_5b t_5c t_5d t_19a t_19b t_29a t_29b false t_56a t_56b t_66a t_66b false t_155a t_155b t_155c t_155d t_169a t_169b t_179a t_179b (t_201q5) = some r) ∧ Hid (Below w.heap.size w wr) ∧ Hid (wr.ownsRow w.heap.size 93 4 (.slice At_5a t_5a.length ct_5a) t_5a.length (Go.Proofs.Ythkaeighfjadlaa.PMail.flat t_5a)) ∧ Hid (wr.ownsRow w.heap.size 3 1 (.slice At_19a t_19a.length ct_19a) t_19a.length (Go.Proofs.Ythkaeighfjadlaa.HelpInt.iv t_19a)) ∧ Hid (wr.ownsRow w.heap.size 3 1 (.slice At_29a t_29a.length ct_29a) t_29a.length (Go.Proofs.Ythkaeighfjadlaa.HelpInt.iv t_29a)) ∧ Hid (wr.ownsRow w.heap.size 93 4 (.slice At_155a t_155a.length ct_155a) t_155a.length (Go.Proofs.Ythkaeighfjadlaa.PMail.flat t_155a)) ∧ Hid (Cells wr 1 At_155d t_155d.length (Go.Proofs.Ythkaeighfjadlaa.HelpInt.iv t_155d)))
                    case first =>
                      as_aux_lemma =>
                        replace H := let_hid H
                        obtain ⟨t_187, ht_187, H⟩ := H
                        replace H := join_hid H
                        cases t_187 with
                        | false =>
                          replace H := ite_f H
                          replace H := let_hid H
                          obtain ⟨t_191, ht_191, H⟩ := H
                          replace H := app_hid H
                          go_wp2_with fail
                          go_meet
                          case rel => exact ⟨_, rfl, H, HBwt_179, Ot_5a, Ot_19a, Ot_29a, Ot_155a, Ot_155d⟩
                        | true =>
                          replace H := ite_t H
                          replace H := app_hid H
                          go_wp2_with fail
                          go_meet
                          case rel => exact ⟨_, rfl, H, HBwt_179, Ot_5a, Ot_19a, Ot_29a, Ot_155a, Ot_155d⟩
                    case rest =>
                      as_aux_lemma =>
                        obtain ⟨t_201q5, rfl, H, HBwq5, Ot_5a, Ot_19a, Ot_29a, Ot_155a, Ot_155d⟩ := hcut
                        rename World => wq5
                        unfold q5 at H
                        replace H := let_hid H
                        obtain ⟨_, rfl, H⟩ := H
                        cases t_201q5 with
                        | false =>
                          replace H := ite_f H
                          replace H := bind3_hid H
                          obtain ⟨t_198a, t_198b, t_198c, qt_198, H⟩ := H
                          go_wp2_with fail
                          go_at_call 17
                          refine (Go.Proofs.Ythkaeighfjadlaa.GiEndOfRoute.C (t_155a) (t_155b) (t_155c) (t_155d) At_155a ct_155a At_155d ct_155d _   (Lib.hid (own_cells Ot_155a.out)) (Lib.hid (own_max Ot_155a.out)) (Lib.hid (Ot_155d.out)) Nt_155d qt_198).mono ?_
                          rintro e_t_198 wt_198 ⟨rfl, bt_198⟩
                          have HBwt_198 := Lib.hid (Below.step HBwq5.out bt_198)
                          replace Ot_5a := Lib.hid (own_below Ot_5a.out bt_198)
                          replace Ot_19a := Lib.hid (own_below Ot_19a.out bt_198)
                          replace Ot_29a := Lib.hid (own_below Ot_29a.out bt_198)
                          replace Ot_155a := Lib.hid (own_below Ot_155a.out bt_198)
                          replace Ot_155d := Lib.hid (Cells.below Ot_155d.out bt_198)
                          clear bt_198
                          replace H := bind3_hid H
                          obtain ⟨t_210a, t_210b, t_210c, qt_210, H⟩ := H
                          go_wp2_with fail
                          go_at_call 23
                          refine (Go.Proofs.Ythkaeighfjadlaa.GsEndOfRoute.C (t_155a) (t_155b) (t_155c) (t_155d) At_155a ct_155a At_155d ct_155d _   (Lib.hid (own_cells Ot_155a.out)) (Lib.hid (own_max Ot_155a.out)) (Lib.hid (Ot_155d.out)) Nt_155d qt_210).mono ?_
                          rintro e_t_210 wt_210 ⟨rfl, bt_210⟩
                          have HBwt_210 := Lib.hid (Below.step HBwt_198.out bt_210)
                          replace Ot_5a := Lib.hid (own_below Ot_5a.out bt_210)
                          replace Ot_19a := Lib.hid (own_below Ot_19a.out bt_210)
                          replace Ot_29a := Lib.hid (own_below Ot_29a.out bt_210)
                          replace Ot_155a := Lib.hid (own_below Ot_155a.out bt_210)
                          replace Ot_155d := Lib.hid (Cells.below Ot_155d.out bt_210)
                          clear bt_210
                          go_upto_region 28 with fail
                          go_cut [239] (fun v239_ wr => ∃ (t_239q6 : Bool), v239_ = .bool t_239q6 ∧ Hid (q6 code fuel tapes false t_5a t_5b t_5c t_5d t_19a t_19b t_29a t_29b false t_56a t_56b t_66a t_66b false t_155a t_155b t_155c t_155d t_169a t_169b t_179a t_179b false t_198a t_198b t_198c t_210a t_210b t_210c (t_239q6) = some r) ∧ Hid (Below w.heap.size w wr) ∧ Hid (wr.ownsRow w.heap.size 93 4 (.slice At_5a t_5a.length ct_5a) t_5a.length (Go.Proofs.Ythkaeighfjadlaa.PMail.flat t_5a)) ∧ Hid (wr.ownsRow w.heap.size 3 1 (.slice At_19a t_19a.length ct_19a) t_19a.length (Go.Proofs.Ythkaeighfjadlaa.HelpInt.iv t_19a)) ∧ Hid (wr.ownsRow w.heap.size 3 1 (.slice At_29a t_29a.length ct_29a) t_29a.length (Go.Proofs.Ythkaeighfjadlaa.HelpInt.iv t_29a)) ∧ Hid (wr.ownsRow w.heap.size 93 4 (.slice At_155a t_155a.length ct_155a) t_155a.length (Go.Proofs.Ythkaeighfjadlaa.PMail.flat t_155a)) ∧ Hid (Cells wr 1 At_155d t_155d.length (Go.Proofs.Ythkaeighfjadlaa.HelpInt.iv t_155d)))
                          case first =>
                            as_aux_lemma =>
                              replace H := let_hid H
                              obtain ⟨t_220, ht_220, H⟩ := H
                              replace H := join_hid H
                              cases t_220 with
                              | false =>
                                replace H := ite_f H
                                replace H := let_hid H
                                obtain ⟨t_224, ht_224, H⟩ := H
                                replace H := app_hid H
                                replace H := join_hid H
                                cases t_224 with
                                | false =>
                                  replace H := ite_f H
                                  replace H := let_hid H
                                  obtain ⟨t_229, ht_229, H⟩ := H
                                  replace H := app_hid H
                                  replace H := join_hid H
                                  cases t_229 with
                                  | false =>
                                    replace H := ite_f H
                                    replace H := join_hid H
                                    cases t_169a with
                                    | false =>
                                      replace H := ite_f H
                                      replace H := app_hid H
                                      replace H := app_hid H
                                      go_wp2_with fail
                                      go_meet
                                      case rel => exact ⟨_, rfl, H, HBwt_210, Ot_5a, Ot_19a, Ot_29a, Ot_155a, Ot_155d⟩
                                    | true =>
                                      replace H := ite_t H
                                      cases t_198c with
                                      | false =>
                                        obtain rfl : t_210c = false := by revert ht_229; cases t_210c <;> simp
                                        replace H := let_hid H
                                        obtain ⟨t_235, ht_235, H⟩ := H
                                        obtain rfl : t_235 = true := ht_235.symm
                                        replace H := app_hid H
                                        replace H := app_hid H
                                        go_wp2_with fail
                                        go_meet
                                        case rel => exact ⟨_, rfl, H, HBwt_210, Ot_5a, Ot_19a, Ot_29a, Ot_155a, Ot_155d⟩
                                      | true =>
                                        obtain rfl : t_210c = true := by revert ht_229; cases t_210c <;> simp
                                        replace H := let_hid H
                                        obtain ⟨t_235, ht_235, H⟩ := H
                                        obtain rfl : t_235 = false := ht_235.symm
                                        replace H := app_hid H
                                        replace H := app_hid H
                                        go_wp2_with fail
                                        go_meet
                                        case rel => exact ⟨_, rfl, H, HBwt_210, Ot_5a, Ot_19a, Ot_29a, Ot_155a, Ot_155d⟩
                                  | true =>
                                    replace H := ite_t H
                                    replace H := app_hid H
                                    go_wp2_with fail
                                    go_meet
                                    case rel => exact ⟨_, rfl, H, HBwt_210, Ot_5a, Ot_19a, Ot_29a, Ot_155a, Ot_155d⟩
                                | true =>
                                  replace H := ite_t H
                                  replace H := app_hid H
                                  replace H := join_hid H
                                  replace H := ite_t H
                                  replace H := app_hid H
                                  go_wp2_with fail
                                  go_meet
                                  case rel => exact ⟨_, rfl, H, HBwt_210, Ot_5a, Ot_19a, Ot_29a, Ot_155a, Ot_155d⟩
                              | true =>
                                replace H := ite_t H
                                replace H := app_hid H
                                replace H := join_hid H
                                replace H := ite_t H
                                replace H := app_hid H
                                replace H := join_hid H
                                replace H := ite_t H
                                replace H := app_hid H
                                go_wp2_with fail
                                go_meet
                                case rel => exact ⟨_, rfl, H, HBwt_210, Ot_5a, Ot_19a, Ot_29a, Ot_155a, Ot_155d⟩
                          case rest =>
                            as_aux_lemma =>
                              obtain ⟨t_239q6, rfl, H, HBwq6, Ot_5a, Ot_19a, Ot_29a, Ot_155a, Ot_155d⟩ := hcut
                              rename World => wq6
                              unfold q6 at H
                              replace H := let_hid H
                              obtain ⟨_, rfl, H⟩ := H
                              cases t_239q6 with
                              | false =>
                                replace H := ite_f H
                                cases t_198c with
                                | false =>
                                  replace H := ite_f H
                                  unfold j7 at H
                                  obtain rfl := ret_hid H
                                  go_wp2_with fail
                                  go_ret
                                  exact ⟨rfl, HBwq6.out⟩
                                | true =>
                                  replace H := ite_t H
                                  replace H := bind2_hid H
                                  obtain ⟨t_244a, t_244b, qt_244, H⟩ := H
                                  go_wp2_with fail
                                  go_at_call 15
                                  refine (Go.Proofs.Ythkaeighfjadlaa.GiEarliestAt.C (t_155a) (t_155b) (t_155c) (t_198a) At_155a ct_155a _   (Lib.hid (own_cells Ot_155a.out)) (Lib.hid (own_max Ot_155a.out)) qt_244).mono ?_
                                  rintro e_t_244 wt_244 ⟨rfl, bt_244⟩
                                  have HBwt_244 := Lib.hid (Below.step HBwq6.out bt_244)
                                  replace Ot_5a := Lib.hid (own_below Ot_5a.out bt_244)
                                  replace Ot_19a := Lib.hid (own_below Ot_19a.out bt_244)
                                  replace Ot_29a := Lib.hid (own_below Ot_29a.out bt_244)
                                  replace Ot_155a := Lib.hid (own_below Ot_155a.out bt_244)
                                  replace Ot_155d := Lib.hid (Cells.below Ot_155d.out bt_244)
                                  clear bt_244
                                  replace H := bind2_hid H
                                  obtain ⟨t_254a, t_254b, qt_254, H⟩ := H
                                  go_wp2_with fail
                                  go_at_call 24
                                  refine (Go.Proofs.Ythkaeighfjadlaa.GiWaitsOn.C (t_155a) (t_155b) (t_155c) (t_155d) At_155a ct_155a At_155d ct_155d _   (Lib.hid (own_cells Ot_155a.out)) (Lib.hid (own_max Ot_155a.out)) (Lib.hid (Ot_155d.out)) Nt_155d qt_254).mono ?_
                                  rintro e_t_254 wt_254 ⟨rfl, bt_254⟩
                                  have HBwt_254 := Lib.hid (Below.step HBwt_244.out bt_254)
                                  replace Ot_5a := Lib.hid (own_below Ot_5a.out bt_254)
                                  replace Ot_19a := Lib.hid (own_below Ot_19a.out bt_254)
                                  replace Ot_29a := Lib.hid (own_below Ot_29a.out bt_254)
                                  replace Ot_155a := Lib.hid (own_below Ot_155a.out bt_254)
                                  replace Ot_155d := Lib.hid (Cells.below Ot_155d.out bt_254)
                                  clear bt_254
                                  replace H := bind2_hid H
                                  obtain ⟨t_264a, t_264b, qt_264, H⟩ := H
                                  go_wp2_with fail
                                  go_at_call 25
                                  refine (Go.Proofs.Ythkaeighfjadlaa.GsWaitsOn.C (t_155a) (t_155b) (t_155c) (t_155d) At_155a ct_155a At_155d ct_155d _   (Lib.hid (own_cells Ot_155a.out)) (Lib.hid (own_max Ot_155a.out)) (Lib.hid (Ot_155d.out)) Nt_155d qt_264).mono ?_
                                  rintro e_t_264 wt_264 ⟨rfl, bt_264⟩
                                  have HBwt_264 := Lib.hid (Below.step HBwt_254.out bt_264)
                                  replace Ot_5a := Lib.hid (own_below Ot_5a.out bt_264)
                                  replace Ot_19a := Lib.hid (own_below Ot_19a.out bt_264)
                                  replace Ot_29a := Lib.hid (own_below Ot_29a.out bt_264)
                                  replace Ot_155a := Lib.hid (own_below Ot_155a.out bt_264)
                                  replace Ot_155d := Lib.hid (Cells.below Ot_155d.out bt_264)
                                  clear bt_264
                                  go_upto_region 34 with fail
                                  go_cut [296] (fun v296_ wr => ∃ (t_296q8 : Bool), v296_ = .bool t_296q8 ∧ Hid (q8 code fuel tapes false t_5a t_5b t_5c t_5d t_19a t_19b t_29a t_29b false t_56a t_56b t_66a t_66b false t_155a t_155b t_155c t_155d t_169a t_169b t_179a t_179b false t_198a t_198b true t_210a t_210b t_210c false t_244a t_244b t_254a t_254b t_264a t_264b (t_296q8) = some r) ∧ Hid (Below w.heap.size w wr) ∧ Hid (wr.ownsRow w.heap.size 93 4 (.slice At_5a t_5a.length ct_5a) t_5a.length (Go.Proofs.Ythkaeighfjadlaa.PMail.flat t_5a)) ∧ Hid (wr.ownsRow w.heap.size 3 1 (.slice At_19a t_19a.length ct_19a) t_19a.length (Go.Proofs.Ythkaeighfjadlaa.HelpInt.iv t_19a)) ∧ Hid (wr.ownsRow w.heap.size 3 1 (.slice At_29a t_29a.length ct_29a) t_29a.length (Go.Proofs.Ythkaeighfjadlaa.HelpInt.iv t_29a)) ∧ Hid (wr.ownsRow w.heap.size 93 4 (.slice At_155a t_155a.length ct_155a) t_155a.length (Go.Proofs.Ythkaeighfjadlaa.PMail.flat t_155a)) ∧ Hid (Cells wr 1 At_155d t_155d.length (Go.Proofs.Ythkaeighfjadlaa.HelpInt.iv t_155d)))
                                  case first =>
                                    as_aux_lemma =>
                                      replace H := let_hid H
                                      obtain ⟨t_272, ht_272, H⟩ := H
                                      replace H := join_hid H
                                      cases t_272 with
                                      | false =>
                                        replace H := ite_f H
                                        replace H := let_hid H
                                        obtain ⟨t_276, ht_276, H⟩ := H
                                        replace H := app_hid H
                                        replace H := join_hid H
                                        cases t_276 with
                                        | false =>
                                          replace H := ite_f H
                                          cases t_244b with
                                          | false =>
                                            replace H := let_hid H
                                            obtain ⟨t_280, ht_280, H⟩ := H
                                            obtain rfl : t_280 = true := ht_280.symm
                                            replace H := app_hid H
                                            replace H := join_hid H
                                            replace H := ite_t H
                                            replace H := app_hid H
                                            replace H := join_hid H
                                            replace H := ite_t H
                                            replace H := app_hid H
                                            replace H := join_hid H
                                            replace H := ite_t H
                                            replace H := app_hid H
                                            replace H := join_hid H
                                            replace H := ite_t H
                                            replace H := app_hid H
                                            go_wp2_with fail
                                            go_meet
                                            case rel => exact ⟨_, rfl, H, HBwt_264, Ot_5a, Ot_19a, Ot_29a, Ot_155a, Ot_155d⟩
                                          | true =>
                                            replace H := let_hid H
                                            obtain ⟨t_280, ht_280, H⟩ := H
                                            obtain rfl : t_280 = false := ht_280.symm
                                            replace H := app_hid H
                                            replace H := join_hid H
                                            replace H := ite_f H
                                            replace H := let_hid H
                                            obtain ⟨t_285, ht_285, H⟩ := H
                                            replace H := app_hid H
                                            replace H := join_hid H
                                            cases t_285 with
                                            | false =>
                                              replace H := ite_f H
                                              cases t_254b with
                                              | false =>
                                                obtain rfl : t_264b = false := by revert ht_276; cases t_264b <;> simp
                                                replace H := let_hid H
                                                obtain ⟨t_289, ht_289, H⟩ := H
                                                obtain rfl : t_289 = true := ht_289.symm
                                                replace H := app_hid H
                                                replace H := join_hid H
                                                replace H := ite_t H
                                                replace H := app_hid H
                                                replace H := join_hid H
                                                replace H := ite_t H
                                                replace H := app_hid H
                                                go_wp2_with fail
                                                go_meet
                                                case rel => exact ⟨_, rfl, H, HBwt_264, Ot_5a, Ot_19a, Ot_29a, Ot_155a, Ot_155d⟩
                                              | true =>
                                                obtain rfl : t_264b = true := by revert ht_276; cases t_264b <;> simp
                                                replace H := let_hid H
                                                obtain ⟨t_289, ht_289, H⟩ := H
                                                obtain rfl : t_289 = false := ht_289.symm
                                                replace H := app_hid H
                                                replace H := join_hid H
                                                replace H := ite_f H
                                                replace H := let_hid H
                                                obtain ⟨t_293, ht_293, H⟩ := H
                                                replace H := app_hid H
                                                replace H := join_hid H
                                                cases t_293 with
                                                | false =>
                                                  replace H := ite_f H
                                                  replace H := let_hid H
                                                  obtain ⟨t_299, ht_299, H⟩ := H
                                                  replace H := let_hid H
                                                  obtain ⟨t_300, ht_300, H⟩ := H
                                                  replace H := app_hid H
                                                  go_wp2_with fail
                                                  go_meet
                                                  case rel => exact ⟨_, rfl, H, HBwt_264, Ot_5a, Ot_19a, Ot_29a, Ot_155a, Ot_155d⟩
                                                | true =>
                                                  replace H := ite_t H
                                                  replace H := app_hid H
                                                  go_wp2_with fail
                                                  go_meet
                                                  case rel => exact ⟨_, rfl, H, HBwt_264, Ot_5a, Ot_19a, Ot_29a, Ot_155a, Ot_155d⟩
                                            | true =>
                                              replace H := ite_t H
                                              replace H := app_hid H
                                              replace H := join_hid H
                                              replace H := ite_t H
                                              replace H := app_hid H
                                              replace H := join_hid H
                                              replace H := ite_t H
                                              replace H := app_hid H
                                              go_wp2_with fail
                                              go_meet
                                              case rel => exact ⟨_, rfl, H, HBwt_264, Ot_5a, Ot_19a, Ot_29a, Ot_155a, Ot_155d⟩
                                        | true =>
                                          replace H := ite_t H
                                          replace H := app_hid H
                                          replace H := join_hid H
                                          replace H := ite_t H
                                          replace H := app_hid H
                                          replace H := join_hid H
                                          replace H := ite_t H
                                          replace H := app_hid H
                                          replace H := join_hid H
                                          replace H := ite_t H
                                          replace H := app_hid H
                                          replace H := join_hid H
                                          replace H := ite_t H
                                          replace H := app_hid H
                                          go_wp2_with fail
                                          go_meet
                                          case rel => exact ⟨_, rfl, H, HBwt_264, Ot_5a, Ot_19a, Ot_29a, Ot_155a, Ot_155d⟩
                                      | true =>
                                        replace H := ite_t H
                                        replace H := app_hid H
                                        replace H := join_hid H
                                        replace H := ite_t H
                                        replace H := app_hid H
                                        replace H := join_hid H
                                        replace H := ite_t H
                                        replace H := app_hid H
                                        replace H := join_hid H
                                        replace H := ite_t H
                                        replace H := app_hid H
                                        replace H := join_hid H
                                        replace H := ite_t H
                                        replace H := app_hid H
                                        replace H := join_hid H
                                        replace H := ite_t H
                                        replace H := app_hid H
                                        go_wp2_with fail
                                        go_meet
                                        case rel => exact ⟨_, rfl, H, HBwt_264, Ot_5a, Ot_19a, Ot_29a, Ot_155a, Ot_155d⟩
                                  case rest =>
                                    as_aux_lemma =>
                                      obtain ⟨t_296q8, rfl, H, HBwq8, Ot_5a, Ot_19a, Ot_29a, Ot_155a, Ot_155d⟩ := hcut
                                      rename World => wq8
                                      unfold q8 at H
                                      replace H := let_hid H
                                      obtain ⟨_, rfl, H⟩ := H
                                      cases t_296q8 with
                                      | false =>
                                        replace H := ite_f H
                                        unfold j7 at H
                                        obtain rfl := ret_hid H
                                        go_wp2_with fail
                                        go_ret
                                        exact ⟨rfl, HBwq8.out⟩
                                      | true =>
                                        replace H := ite_t H
                                        obtain rfl := ret_hid H
                                        go_wp2_with fail
                                        go_ret
                                        exact ⟨rfl, HBwq8.out⟩
                              | true =>
                                replace H := ite_t H
                                obtain rfl := ret_hid H
                                go_wp2_with fail
                                go_ret
                                exact ⟨rfl, HBwq6.out⟩
                        | true =>
                          replace H := ite_t H
                          obtain rfl := ret_hid H
                          go_wp2_with fail
                          go_ret
                          exact ⟨rfl, HBwq5.out⟩
              | true =>
                replace H := ite_t H
                obtain rfl := ret_hid H
                go_wp2_with fail
                go_ret
                exact ⟨rfl, HBwq1.out⟩
        | true =>
          replace H := ite_t H
          obtain rfl := ret_hid H
          go_wp2_with fail
          go_ret
          exact ⟨rfl, HBwq0.out⟩
  | true =>
    replace H := ite_t H
    obtain rfl := ret_hid H
    go_wp2_with fail
    go_ret
    exact ⟨rfl, HBwt_2.out⟩
end Go.Proofs.Ythkaeighfjadlaa.GlFnRoutes

/- Plain words on stamps: what a stamp is, when one is valid, when a list of them is; the cells of a list of records. No condition. -/
namespace Go.Proofs.Ythkaeighfjadlaa.PlainStamp
set_option linter.unusedVariables false

/-- a number lies in a..b -/
def inB (x a b : Int) : Bool := decide (a ≤ x ∧ x ≤ b)
theorem inB_yes {x a b : Int} (h1 : a ≤ x) (h2 : x ≤ b) : inB x a b = true := by unfold inB; exact decide_eq_true ⟨h1, h2⟩
theorem inB_of {x a b : Int} (h : inB x a b = true) : a ≤ x ∧ x ≤ b := by unfold inB at h; exact of_decide_eq_true h
theorem inB_no {x a b : Int} (h : x < a ∨ b < x) : inB x a b = false := by unfold inB; exact decide_eq_false (by omega)

structure St where
  id : Int
  face : Int
  color : Int
  year : Int
deriving DecidableEq

def St.cells (s : St) : List Value := [.int .i64 s.id, .int .i64 s.face, .int .i64 s.color, .int .i64 s.year]
def St.val (s : St) : Value := .agg #[.int .i64 s.id, .int .i64 s.face, .int .i64 s.color, .int .i64 s.year]
/-- each field fits an int -/
def St.fits (s : St) : Prop := (Lit.int .i64 s.id).wf = true ∧ (Lit.int .i64 s.face).wf = true ∧ (Lit.int .i64 s.color).wf = true ∧ (Lit.int .i64 s.year).wf = true

def okSt (s : St) : Bool := inB s.id 1 999 && inB s.face 0 9999 && inB s.color 0 99 && inB s.year 1840 2100
theorem okSt_yes {s : St} (h : okSt s = true) : (1 ≤ s.id ∧ s.id ≤ 999) ∧ (0 ≤ s.face ∧ s.face ≤ 9999) ∧ (0 ≤ s.color ∧ s.color ≤ 99) ∧ (1840 ≤ s.year ∧ s.year ≤ 2100) := by
  unfold okSt at h
  simp only [Bool.and_eq_true] at h
  exact ⟨inB_of h.1.1.1, inB_of h.1.1.2, inB_of h.1.2, inB_of h.2⟩

/-- the stamp at k is valid, and its id is above the one ahead of it -/
def okAt (l : List St) (k : Nat) : Bool :=
  match l[k]? with
  | none => true
  | some s => okSt s && (decide (k = 0) || (match l[k-1]? with | none => true | some r => decide (r.id < s.id)))
def okUp (l : List St) (k : Nat) : Bool := (List.range k).all (okAt l)
theorem okUp_zero (l : List St) : okUp l 0 = true := by simp [okUp]
theorem okUp_succ (l : List St) (k : Nat) : okUp l (k + 1) = (okUp l k && okAt l k) := by simp [okUp, List.range_succ, List.all_append]
theorem okUp_not {l : List St} {k n : Nat} (h : okAt l k = false) (hk : k < n) : okUp l n = false := by
  unfold okUp
  rw [Bool.eq_false_iff]
  intro hall
  have := List.all_eq_true.1 hall k (List.mem_range.2 hk)
  rw [h] at this; exact absurd this (by simp)
/-- a list of at most twelve valid stamps with rising ids -/
def okSts (l : List St) : Bool := decide (l.length ≤ 12) && okUp l l.length
theorem okAt_of {l : List St} {k : Nat} {s : St} (hs : l[k]? = some s) (h : okAt l k = true) : okSt s = true ∧ ∀ r, 0 < k → l[k-1]? = some r → r.id < s.id := by
  unfold okAt at h
  rw [hs] at h
  simp only [Bool.and_eq_true, Bool.or_eq_true, decide_eq_true_eq] at h
  refine ⟨h.1, fun r hk hr => ?_⟩
  rcases h.2 with h0 | h0
  · omega
  · rw [hr] at h0; simpa using h0
theorem okSts_len {l : List St} (h : okSts l = true) : l.length ≤ 12 := by unfold okSts at h; simp only [Bool.and_eq_true, decide_eq_true_eq] at h; exact h.1
theorem okSts_at {l : List St} (h : okSts l = true) {k : Nat} {s : St} (hs : l[k]? = some s) : okSt s = true ∧ ∀ r, 0 < k → l[k-1]? = some r → r.id < s.id := by
  unfold okSts at h
  simp only [Bool.and_eq_true, decide_eq_true_eq] at h
  exact okAt_of hs (List.all_eq_true.1 h.2 k (List.mem_range.2 (List.getElem?_eq_some_iff.1 hs).1))
theorem okSts_mem {l : List St} (h : okSts l = true) {s : St} (hs : s ∈ l) : okSt s = true := by
  obtain ⟨k, hk⟩ := List.getElem?_of_mem hs
  exact (okSts_at h hk).1

/-- the cells of a list of stamps, one after the other -/
def flat (l : List St) : List Value := l.flatMap St.cells
theorem flat_nil : flat [] = [] := rfl
theorem flat_cons (s : St) (l : List St) : flat (s :: l) = s.cells ++ flat l := by simp [flat]
theorem flat_len (l : List St) : (flat l).length = l.length * 4 := by
  induction l with
  | nil => rfl
  | cons s l ih => rw [flat_cons, List.length_append, ih]; simp [St.cells]; omega
theorem flat_at : ∀ (l : List St) (k : Nat) (s : St), l[k]? = some s → ∀ j, j < 4 → (flat l)[k * 4 + j]? = s.cells[j]?
  | [], k, s, h, _, _ => by simp at h
  | r :: l, 0, s, h, j, hj => by
    obtain rfl : r = s := by simpa using h
    rw [flat_cons, List.getElem?_append_left (by simp [St.cells]; omega)]; simp
  | r :: l, k + 1, s, h, j, hj => by
    rw [flat_cons, List.getElem?_append_right (by simp [St.cells]; omega), show (k + 1) * 4 + j - r.cells.length = k * 4 + j by simp [St.cells]; omega]
    exact flat_at l k s (by simpa using h) j hj
end Go.Proofs.Ythkaeighfjadlaa.PlainStamp

/- Words for reckoning with plain functions; within and l1In. No condition. -/
namespace Go.Proofs.Ythkaeighfjadlaa.QBase
set_option linter.unusedVariables false
set_option linter.unusedSimpArgs false
open Go.RowKit
open Go.Proofs.Ythkaeighfjadlaa.GoP Go.Proofs.Ythkaeighfjadlaa.PlainStamp

theorem iteK_if {ρ : Type} (c : Bool) (a b : Option ρ) : iteK c a b = if c = true then a else b := by cases c <;> rfl
theorem bind2_some {α β ρ : Type} (a : α) (b : β) (f : α → β → Option ρ) : bind2 (some (a, b)) f = f a b := rfl
theorem bind3_some {α β γ ρ : Type} (a : α) (b : β) (c : γ) (f : α → β → γ → Option ρ) : bind3 (some (a, b, c)) f = f a b c := rfl
theorem unp2_mk {α β ρ : Type} (a : α) (b : β) (f : α → β → Option ρ) : unp2 (a, b) f = f a b := rfl
theorem unp3_mk {α β γ ρ : Type} (a : α) (b : β) (c : γ) (f : α → β → γ → Option ρ) : unp3 (a, b, c) f = f a b c := rfl
theorem guardK_pos {ρ : Type} {p : Prop} [Decidable p] {a : Option ρ} (h : p) : guardK p a = a := if_pos h
theorem cut2 {α β : Type} {x : Option (α × β)} {p : α × β} (h : x = some p) : x = some (p.1, p.2) := h
theorem cut3 {α β γ : Type} {x : Option (α × β × γ)} {p : α × β × γ} (h : x = some p) : x = some (p.1, p.2.1, p.2.2) := h
theorem within_eq (n a b : Int) : GiWithin.P n a b = some (inB n a b) := by
  simp only [GiWithin.P, letK, joinK, appK, iteK_if, inB]
  by_cases h1 : a ≤ n <;> by_cases h2 : n ≤ b <;> simp [h1, h2]
theorem l1In_eq (n a b : Int) : GsL1In.P n a b = some (inB n a b) := by
  simp only [GsL1In.P, letK, joinK, appK, iteK_if, inB]
  by_cases h1 : a ≤ n <;> by_cases h2 : n ≤ b <;> simp [h1, h2]
end Go.Proofs.Ythkaeighfjadlaa.QBase

/- Reckoning with the loops of plain functions; lists of valid records with rising ids. No condition. -/
namespace Go.Proofs.Ythkaeighfjadlaa.QLoop
set_option linter.unusedVariables false
open Go.RowKit
open Go.Proofs.Ythkaeighfjadlaa.GoP Go.Proofs.Ythkaeighfjadlaa.QBase

theorem cnt_ex {σ ρ : Type} {f : Nat → σ → (σ → Option ρ) → (σ → Option ρ) → Option ρ} {fin : σ → Option ρ} {Q : ρ → Prop} {n : Nat} (I : Nat → σ → Prop)
    (step : ∀ k s nx, k < n → I k s → (∀ s', I (k + 1) s' → ∃ r, nx s' = some r ∧ Q r) → ∃ r, f k s nx fin = some r ∧ Q r) (done : ∀ s, I n s → ∃ r, fin s = some r ∧ Q r) :
    ∀ m k s, k + m = n → I k s → ∃ r, cntK f m k s fin = some r ∧ Q r := by
  intro m
  induction m with
  | zero => intro k s hk hI; obtain rfl : k = n := by omega
            exact done s hI
  | succ m ih => intro k s hk hI; exact step k s _ (by omega) hI (fun s' h' => ih (k + 1) s' (by omega) h')
theorem cnt_is {σ ρ : Type} {f : Nat → σ → (σ → Option ρ) → (σ → Option ρ) → Option ρ} {fin : σ → Option ρ} {n : Nat} (r : ρ) (I : Nat → σ → Prop)
    (step : ∀ k s nx, k < n → I k s → (∀ s', I (k + 1) s' → nx s' = some r) → f k s nx fin = some r) (done : ∀ s, I n s → fin s = some r) (s : σ) (h0 : I 0 s) : cntK f n 0 s fin = some r := by
  obtain ⟨r', h, rfl⟩ := cnt_ex (Q := fun x => x = r) I (fun k s nx hk hI hn => ⟨r, step k s nx hk hI (fun s' h' => by obtain ⟨_, h, rfl⟩ := hn s' h'; exact h), rfl⟩) (fun s h => ⟨r, done s h, rfl⟩) n 0 s (by omega) h0
  exact h
theorem at_lt {α : Type} {l : List α} {k : Nat} (h : k < l.length) : ∃ x, l[k]? = some x ∧ idx l (k : Int) = some x := ⟨l[k], List.getElem?_eq_getElem h, by rw [idx_nat, List.getElem?_eq_getElem h]⟩
theorem idx_pred {α : Type} {l : List α} {k : Nat} {x : α} (hk : 0 < k) (hb : k ≤ 9223372036854775807) (h : l[k - 1]? = some x) : idx l (IntKind.i64.wrap ((k : Int) - 1)) = some x := by
  rw [IntWalk.i64_in _ (by omega), show ((k : Int) - 1) = ((k - 1 : Nat) : Int) by omega, idx_nat, h]
theorem take_next {α : Type} {l : List α} {k : Nat} {x : α} (h : l[k]? = some x) : l.take (k + 1) = l.take k ++ [x] := by
  obtain ⟨hk, e⟩ := List.getElem?_eq_some_iff.1 h
  rw [List.take_succ_eq_append_getElem hk, e]
theorem all_next {α : Type} {p : α → Bool} {l : List α} {k : Nat} {x : α} (h : l[k]? = some x) : (l.take (k + 1)).all p = ((l.take k).all p && p x) := by
  rw [take_next h]; simp
theorem not_all {α : Type} {p : α → Bool} {l : List α} {k : Nat} {x : α} (h : l[k]? = some x) (hp : p x = false) : l.all p = false := by
  rw [Bool.eq_false_iff]
  intro ha
  have := List.all_eq_true.1 ha x (List.mem_of_getElem? h)
  rw [hp] at this; exact absurd this (by simp)
theorem wrap_in {x : Int} (h1 : -9223372036854775808 ≤ x) (h2 : x ≤ 9223372036854775807) : IntKind.i64.wrap x = x := IntWalk.i64_in _ (by omega)

/-- valid, and above the one ahead of it -/
def upAt {α : Type} (ok : α → Bool) (id : α → Int) (l : List α) (k : Nat) : Bool :=
  match l[k]? with
  | none => true
  | some s => ok s && (decide (k = 0) || (match l[k-1]? with | none => true | some r => decide (id r < id s)))
def upTo {α : Type} (ok : α → Bool) (id : α → Int) (l : List α) (k : Nat) : Bool := (List.range k).all (upAt ok id l)
theorem upTo_zero {α : Type} (ok : α → Bool) (id : α → Int) (l : List α) : upTo ok id l 0 = true := rfl
theorem upTo_succ {α : Type} (ok : α → Bool) (id : α → Int) (l : List α) (k : Nat) : upTo ok id l (k + 1) = (upTo ok id l k && upAt ok id l k) := by simp [upTo, List.range_succ, List.all_append]
theorem upTo_not {α : Type} {ok : α → Bool} {id : α → Int} {l : List α} {k n : Nat} (h : upAt ok id l k = false) (hk : k < n) : upTo ok id l n = false := by
  unfold upTo
  rw [Bool.eq_false_iff]
  intro ha
  have := List.all_eq_true.1 ha k (List.mem_range.2 hk)
  rw [h] at this; exact absurd this (by simp)
/-- a list of at most m valid records with rising ids -/
def upL {α : Type} (m : Nat) (ok : α → Bool) (id : α → Int) (l : List α) : Bool := decide (l.length ≤ m) && upTo ok id l l.length
theorem upAt_bad {α : Type} {ok : α → Bool} {id : α → Int} {l : List α} {k : Nat} {s : α} (hs : l[k]? = some s) (h : ok s = false) : upAt ok id l k = false := by unfold upAt; rw [hs]; simp [h]
theorem upAt_first {α : Type} {ok : α → Bool} {id : α → Int} {l : List α} {s : α} (hs : l[0]? = some s) (h : ok s = true) : upAt ok id l 0 = true := by unfold upAt; rw [hs]; simp [h]
theorem upAt_next {α : Type} {ok : α → Bool} {id : α → Int} {l : List α} {k : Nat} {s r : α} (hs : l[k]? = some s) (hr : l[k-1]? = some r) (hk : 0 < k) (h : ok s = true) : upAt ok id l k = decide (id r < id s) := by
  unfold upAt; rw [hs]; simp only [hr, h, Bool.true_and, decide_eq_false (show ¬ k = 0 by omega), Bool.false_or]
theorem upL_len {α : Type} {m : Nat} {ok : α → Bool} {id : α → Int} {l : List α} (h : upL m ok id l = true) : l.length ≤ m := by unfold upL at h; simp only [Bool.and_eq_true, decide_eq_true_eq] at h; exact h.1
theorem upL_ok {α : Type} {m : Nat} {ok : α → Bool} {id : α → Int} {l : List α} (h : upL m ok id l = true) {k : Nat} {s : α} (hs : l[k]? = some s) : ok s = true := by
  unfold upL at h
  simp only [Bool.and_eq_true, decide_eq_true_eq] at h
  have := List.all_eq_true.1 h.2 k (List.mem_range.2 (List.getElem?_eq_some_iff.1 hs).1)
  unfold upAt at this
  rw [hs] at this
  simp only [Bool.and_eq_true] at this
  exact this.1
theorem upL_mem {α : Type} {m : Nat} {ok : α → Bool} {id : α → Int} {l : List α} (h : upL m ok id l = true) {s : α} (hs : s ∈ l) : ok s = true := by
  obtain ⟨k, hk⟩ := List.getElem?_of_mem hs
  exact upL_ok h hk
/-- a loop that goes through a list of records and stops with 'false' at the first that is bad -/
theorem up_loop {α : Type} {ok : α → Bool} {id : α → Int} {l : List α} {R : Type} {no : R} {f : Nat → Unit → (Unit → Option R) → (Unit → Option R) → Option R} {fin : Unit → Option R}
    (step : ∀ k nx s, l[k]? = some s → (ok s = false → f k () nx fin = some no) ∧ (ok s = true → (k = 0 → f k () nx fin = nx ()) ∧ (0 < k → ∀ r, l[k-1]? = some r → (id r < id s → f k () nx fin = nx ()) ∧ (id s ≤ id r → f k () nx fin = some no)))) :
    cntK f l.length 0 () fin = if upTo ok id l l.length then fin () else some no := by
  have key : ∀ m k, k + m = l.length → upTo ok id l k = true → cntK f m k () fin = if upTo ok id l l.length then fin () else some no := by
    intro m
    induction m with
    | zero => intro k hk hu; obtain rfl : k = l.length := by omega
              rw [hu]; rfl
    | succ m ih =>
      intro k hk hu
      have hlt : k < l.length := by omega
      obtain ⟨s, hs, _⟩ := at_lt hlt
      obtain ⟨h1, h2⟩ := step k (fun s' => cntK f m (k + 1) s' fin) s hs
      show f k () _ fin = _
      cases hok : ok s with
      | false => rw [h1 hok, upTo_not (upAt_bad hs hok) hlt]; rfl
      | true =>
        obtain ⟨h3, h4⟩ := h2 hok
        by_cases hk0 : k = 0
        · rw [h3 hk0]
          subst hk0
          exact ih 1 (by omega) (by rw [upTo_succ, hu, upAt_first hs hok]; rfl)
        · obtain ⟨r, hr, _⟩ := at_lt (l := l) (k := k - 1) (by omega)
          obtain ⟨h5, h6⟩ := h4 (by omega) r hr
          by_cases hlt2 : id r < id s
          · rw [h5 hlt2]
            exact ih (k + 1) (by omega) (by rw [upTo_succ, hu, upAt_next hs hr (by omega) hok]; simpa using hlt2)
          · rw [h6 (by omega), upTo_not (by rw [upAt_next hs hr (by omega) hok]; simpa using hlt2) hlt]; rfl
  exact key l.length 0 (by omega) (upTo_zero ok id l)
end Go.Proofs.Ythkaeighfjadlaa.QLoop

/- The named law of mails: what it draws, and why it answers true. (QVInts) No condition but those of each theorem. -/
namespace Go.Proofs.Ythkaeighfjadlaa.QVInts
set_option linter.unusedVariables false
set_option linter.unusedSimpArgs false
open Go.RowKit
open Go.Proofs.Ythkaeighfjadlaa.GoP Go.Proofs.Ythkaeighfjadlaa.PlainStamp Go.Proofs.Ythkaeighfjadlaa.QBase Go.Proofs.Ythkaeighfjadlaa.QLoop

theorem vInts_self (l : List Int) : GlVInts.P l l = some true := by
  simp only [GlVInts.P, letK, iteK_if]
  rw [if_neg (by simp)]
  refine cnt_is true (fun _ _ => True) ?_ (fun s _ => rfl) () trivial
  rintro k ⟨⟩ nx hk _ hn
  obtain ⟨x, _, hi⟩ := at_lt (l := l) (k := k) hk
  simp only [GlVInts.l0, hi, Option.bind_some, letK, appK, iteK_if]
  rw [if_neg (by simp)]; exact hn () trivial
theorem vHas_yes {l : List Int} {x : Int} (h : x ∈ l) : GlVHas.P l x = some true := by
  obtain ⟨j, hj⟩ := List.getElem?_of_mem h
  have hjl := (List.getElem?_eq_some_iff.1 hj).1
  simp only [GlVHas.P]
  have key : ∀ m k, k + m = l.length → k ≤ j → cntK (GlVHas.l0 l x) m k () GlVHas.e0 = some true := by
    intro m
    induction m with
    | zero => intro k hk hkj; omega
    | succ m ih =>
      intro k hk hkj
      obtain ⟨y, hy, hi⟩ := at_lt (l := l) (k := k) (by omega)
      show GlVHas.l0 l x k () _ _ = _
      simp only [GlVHas.l0, hi, Option.bind_some, letK, appK, iteK_if]
      by_cases hc : y = x
      · rw [if_pos (by simpa using hc)]
      · rw [if_neg (by simpa using hc)]
        refine ih (k + 1) (by omega) ?_
        by_cases he : k = j
        · subst he; rw [hy] at hj; exact absurd (Option.some.inj hj) hc
        · omega
  exact key l.length 0 (by omega) (by omega)
theorem vHas_no {l : List Int} {x : Int} (h : ¬ x ∈ l) : GlVHas.P l x = some false := by
  simp only [GlVHas.P]
  refine cnt_is false (fun _ _ => True) ?_ (fun s _ => rfl) () trivial
  rintro k ⟨⟩ nx hk _ hn
  obtain ⟨y, hy, hi⟩ := at_lt (l := l) (k := k) hk
  simp only [GlVHas.l0, hi, Option.bind_some, letK, appK, iteK_if]
  rw [if_neg (by
    intro hc
    have : y = x := by simpa using hc
    rw [this] at hy; exact h (List.mem_of_getElem? hy))]
  exact hn () trivial
end Go.Proofs.Ythkaeighfjadlaa.QVInts

/- Draws on tapes: each gives something within its bounds. (QDraw) No condition but those of each theorem. -/
namespace Go.Proofs.Ythkaeighfjadlaa.QDraw
set_option linter.unusedVariables false
set_option linter.unusedSimpArgs false
open Go.RowKit
open Go.Proofs.Ythkaeighfjadlaa.GoP Go.Proofs.Ythkaeighfjadlaa.PlainStamp Go.Proofs.Ythkaeighfjadlaa.QBase Go.Proofs.Ythkaeighfjadlaa.QLoop

/-- a tape that may be asked m times more -/
def good (t : GoC.Tape) (m : Nat) : Prop := m ≤ t.left ∧ ∀ i, 0 ≤ t.vals i ∧ t.vals i ≤ 255
theorem good_less {t : GoC.Tape} {m n : Nat} (h : good t m) (hn : n ≤ m) : good t n := ⟨Nat.le_trans hn h.1, h.2⟩
theorem good_of {tapes : List Int → GoC.Tape} (h : GoC.Tells tapes) (code : List Int) {m : Nat} (hm : m ≤ 4611686018427387904) : good (tapes code) m := ⟨by rw [h.1]; exact hm, h.2.1 code⟩
theorem next_ok {t : GoC.Tape} {m : Nat} (h : good t (m + 1)) : ∃ b t', GsL1CurNext.P t = some (b, t') ∧ (0 ≤ b ∧ b ≤ 255) ∧ good t' m := by
  unfold GsL1CurNext.P
  rw [if_pos (by have := h.1; omega)]
  exact ⟨_, _, rfl, h.2 0, by have := h.1; show m ≤ t.left - 1; omega, fun i => h.2 (i + 1)⟩
theorem pick_ok {t : GoC.Tape} {m : Nat} {n : Int} (h : good t (m + 2)) : ∃ x t', GsL1CurPick.P t n = some (x, t') ∧ 0 ≤ x ∧ (x < n ∨ n ≤ 1 ∧ x = 0) ∧ x ≤ 65535 ∧ good t' m := by
  simp only [GsL1CurPick.P, letK, iteK_if]
  by_cases hn : n ≤ 1
  · rw [if_pos (by simpa using hn)]
    exact ⟨0, t, rfl, by omega, by omega, by omega, good_less h (by omega)⟩
  · rw [if_neg (by simpa using hn)]
    obtain ⟨b, t1, e1, hb, h1⟩ := next_ok (m := m + 1) h
    rw [e1]
    simp only [bind2_some]
    by_cases h2 : 200 < n
    · rw [if_pos (by simpa using h2)]
      obtain ⟨b2, t2, e2, hb2, h3⟩ := next_ok (m := m) h1
      rw [e2]
      simp only [bind2_some, GsL1CurPick.j0, unp2, letK]
      rw [guardK_pos (by omega), wrap_in (x := b * 256) (by omega) (by omega), wrap_in (by omega) (by omega), Int.tmod_eq_emod_of_nonneg (by omega)]
      have k1 := Int.emod_nonneg (b * 256 + b2) (show n ≠ 0 by omega)
      have k2 := Int.emod_lt_of_pos (b * 256 + b2) (show 0 < n by omega)
      have k3 : (b * 256 + b2) % n ≤ 65535 := by
        by_cases hq : n ≤ 65536
        · omega
        · rw [Int.emod_eq_of_lt (by omega) (by omega)]; omega
      exact ⟨_, _, rfl, k1, .inl k2, by omega, h3⟩
    · rw [if_neg (by simpa using h2)]
      simp only [GsL1CurPick.j0, unp2, letK]
      rw [guardK_pos (by omega), Int.tmod_eq_emod_of_nonneg (by omega)]
      have k1 := Int.emod_nonneg b (show n ≠ 0 by omega)
      have k2 := Int.emod_lt_of_pos b (show 0 < n by omega)
      exact ⟨_, _, rfl, k1, .inl k2, by omega, good_less h1 (by omega)⟩
theorem among_ok {t : GoC.Tape} {m : Nat} {l : List Int} (h : good t (m + 2)) (h0 : 0 < l.length) : ∃ x t', GsL1CurAmong.P t l = some (x, t') ∧ x ∈ l ∧ good t' m := by
  obtain ⟨x, t', e, hx0, hx, _, hg⟩ := pick_ok (n := (l.length : Int)) h
  simp only [GsL1CurAmong.P, e, bind2_some]
  obtain ⟨y, hy, hyi⟩ := at_lt (l := l) (k := x.toNat) (by omega)
  rw [show ((x.toNat : Nat) : Int) = x by omega] at hyi
  exact ⟨y, t', by rw [hyi]; rfl, List.mem_of_getElem? hy, hg⟩
theorem one_ok {t : GoC.Tape} {m : Nat} {n : Int} (h : good t (m + 2)) : ∃ b t', GsL1CurOne.P t n = some (b, t') ∧ good t' m := by
  obtain ⟨x, t', e, _, _, _, hg⟩ := pick_ok (n := n) h
  exact ⟨x == 0, t', by simp only [GsL1CurOne.P, e, bind2_some, letK], hg⟩
end Go.Proofs.Ythkaeighfjadlaa.QDraw

/- Loops that test each place, and loops without a count. No condition. -/
namespace Go.Proofs.Ythkaeighfjadlaa.QAll
set_option linter.unusedVariables false
set_option linter.unusedSimpArgs false
open Go.RowKit
open Go.Proofs.Ythkaeighfjadlaa.GoP Go.Proofs.Ythkaeighfjadlaa.QBase Go.Proofs.Ythkaeighfjadlaa.QLoop

/-- each number below n is good -/
def allN (n : Nat) (p : Nat → Bool) : Bool := (List.range n).all p
theorem allN_iff {n : Nat} {p : Nat → Bool} : allN n p = true ↔ ∀ i, i < n → p i = true := by unfold allN; simp
theorem allN_no {n k : Nat} {p : Nat → Bool} (hk : k < n) (h : p k = false) : allN n p = false := by
  rw [Bool.eq_false_iff]; intro ha; rw [allN_iff.1 ha k hk] at h; exact absurd h (by simp)
theorem allN_eq {n m : Nat} {p q : Nat → Bool} (h : (∀ i, i < n → p i = true) ↔ (∀ i, i < m → q i = true)) : allN n p = allN m q := by
  rw [Bool.eq_iff_iff, allN_iff, allN_iff]; exact h
theorem all_cnt {ρ : Type} {n : Nat} {p : Nat → Bool} {no : ρ} {f : Nat → Unit → (Unit → Option ρ) → (Unit → Option ρ) → Option ρ} {fin : Unit → Option ρ}
    (step : ∀ k nx, k < n → (p k = false → f k () nx fin = some no) ∧ (p k = true → f k () nx fin = nx ())) : cntK f n 0 () fin = if allN n p = true then fin () else some no := by
  have key : ∀ m k, k + m = n → (∀ i, i < k → p i = true) → cntK f m k () fin = if allN n p = true then fin () else some no := by
    intro m
    induction m with
    | zero => intro k hk hu; obtain rfl : k = n := by omega
              rw [allN_iff.2 hu]; rfl
    | succ m ih =>
      intro k hk hu
      obtain ⟨h1, h2⟩ := step k (fun s' => cntK f m (k + 1) s' fin) (by omega)
      show f k () _ fin = _
      cases hp : p k with
      | false => rw [h1 hp, allN_no (by omega) hp]; rfl
      | true =>
        rw [h2 hp]
        refine ih (k + 1) (by omega) (fun i hi => ?_)
        by_cases he : i = k
        · rw [he]; exact hp
        · exact hu i (by omega)
  exact key n 0 (by omega) (fun i hi => by omega)
theorem lp_ex {σ ρ : Type} {f : σ → (σ → Option ρ) → (σ → Option ρ) → Option ρ} {fin : σ → Option ρ} {Q : ρ → Prop} {n : Nat} (I : Nat → σ → Prop)
    (step : ∀ k s nx, k < n → I k s → (∀ s', I (k + 1) s' → ∃ r, nx s' = some r ∧ Q r) → ∃ r, f s nx fin = some r ∧ Q r) (done : ∀ s nx, I n s → ∃ r, f s nx fin = some r ∧ Q r) :
    ∀ fuel k s, k ≤ n → n - k < fuel → I k s → ∃ r, loopK f fuel s fin = some r ∧ Q r := by
  intro fuel
  induction fuel with
  | zero => intro k s hk hf; omega
  | succ m ih =>
    intro k s hk hf hI
    show ∃ r, f s _ fin = some r ∧ Q r
    by_cases he : k = n
    · subst he; exact done s _ hI
    · exact step k s _ (by omega) hI (fun s' h' => ih (k + 1) s' (by omega) (by omega) h')
theorem all_lp {ρ : Type} {n : Nat} {p : Nat → Bool} {no : ρ} {f : Int → (Int → Option ρ) → (Int → Option ρ) → Option ρ} {fin : Int → Option ρ}
    (step : ∀ (k : Nat) nx, k < n → (p k = false → f (k : Int) nx fin = some no) ∧ (p k = true → f (k : Int) nx fin = nx ((k + 1 : Nat) : Int))) (stop : ∀ nx, f (n : Int) nx fin = fin (n : Int))
    (fuel : Nat) (hf : n < fuel) : loopK f fuel 0 fin = if allN n p = true then fin (n : Int) else some no := by
  have key : ∀ fuel k, k ≤ n → n - k < fuel → (∀ i, i < k → p i = true) → loopK f fuel (k : Int) fin = if allN n p = true then fin (n : Int) else some no := by
    intro fuel
    induction fuel with
    | zero => intro k hk hf; omega
    | succ m ih =>
      intro k hk hf hu
      show f (k : Int) _ fin = _
      by_cases he : k = n
      · subst he; rw [stop, allN_iff.2 hu]; rfl
      · obtain ⟨h1, h2⟩ := step k (fun s' => loopK f m s' fin) (by omega)
        cases hp : p k with
        | false => rw [h1 hp, allN_no (by omega) hp]; rfl
        | true =>
          rw [h2 hp]
          refine ih (k + 1) (by omega) (by omega) (fun i hi => ?_)
          by_cases he : i = k
          · rw [he]; exact hp
          · exact hu i (by omega)
  exact key fuel 0 (by omega) (by omega) (fun i hi => by omega)
theorem next_i {k : Nat} (h : k ≤ 9223372036854775806) : IntKind.i64.wrap ((k : Int) + 1) = ((k + 1 : Nat) : Int) := by rw [wrap_in (by omega) (by omega)]; omega
end Go.Proofs.Ythkaeighfjadlaa.QAll

/- Rising rows: what a rising row gives; loops that sum; loops from one on. No condition. -/
namespace Go.Proofs.Ythkaeighfjadlaa.QUp
set_option linter.unusedVariables false
set_option linter.unusedSimpArgs false
open Go.RowKit
open Go.Proofs.Ythkaeighfjadlaa.GoP Go.Proofs.Ythkaeighfjadlaa.QBase Go.Proofs.Ythkaeighfjadlaa.QLoop Go.Proofs.Ythkaeighfjadlaa.QAll

theorem upTo_at {α : Type} {ok : α → Bool} {id : α → Int} {l : List α} {n : Nat} (h : upTo ok id l n = true) {k : Nat} (hk : k < n) : upAt ok id l k = true := List.all_eq_true.1 h k (List.mem_range.2 hk)
theorem upTo_ok {α : Type} {ok : α → Bool} {id : α → Int} {l : List α} {n : Nat} (h : upTo ok id l n = true) {k : Nat} (hk : k < n) {x : α} (hx : l[k]? = some x) : ok x = true := by
  have := upTo_at h hk
  unfold upAt at this
  rw [hx] at this
  simp only [Bool.and_eq_true] at this
  exact this.1
theorem upTo_step {α : Type} {ok : α → Bool} {id : α → Int} {l : List α} {n : Nat} (h : upTo ok id l n = true) {k : Nat} (hk : k + 1 < n) {x y : α} (hx : l[k]? = some x) (hy : l[k + 1]? = some y) : id x < id y := by
  have := upTo_at h hk
  unfold upAt at this
  rw [hy] at this
  simp only [Nat.add_sub_cancel, hx, Bool.and_eq_true, Bool.or_eq_true, decide_eq_true_eq] at this
  rcases this.2 with h0 | h0
  · omega
  · exact h0
theorem upTo_lt {α : Type} {ok : α → Bool} {id : α → Int} {l : List α} {n : Nat} (h : upTo ok id l n = true) (hn : n ≤ l.length) {i : Nat} : ∀ d {x y : α}, i + d + 1 < n → l[i]? = some x → l[i + d + 1]? = some y → id x < id y := by
  intro d
  induction d with
  | zero => intro x y hk hx hy; exact upTo_step h hk hx hy
  | succ d ih =>
    intro x y hk hx hy
    obtain ⟨z, hz, _⟩ := at_lt (l := l) (k := i + d + 1) (by omega)
    have h1 := ih (by omega) hx hz
    have h2 := upTo_step (k := i + d + 1) h (by omega) hz (by rw [← hy]; rfl)
    omega
/-- rising numbers: the later one is greater -/
theorem up_less {α : Type} {ok : α → Bool} {id : α → Int} {l : List α} (h : upTo ok id l l.length = true) {i j : Nat} {x y : α} (hij : i < j) (hx : l[i]? = some x) (hy : l[j]? = some y) : id x < id y := by
  have hj := (List.getElem?_eq_some_iff.1 hy).1
  exact upTo_lt h (Nat.le_refl _) (j - i - 1) (by omega) hx (by rw [← hy]; congr 1; omega)
/-- a loop with fuel, from k on, by an invariant -/
theorem lp_is {σ ρ : Type} {f : σ → (σ → Option ρ) → (σ → Option ρ) → Option ρ} {fin : σ → Option ρ} {n : Nat} (r : ρ) (I : Nat → σ → Prop)
    (step : ∀ k s nx, k < n → I k s → (∀ s', I (k + 1) s' → nx s' = some r) → f s nx fin = some r) (done : ∀ s nx, I n s → f s nx fin = some r) (fuel : Nat) (k : Nat) (s : σ) (hk : k ≤ n) (hf : n - k < fuel) (hI : I k s) : loopK f fuel s fin = some r := by
  obtain ⟨r', h, rfl⟩ := lp_ex (Q := fun x => x = r) I (fun k s nx hk hI hn => ⟨r, step k s nx hk hI (fun s' h' => by obtain ⟨_, h, rfl⟩ := hn s' h'; exact h), rfl⟩) (fun s nx h => ⟨r, done s nx h, rfl⟩) fuel k s hk hf hI
  exact h
theorem most_eq (a b : Int) (h : (if b < a then a else b) = max a b := by omega) : (if b < a then a else b) = max a b := h
end Go.Proofs.Ythkaeighfjadlaa.QUp

/- What the named laws of mails draw: mails and timetables: the draws answer, within bounds. (Q9Draws) No condition but those of each theorem. -/
namespace Go.Proofs.Ythkaeighfjadlaa.Q9Draws
set_option linter.unusedVariables false
set_option linter.unusedSimpArgs false
open Go.RowKit
open Go.Proofs.Ythkaeighfjadlaa.GoP Go.Proofs.Ythkaeighfjadlaa.PlainStamp Go.Proofs.Ythkaeighfjadlaa.QBase Go.Proofs.Ythkaeighfjadlaa.QDraw Go.Proofs.Ythkaeighfjadlaa.QUp Go.Proofs.Ythkaeighfjadlaa.QAll Go.Proofs.Ythkaeighfjadlaa.QLoop Go.Proofs.Ythkaeighfjadlaa.PMail

theorem mail9_ok {t : GoC.Tape} {m : Nat} (h : good t (m + 12)) : ∃ x t', GsL1CurMail.P t = some (x, t') ∧ good t' m := by
  obtain ⟨a, t1, e1, ha, h1⟩ := among_ok (l := [0, 5, 10, 10, 20, 30, 45, 60]) (m := m + 10) h (by simp)
  obtain ⟨b, t2, e2, _, _, _, h2⟩ := pick_ok (n := 4) (m := m + 8) h1
  obtain ⟨c, t3, e3, _, _, _, h3⟩ := pick_ok (n := 4) (m := m + 6) h2
  obtain ⟨d, t4, e4, hd, h4⟩ := among_ok (l := [1, 5, 10, 10, 25]) (m := m + 4) h3 (by simp)
  obtain ⟨p, t5, e5, _, _, _, h5⟩ := pick_ok (n := 48) (m := m + 2) h4
  simp only [GsL1CurMail.P, letK, e1, e2, e3, e4, e5, bind2_some, iteK_if]
  by_cases hp : p = 0
  · obtain ⟨u, t6, e6, _, h6⟩ := among_ok (l := [(-1), 9, 10]) (m := m) h5 (by simp)
    exact ⟨_, _, by simp only [hp, beq_self_eq_true, if_true, e6, bind2_some]; rfl, h6⟩
  · have hpb : (p == 0) = false := by simpa using hp
    by_cases hp2 : p = 1
    · obtain ⟨u, t6, e6, _, h6⟩ := among_ok (l := [a, 9999, 10000]) (m := m) h5 (by simp)
      exact ⟨_, _, by simp only [hp2, show ((1 : Int) == 0) = false from rfl, Bool.false_eq_true, if_false, beq_self_eq_true, if_true, e6, bind2_some]; rfl, h6⟩
    · have hpb2 : (p == 1) = false := by simpa using hp2
      exact ⟨_, _, by simp only [hpb, hpb2, Bool.false_eq_true, if_false]; rfl, good_less h5 (by omega)⟩
end Go.Proofs.Ythkaeighfjadlaa.Q9Draws

/- Chapter 9: mails and routes: the plain functions of the program and of the reference agree, and the laws answer true. (QCmp) No condition but those of each theorem. -/
namespace Go.Proofs.Ythkaeighfjadlaa.QCmp
set_option linter.unusedVariables false
set_option linter.unusedSimpArgs false
open Go.RowKit
open Go.Proofs.Ythkaeighfjadlaa.GoP Go.Proofs.Ythkaeighfjadlaa.PlainStamp Go.Proofs.Ythkaeighfjadlaa.QBase Go.Proofs.Ythkaeighfjadlaa.QLoop

def cmpI (x y : Int) : Int := if x < y then -1 else if y < x then 1 else 0
theorem cmp_eq (x y : Int) : GxCmpCompareInt.P x y = some (cmpI x y) := by
  simp only [GxCmpCompareInt.P, GxCmpIsNaNInt.P, Option.bind_some, letK, iteK_if, cmpI]
  by_cases h1 : x < y
  · simp [h1]
  · by_cases h2 : y < x <;> simp [h1, h2]
theorem or_eq (a b c d : Int) : GxCmpOrInt.P [a, b, c, d] = some (if a != 0 then a else if b != 0 then b else if c != 0 then c else d) := by
  have st : ∀ m k fin, cntK (GxCmpOrInt.l0 [a, b, c, d]) (m + 1) k () fin = GxCmpOrInt.l0 [a, b, c, d] k () (fun s' => cntK (GxCmpOrInt.l0 [a, b, c, d]) m (k + 1) s' fin) fin := fun _ _ _ => rfl
  show cntK (GxCmpOrInt.l0 [a, b, c, d]) (3 + 1) 0 () (GxCmpOrInt.e0) = _
  rw [st]
  simp only [GxCmpOrInt.l0, show idx [a, b, c, d] ((0 : Nat) : Int) = some a from rfl, Option.bind_some, letK, appK, iteK_if]
  by_cases ha : (a != 0) = true
  · rw [if_pos ha, if_pos ha]
  · rw [if_neg ha, if_neg ha]
    show cntK (GxCmpOrInt.l0 [a, b, c, d]) (2 + 1) 1 () (GxCmpOrInt.e0) = _
    rw [st]
    simp only [GxCmpOrInt.l0, show idx [a, b, c, d] ((1 : Nat) : Int) = some b from rfl, Option.bind_some, letK, appK, iteK_if]
    by_cases hb : (b != 0) = true
    · rw [if_pos hb, if_pos hb]
    · rw [if_neg hb, if_neg hb]
      show cntK (GxCmpOrInt.l0 [a, b, c, d]) (1 + 1) 2 () (GxCmpOrInt.e0) = _
      rw [st]
      simp only [GxCmpOrInt.l0, show idx [a, b, c, d] ((2 : Nat) : Int) = some c from rfl, Option.bind_some, letK, appK, iteK_if]
      by_cases hc : (c != 0) = true
      · rw [if_pos hc, if_pos hc]
      · rw [if_neg hc, if_neg hc]
        show cntK (GxCmpOrInt.l0 [a, b, c, d]) (0 + 1) 3 () (GxCmpOrInt.e0) = _
        rw [st]
        simp only [GxCmpOrInt.l0, show idx [a, b, c, d] ((3 : Nat) : Int) = some d from rfl, Option.bind_some, letK, appK, iteK_if]
        by_cases hd : (d != 0) = true
        · rw [if_pos hd]
        · rw [if_neg hd]
          have : d = 0 := by simpa using hd
          rw [this]; rfl
end Go.Proofs.Ythkaeighfjadlaa.QCmp

