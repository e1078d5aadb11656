/- loop.example/g01062/laws.FnTurned as a plain function, and the contract of the program's: where the plain one has an answer, the program has it. Conditions: slices read as lists. -/
import Derived.Test.YtbpjhmhnicfdfaaChecked
import Derived.Test.YtbpjhmhnicfdfaaGoM
import Derived.Test.YtbpjhmhnicfdfaaGoC
import Derived.Test.YtbpjhmhnicfdfaaGlRBig
import Derived.Test.YtbpjhmhnicfdfaaGsDrawJoinPositions
import Derived.Test.YtbpjhmhnicfdfaaGiJoinPositions
import Derived.Test.YtbpjhmhnicfdfaaGsJoinPositions
import Derived.Test.YtbpjhmhnicfdfaaGsDrawUndoPosition
import Derived.Test.YtbpjhmhnicfdfaaGiUndoPosition
import Derived.Test.YtbpjhmhnicfdfaaGsUndoPosition
import Derived.Test.YtbpjhmhnicfdfaaGiSeenFromBack
import Derived.Test.YtbpjhmhnicfdfaaGsSeenFromBack
import Derived.Test.YtbpjhmhnicfdfaaGiPositionName
import Derived.Test.YtbpjhmhnicfdfaaGsPositionName
import Derived.WalkKit
import Derived.WalkSpells
import Derived.WalkLawsBesides
import Derived.BigQuiet
import Derived.OwnWalk
import Derived.Deep.LoopGhost
import Derived.Deep.QuietTactic
import Derived.IntWalk
import Derived.Lib.QuietBelow
namespace Go.Proofs.Ytbpjhmhnicfdfaa.GlFnTurned
set_option linter.unusedVariables false
set_option linter.unusedSimpArgs false
open Go.RowKit
open Go.Proofs.Ytbpjhmhnicfdfaa.Rowed Go.Proofs.Ytbpjhmhnicfdfaa.Turn Go.Proofs.Ytbpjhmhnicfdfaa.Aid Go.Proofs.Ytbpjhmhnicfdfaa.GoP Go.Proofs.Ytbpjhmhnicfdfaa.GoM

def j1 (t_84 : Int) (s : Unit) : Option (Bool) :=
  bind2 (Go.Proofs.Ytbpjhmhnicfdfaa.GiPositionName.P t_84) fun (t_186a : ByteArray) (t_186b : Bool) =>
  bind2 (Go.Proofs.Ytbpjhmhnicfdfaa.GsPositionName.P t_84) fun (t_193a : ByteArray) (t_193b : Bool) =>
  letK (t_186a.toList == t_193a.toList) fun (t_201 : Bool) =>
  joinK (fun (t_206 : Bool) =>
  some t_206) fun jt_206 => iteK t_201 (letK (t_186b == t_193b) fun (t_205 : Bool) =>
  appK jt_206 t_205) (appK jt_206 false)

def j0 (code : (List Int)) (tapes : List Int → Go.Proofs.Ytbpjhmhnicfdfaa.GoC.Tape) (s : Unit) : Option (Bool) :=
  Option.bind (Go.Proofs.Ytbpjhmhnicfdfaa.GsDrawUndoPosition.P tapes code) fun (t_84 : Int) =>
  bind2 (Go.Proofs.Ytbpjhmhnicfdfaa.GiUndoPosition.P t_84) fun (t_87a : Int) (t_87b : Bool) =>
  bind2 (Go.Proofs.Ytbpjhmhnicfdfaa.GsUndoPosition.P t_84) fun (t_94a : Int) (t_94b : Bool) =>
  letK (t_87a != t_94a) fun (t_102 : Bool) =>
  joinK (fun (t_107 : Bool) =>
  iteK t_107
  (some false)
  (bind2 (Go.Proofs.Ytbpjhmhnicfdfaa.GiSeenFromBack.P t_84) fun (t_110a : Int) (t_110b : Bool) =>
  bind2 (Go.Proofs.Ytbpjhmhnicfdfaa.GsSeenFromBack.P t_84) fun (t_117a : Int) (t_117b : Bool) =>
  letK (t_110a != t_117a) fun (t_125 : Bool) =>
  joinK (fun (t_130 : Bool) =>
  joinK (fun (t_135 : Bool) =>
  iteK t_135
  (some false)
  (iteK t_87b
  (bind2 (Go.Proofs.Ytbpjhmhnicfdfaa.GiJoinPositions.P t_84 t_87a) fun (t_140a : Int) (t_140b : Bool) =>
  bind2 (Go.Proofs.Ytbpjhmhnicfdfaa.GiJoinPositions.P t_87a t_84) fun (t_148a : Int) (t_148b : Bool) =>
  bind2 (Go.Proofs.Ytbpjhmhnicfdfaa.GiSeenFromBack.P t_110a) fun (t_155a : Int) (t_155b : Bool) =>
  letK (!t_140b) fun (t_162 : Bool) =>
  joinK (fun (t_166 : Bool) =>
  joinK (fun (t_170 : Bool) =>
  joinK (fun (t_174 : Bool) =>
  joinK (fun (t_178 : Bool) =>
  joinK (fun (t_183 : Bool) =>
  iteK t_183
  (some false)
  (j1 t_84 ())) fun jt_183 => iteK t_178 (appK jt_183 true) (letK (t_155a != t_84) fun (t_182 : Bool) =>
  appK jt_183 t_182)) fun jt_178 => iteK t_174 (appK jt_178 true) (letK (t_148a != 0) fun (t_177 : Bool) =>
  appK jt_178 t_177)) fun jt_174 => iteK t_170 (appK jt_174 true) (letK (t_140a != 0) fun (t_173 : Bool) =>
  appK jt_174 t_173)) fun jt_170 => iteK t_166 (appK jt_170 true) (letK (!t_155b) fun (t_169 : Bool) =>
  appK jt_170 t_169)) fun jt_166 => iteK t_162 (appK jt_166 true) (letK (!t_148b) fun (t_165 : Bool) =>
  appK jt_166 t_165))
  (j1 t_84 ()))) fun jt_135 => iteK t_130 (appK jt_135 true) (letK (t_110b != t_87b) fun (t_134 : Bool) =>
  appK jt_135 t_134)) fun jt_130 => iteK t_125 (appK jt_130 true) (letK (t_110b != t_117b) fun (t_129 : Bool) =>
  appK jt_130 t_129))) fun jt_107 => iteK t_102 (appK jt_107 true) (letK (t_87b != t_94b) fun (t_106 : Bool) =>
  appK jt_107 t_106)

def l0 (t_5a : Int) (t_5b : Int) (t_13a : Int) (k0 : Nat) (s : Unit) (nx0 bk0 : Unit → Option (Bool)) : Option (Bool) :=
  
  bind2 (Go.Proofs.Ytbpjhmhnicfdfaa.GiJoinPositions.P t_5b (k0 : Int)) fun (t_42a : Int) (t_42b : Bool) =>
  bind2 (Go.Proofs.Ytbpjhmhnicfdfaa.GiJoinPositions.P t_13a (k0 : Int)) fun (t_50a : Int) (t_50b : Bool) =>
  bind2 (Go.Proofs.Ytbpjhmhnicfdfaa.GiJoinPositions.P t_5a t_42a) fun (t_58a : Int) (t_58b : Bool) =>
  letK (!t_42b) fun (t_65 : Bool) =>
  joinK (fun (t_69 : Bool) =>
  joinK (fun (t_73 : Bool) =>
  joinK (fun (t_78 : Bool) =>
  iteK t_78
  (some false)
  (appK nx0 ())) fun jt_78 => iteK t_73 (appK jt_78 true) (letK (t_50a != t_58a) fun (t_77 : Bool) =>
  appK jt_78 t_77)) fun jt_73 => iteK t_69 (appK jt_73 true) (letK (!t_58b) fun (t_72 : Bool) =>
  appK jt_73 t_72)) fun jt_69 => iteK t_65 (appK jt_69 true) (letK (!t_50b) fun (t_68 : Bool) =>
  appK jt_69 t_68)

def e0 (code : (List Int)) (tapes : List Int → Go.Proofs.Ytbpjhmhnicfdfaa.GoC.Tape) (t_2 : Bool) (t_5a : Int) (t_5b : Int) (t_13a : Int) (t_13b : Bool) (t_21a : Int) (t_21b : Bool) (t_29 : Bool) (t_34 : Bool) (s : Unit) : Option (Bool) :=
  
  j0 code tapes ()

def P (tapes : List Int → Go.Proofs.Ytbpjhmhnicfdfaa.GoC.Tape) (code : (List Int)) : Option (Bool) :=
  Option.bind (Go.Proofs.Ytbpjhmhnicfdfaa.GlRBig.P code) fun (t_2 : Bool) =>
  iteK t_2
  (some true)
  (bind2 (Go.Proofs.Ytbpjhmhnicfdfaa.GsDrawJoinPositions.P tapes code) fun (t_5a : Int) (t_5b : Int) =>
  bind2 (Go.Proofs.Ytbpjhmhnicfdfaa.GiJoinPositions.P t_5a t_5b) fun (t_13a : Int) (t_13b : Bool) =>
  bind2 (Go.Proofs.Ytbpjhmhnicfdfaa.GsJoinPositions.P t_5a t_5b) fun (t_21a : Int) (t_21b : Bool) =>
  letK (t_13a != t_21a) fun (t_29 : Bool) =>
  joinK (fun (t_34 : Bool) =>
  iteK t_34
  (some false)
  (iteK t_13b
  (cntK (l0 t_5a t_5b t_13a) (8) 0 () (e0 code tapes t_2 t_5a t_5b t_13a t_13b t_21a t_21b t_29 t_34))
  (j0 code tapes ()))) fun jt_34 => iteK t_29 (appK jt_34 true) (letK (t_13b != t_21b) fun (t_33 : Bool) =>
  appK jt_34 t_33))

set_option maxRecDepth 100000 in
set_option maxHeartbeats 2000000 in
theorem C (tapes : List Int → Go.Proofs.Ytbpjhmhnicfdfaa.GoC.Tape) (code : (List Int)) (A0 : Option Addr) (c0 : Nat)  (w : World) (HE : Hid (Go.Proofs.Ytbpjhmhnicfdfaa.GoC.Tells tapes)) (M0 : Hid (Cells w 1 A0 code.length (Go.Proofs.Ytbpjhmhnicfdfaa.GoC.u8s code))) (N0 : Hid (code.length ≤ 9223372036854775807)) (V0 : Hid (∀ z ∈ code, 0 ≤ z ∧ z ≤ 255))  {r : Bool} (H : Hid (P tapes code = some r)) :
    Calls Try.prog 4 #[.slice A0 code.length c0] w (Gives (.bool r) w) := by
  have HB := Lib.hid (Below.refl w.heap.size w)
  unfold P at H
  have N0o := N0.out
  go_enter Try.func4, Try.ntmps4
  replace H := bind_hid H
  obtain ⟨t_2, qt_2, H⟩ := H
  go_wp2_with fail
  go_at_call 5
  refine (Go.Proofs.Ytbpjhmhnicfdfaa.GlRBig.C (code) A0 c0 _   (Lib.hid (Cells.below M0.out HB.out)) N0 V0 qt_2).mono ?_
  rintro e_t_2 wt_2 ⟨rfl, bt_2⟩
  have HBwt_2 := Lib.hid (Below.step HB.out bt_2)
  clear bt_2
  cases t_2 with
  | false =>
    replace H := ite_f H
    replace H := bind2_hid H
    obtain ⟨t_5a, t_5b, qt_5, H⟩ := H
    go_wp2_with fail
    go_at_call 20
    refine (Go.Proofs.Ytbpjhmhnicfdfaa.GsDrawJoinPositions.C tapes (code) A0 c0 _  HE (Lib.hid (Cells.below M0.out HBwt_2.out)) N0 V0 qt_5).mono ?_
    rintro e_t_5 wt_5 ⟨rfl, bt_5⟩
    have HBwt_5 := Lib.hid (Below.step HBwt_2.out bt_5)
    clear bt_5
    replace H := bind2_hid H
    obtain ⟨t_13a, t_13b, qt_13, H⟩ := H
    go_wp2_with fail
    go_at_call 21
    refine (Go.Proofs.Ytbpjhmhnicfdfaa.GiJoinPositions.C (t_5a) (t_5b)  _    qt_13).mono ?_
    rintro e_t_13 wt_13 ⟨rfl, bt_13⟩
    have HBwt_13 := Lib.hid (Below.step HBwt_5.out bt_13)
    clear bt_13
    replace H := bind2_hid H
    obtain ⟨t_21a, t_21b, qt_21, H⟩ := H
    go_wp2_with fail
    go_at_call 22
    refine (Go.Proofs.Ytbpjhmhnicfdfaa.GsJoinPositions.C (t_5a) (t_5b)  _    qt_21).mono ?_
    rintro e_t_21 wt_21 ⟨rfl, bt_21⟩
    have HBwt_21 := Lib.hid (Below.step HBwt_13.out bt_21)
    clear bt_21
    replace H := let_hid H
    obtain ⟨t_29, ht_29, H⟩ := H
    replace H := join_hid H
    cases t_29 with
    | false =>
      replace H := ite_f H
      cases t_13b with
      | false =>
        cases t_21b with
        | false =>
          replace H := let_hid H
          obtain ⟨t_33, ht_33, H⟩ := H
          obtain rfl : t_33 = false := ht_33.symm
          replace H := app_hid H
          replace H := ite_f H
          replace H := ite_f H
          unfold j0 at H
          replace H := bind_hid H
          obtain ⟨t_84, qt_84, H⟩ := H
          go_wp2_with fail
          go_at_call 23
          refine (Go.Proofs.Ytbpjhmhnicfdfaa.GsDrawUndoPosition.C tapes (code) A0 c0 _  HE (Lib.hid (Cells.below M0.out HBwt_21.out)) N0 V0 qt_84).mono ?_
          rintro e_t_84 wt_84 ⟨rfl, bt_84⟩
          have HBwt_84 := Lib.hid (Below.step HBwt_21.out bt_84)
          clear bt_84
          replace H := bind2_hid H
          obtain ⟨t_87a, t_87b, qt_87, H⟩ := H
          go_wp2_with fail
          go_at_call 24
          refine (Go.Proofs.Ytbpjhmhnicfdfaa.GiUndoPosition.C (t_84)  _    qt_87).mono ?_
          rintro e_t_87 wt_87 ⟨rfl, bt_87⟩
          have HBwt_87 := Lib.hid (Below.step HBwt_84.out bt_87)
          clear bt_87
          replace H := bind2_hid H
          obtain ⟨t_94a, t_94b, qt_94, H⟩ := H
          go_wp2_with fail
          go_at_call 25
          refine (Go.Proofs.Ytbpjhmhnicfdfaa.GsUndoPosition.C (t_84)  _    qt_94).mono ?_
          rintro e_t_94 wt_94 ⟨rfl, bt_94⟩
          have HBwt_94 := Lib.hid (Below.step HBwt_87.out bt_94)
          clear bt_94
          replace H := let_hid H
          obtain ⟨t_102, ht_102, H⟩ := H
          replace H := join_hid H
          cases t_102 with
          | false =>
            replace H := ite_f H
            cases t_87b with
            | false =>
              cases t_94b with
              | false =>
                replace H := let_hid H
                obtain ⟨t_106, ht_106, H⟩ := H
                obtain rfl : t_106 = false := ht_106.symm
                replace H := app_hid H
                replace H := ite_f H
                replace H := bind2_hid H
                obtain ⟨t_110a, t_110b, qt_110, H⟩ := H
                go_wp2_with fail
                go_at_call 26
                refine (Go.Proofs.Ytbpjhmhnicfdfaa.GiSeenFromBack.C (t_84)  _    qt_110).mono ?_
                rintro e_t_110 wt_110 ⟨rfl, bt_110⟩
                have HBwt_110 := Lib.hid (Below.step HBwt_94.out bt_110)
                clear bt_110
                replace H := bind2_hid H
                obtain ⟨t_117a, t_117b, qt_117, H⟩ := H
                go_wp2_with fail
                go_at_call 27
                refine (Go.Proofs.Ytbpjhmhnicfdfaa.GsSeenFromBack.C (t_84)  _    qt_117).mono ?_
                rintro e_t_117 wt_117 ⟨rfl, bt_117⟩
                have HBwt_117 := Lib.hid (Below.step HBwt_110.out bt_117)
                clear bt_117
                replace H := let_hid H
                obtain ⟨t_125, ht_125, H⟩ := H
                replace H := join_hid H
                cases t_125 with
                | false =>
                  replace H := ite_f H
                  cases t_110b with
                  | false =>
                    cases t_117b with
                    | false =>
                      replace H := let_hid H
                      obtain ⟨t_129, ht_129, H⟩ := H
                      obtain rfl : t_129 = false := ht_129.symm
                      replace H := app_hid H
                      replace H := join_hid H
                      replace H := ite_f H
                      replace H := let_hid H
                      obtain ⟨t_134, ht_134, H⟩ := H
                      obtain rfl : t_134 = false := ht_134.symm
                      replace H := app_hid H
                      replace H := ite_f H
                      replace H := ite_f H
                      unfold j1 at H
                      replace H := bind2_hid H
                      obtain ⟨t_186a, t_186b, qt_186, H⟩ := H
                      go_wp2_with fail
                      go_at_call 28
                      refine (Go.Proofs.Ytbpjhmhnicfdfaa.GiPositionName.C (t_84)  _    qt_186).mono ?_
                      rintro e_t_186 wt_186 ⟨rfl, bt_186⟩
                      have HBwt_186 := Lib.hid (Below.step HBwt_117.out bt_186)
                      clear bt_186
                      replace H := bind2_hid H
                      obtain ⟨t_193a, t_193b, qt_193, H⟩ := H
                      go_wp2_with fail
                      go_at_call 29
                      refine (Go.Proofs.Ytbpjhmhnicfdfaa.GsPositionName.C (t_84)  _    qt_193).mono ?_
                      rintro e_t_193 wt_193 ⟨rfl, bt_193⟩
                      have HBwt_193 := Lib.hid (Below.step HBwt_186.out bt_193)
                      clear bt_193
                      replace H := let_hid H
                      obtain ⟨t_201, ht_201, H⟩ := H
                      replace H := join_hid H
                      cases t_201 with
                      | false =>
                        replace H := ite_f H
                        replace H := app_hid H
                        obtain rfl := ret_hid H
                        go_wp2_with fail
                        go_ret
                        exact ⟨rfl, HBwt_193.out⟩
                      | true =>
                        replace H := ite_t H
                        cases t_186b with
                        | false =>
                          cases t_193b with
                          | false =>
                            replace H := let_hid H
                            obtain ⟨t_205, ht_205, H⟩ := H
                            obtain rfl : t_205 = true := ht_205.symm
                            replace H := app_hid H
                            obtain rfl := ret_hid H
                            go_wp2_with fail
                            go_ret
                            exact ⟨rfl, HBwt_193.out⟩
                          | true =>
                            replace H := let_hid H
                            obtain ⟨t_205, ht_205, H⟩ := H
                            obtain rfl : t_205 = false := ht_205.symm
                            replace H := app_hid H
                            obtain rfl := ret_hid H
                            go_wp2_with fail
                            go_ret
                            exact ⟨rfl, HBwt_193.out⟩
                        | true =>
                          cases t_193b with
                          | false =>
                            replace H := let_hid H
                            obtain ⟨t_205, ht_205, H⟩ := H
                            obtain rfl : t_205 = false := ht_205.symm
                            replace H := app_hid H
                            obtain rfl := ret_hid H
                            go_wp2_with fail
                            go_ret
                            exact ⟨rfl, HBwt_193.out⟩
                          | true =>
                            replace H := let_hid H
                            obtain ⟨t_205, ht_205, H⟩ := H
                            obtain rfl : t_205 = true := ht_205.symm
                            replace H := app_hid H
                            obtain rfl := ret_hid H
                            go_wp2_with fail
                            go_ret
                            exact ⟨rfl, HBwt_193.out⟩
                    | true =>
                      replace H := let_hid H
                      obtain ⟨t_129, ht_129, H⟩ := H
                      obtain rfl : t_129 = true := ht_129.symm
                      replace H := app_hid H
                      replace H := join_hid H
                      replace H := ite_t H
                      replace H := app_hid H
                      replace H := ite_t H
                      obtain rfl := ret_hid H
                      go_wp2_with fail
                      go_ret
                      exact ⟨rfl, HBwt_117.out⟩
                  | true =>
                    cases t_117b with
                    | false =>
                      replace H := let_hid H
                      obtain ⟨t_129, ht_129, H⟩ := H
                      obtain rfl : t_129 = true := ht_129.symm
                      replace H := app_hid H
                      replace H := join_hid H
                      replace H := ite_t H
                      replace H := app_hid H
                      replace H := ite_t H
                      obtain rfl := ret_hid H
                      go_wp2_with fail
                      go_ret
                      exact ⟨rfl, HBwt_117.out⟩
                    | true =>
                      replace H := let_hid H
                      obtain ⟨t_129, ht_129, H⟩ := H
                      obtain rfl : t_129 = false := ht_129.symm
                      replace H := app_hid H
                      replace H := join_hid H
                      replace H := ite_f H
                      replace H := let_hid H
                      obtain ⟨t_134, ht_134, H⟩ := H
                      obtain rfl : t_134 = true := ht_134.symm
                      replace H := app_hid H
                      replace H := ite_t H
                      obtain rfl := ret_hid H
                      go_wp2_with fail
                      go_ret
                      exact ⟨rfl, HBwt_117.out⟩
                | true =>
                  replace H := ite_t H
                  replace H := app_hid H
                  replace H := join_hid H
                  replace H := ite_t H
                  replace H := app_hid H
                  replace H := ite_t H
                  obtain rfl := ret_hid H
                  go_wp2_with fail
                  go_ret
                  exact ⟨rfl, HBwt_117.out⟩
              | true =>
                replace H := let_hid H
                obtain ⟨t_106, ht_106, H⟩ := H
                obtain rfl : t_106 = true := ht_106.symm
                replace H := app_hid H
                replace H := ite_t H
                obtain rfl := ret_hid H
                go_wp2_with fail
                go_ret
                exact ⟨rfl, HBwt_94.out⟩
            | true =>
              cases t_94b with
              | false =>
                replace H := let_hid H
                obtain ⟨t_106, ht_106, H⟩ := H
                obtain rfl : t_106 = true := ht_106.symm
                replace H := app_hid H
                replace H := ite_t H
                obtain rfl := ret_hid H
                go_wp2_with fail
                go_ret
                exact ⟨rfl, HBwt_94.out⟩
              | true =>
                replace H := let_hid H
                obtain ⟨t_106, ht_106, H⟩ := H
                obtain rfl : t_106 = false := ht_106.symm
                replace H := app_hid H
                replace H := ite_f H
                replace H := bind2_hid H
                obtain ⟨t_110a, t_110b, qt_110, H⟩ := H
                go_wp2_with fail
                go_at_call 26
                refine (Go.Proofs.Ytbpjhmhnicfdfaa.GiSeenFromBack.C (t_84)  _    qt_110).mono ?_
                rintro e_t_110 wt_110 ⟨rfl, bt_110⟩
                have HBwt_110 := Lib.hid (Below.step HBwt_94.out bt_110)
                clear bt_110
                replace H := bind2_hid H
                obtain ⟨t_117a, t_117b, qt_117, H⟩ := H
                go_wp2_with fail
                go_at_call 27
                refine (Go.Proofs.Ytbpjhmhnicfdfaa.GsSeenFromBack.C (t_84)  _    qt_117).mono ?_
                rintro e_t_117 wt_117 ⟨rfl, bt_117⟩
                have HBwt_117 := Lib.hid (Below.step HBwt_110.out bt_117)
                clear bt_117
                replace H := let_hid H
                obtain ⟨t_125, ht_125, H⟩ := H
                replace H := join_hid H
                cases t_125 with
                | false =>
                  replace H := ite_f H
                  cases t_110b with
                  | false =>
                    cases t_117b with
                    | false =>
                      replace H := let_hid H
                      obtain ⟨t_129, ht_129, H⟩ := H
                      obtain rfl : t_129 = false := ht_129.symm
                      replace H := app_hid H
                      replace H := join_hid H
                      replace H := ite_f H
                      replace H := let_hid H
                      obtain ⟨t_134, ht_134, H⟩ := H
                      obtain rfl : t_134 = true := ht_134.symm
                      replace H := app_hid H
                      replace H := ite_t H
                      obtain rfl := ret_hid H
                      go_wp2_with fail
                      go_ret
                      exact ⟨rfl, HBwt_117.out⟩
                    | true =>
                      replace H := let_hid H
                      obtain ⟨t_129, ht_129, H⟩ := H
                      obtain rfl : t_129 = true := ht_129.symm
                      replace H := app_hid H
                      replace H := join_hid H
                      replace H := ite_t H
                      replace H := app_hid H
                      replace H := ite_t H
                      obtain rfl := ret_hid H
                      go_wp2_with fail
                      go_ret
                      exact ⟨rfl, HBwt_117.out⟩
                  | true =>
                    cases t_117b with
                    | false =>
                      replace H := let_hid H
                      obtain ⟨t_129, ht_129, H⟩ := H
                      obtain rfl : t_129 = true := ht_129.symm
                      replace H := app_hid H
                      replace H := join_hid H
                      replace H := ite_t H
                      replace H := app_hid H
                      replace H := ite_t H
                      obtain rfl := ret_hid H
                      go_wp2_with fail
                      go_ret
                      exact ⟨rfl, HBwt_117.out⟩
                    | true =>
                      replace H := let_hid H
                      obtain ⟨t_129, ht_129, H⟩ := H
                      obtain rfl : t_129 = false := ht_129.symm
                      replace H := app_hid H
                      replace H := join_hid H
                      replace H := ite_f H
                      replace H := let_hid H
                      obtain ⟨t_134, ht_134, H⟩ := H
                      obtain rfl : t_134 = false := ht_134.symm
                      replace H := app_hid H
                      replace H := ite_f H
                      replace H := ite_t H
                      replace H := bind2_hid H
                      obtain ⟨t_140a, t_140b, qt_140, H⟩ := H
                      go_wp2_with fail
                      go_at_call 21
                      refine (Go.Proofs.Ytbpjhmhnicfdfaa.GiJoinPositions.C (t_84) (t_87a)  _    qt_140).mono ?_
                      rintro e_t_140 wt_140 ⟨rfl, bt_140⟩
                      have HBwt_140 := Lib.hid (Below.step HBwt_117.out bt_140)
                      clear bt_140
                      replace H := bind2_hid H
                      obtain ⟨t_148a, t_148b, qt_148, H⟩ := H
                      go_wp2_with fail
                      go_at_call 21
                      refine (Go.Proofs.Ytbpjhmhnicfdfaa.GiJoinPositions.C (t_87a) (t_84)  _    qt_148).mono ?_
                      rintro e_t_148 wt_148 ⟨rfl, bt_148⟩
                      have HBwt_148 := Lib.hid (Below.step HBwt_140.out bt_148)
                      clear bt_148
                      replace H := bind2_hid H
                      obtain ⟨t_155a, t_155b, qt_155, H⟩ := H
                      go_wp2_with fail
                      go_at_call 26
                      refine (Go.Proofs.Ytbpjhmhnicfdfaa.GiSeenFromBack.C (t_110a)  _    qt_155).mono ?_
                      rintro e_t_155 wt_155 ⟨rfl, bt_155⟩
                      have HBwt_155 := Lib.hid (Below.step HBwt_148.out bt_155)
                      clear bt_155
                      cases t_140b with
                      | false =>
                        replace H := let_hid H
                        obtain ⟨t_162, ht_162, H⟩ := H
                        obtain rfl : t_162 = true := ht_162.symm
                        replace H := join_hid H
                        replace H := ite_t H
                        replace H := app_hid H
                        replace H := join_hid H
                        replace H := ite_t H
                        replace H := app_hid H
                        replace H := join_hid H
                        replace H := ite_t H
                        replace H := app_hid H
                        replace H := join_hid H
                        replace H := ite_t H
                        replace H := app_hid H
                        replace H := join_hid H
                        replace H := ite_t H
                        replace H := app_hid H
                        replace H := ite_t H
                        obtain rfl := ret_hid H
                        go_wp2_with fail
                        go_ret
                        exact ⟨rfl, HBwt_155.out⟩
                      | true =>
                        replace H := let_hid H
                        obtain ⟨t_162, ht_162, H⟩ := H
                        obtain rfl : t_162 = false := ht_162.symm
                        replace H := join_hid H
                        replace H := ite_f H
                        cases t_148b with
                        | false =>
                          replace H := let_hid H
                          obtain ⟨t_165, ht_165, H⟩ := H
                          obtain rfl : t_165 = true := ht_165.symm
                          replace H := app_hid H
                          replace H := join_hid H
                          replace H := ite_t H
                          replace H := app_hid H
                          replace H := join_hid H
                          replace H := ite_t H
                          replace H := app_hid H
                          replace H := join_hid H
                          replace H := ite_t H
                          replace H := app_hid H
                          replace H := join_hid H
                          replace H := ite_t H
                          replace H := app_hid H
                          replace H := ite_t H
                          obtain rfl := ret_hid H
                          go_wp2_with fail
                          go_ret
                          exact ⟨rfl, HBwt_155.out⟩
                        | true =>
                          replace H := let_hid H
                          obtain ⟨t_165, ht_165, H⟩ := H
                          obtain rfl : t_165 = false := ht_165.symm
                          replace H := app_hid H
                          replace H := join_hid H
                          replace H := ite_f H
                          cases t_155b with
                          | false =>
                            replace H := let_hid H
                            obtain ⟨t_169, ht_169, H⟩ := H
                            obtain rfl : t_169 = true := ht_169.symm
                            replace H := app_hid H
                            replace H := join_hid H
                            replace H := ite_t H
                            replace H := app_hid H
                            replace H := join_hid H
                            replace H := ite_t H
                            replace H := app_hid H
                            replace H := join_hid H
                            replace H := ite_t H
                            replace H := app_hid H
                            replace H := ite_t H
                            obtain rfl := ret_hid H
                            go_wp2_with fail
                            go_ret
                            exact ⟨rfl, HBwt_155.out⟩
                          | true =>
                            replace H := let_hid H
                            obtain ⟨t_169, ht_169, H⟩ := H
                            obtain rfl : t_169 = false := ht_169.symm
                            replace H := app_hid H
                            replace H := join_hid H
                            replace H := ite_f H
                            replace H := let_hid H
                            obtain ⟨t_173, ht_173, H⟩ := H
                            replace H := app_hid H
                            replace H := join_hid H
                            cases t_173 with
                            | false =>
                              replace H := ite_f H
                              replace H := let_hid H
                              obtain ⟨t_177, ht_177, H⟩ := H
                              replace H := app_hid H
                              replace H := join_hid H
                              cases t_177 with
                              | false =>
                                replace H := ite_f H
                                replace H := let_hid H
                                obtain ⟨t_182, ht_182, H⟩ := H
                                replace H := app_hid H
                                cases t_182 with
                                | false =>
                                  replace H := ite_f H
                                  unfold j1 at H
                                  replace H := bind2_hid H
                                  obtain ⟨t_186a, t_186b, qt_186, H⟩ := H
                                  go_wp2_with fail
                                  go_at_call 28
                                  refine (Go.Proofs.Ytbpjhmhnicfdfaa.GiPositionName.C (t_84)  _    qt_186).mono ?_
                                  rintro e_t_186 wt_186 ⟨rfl, bt_186⟩
                                  have HBwt_186 := Lib.hid (Below.step HBwt_155.out bt_186)
                                  clear bt_186
                                  replace H := bind2_hid H
                                  obtain ⟨t_193a, t_193b, qt_193, H⟩ := H
                                  go_wp2_with fail
                                  go_at_call 29
                                  refine (Go.Proofs.Ytbpjhmhnicfdfaa.GsPositionName.C (t_84)  _    qt_193).mono ?_
                                  rintro e_t_193 wt_193 ⟨rfl, bt_193⟩
                                  have HBwt_193 := Lib.hid (Below.step HBwt_186.out bt_193)
                                  clear bt_193
                                  replace H := let_hid H
                                  obtain ⟨t_201, ht_201, H⟩ := H
                                  replace H := join_hid H
                                  cases t_201 with
                                  | false =>
                                    replace H := ite_f H
                                    replace H := app_hid H
                                    obtain rfl := ret_hid H
                                    go_wp2_with fail
                                    go_ret
                                    exact ⟨rfl, HBwt_193.out⟩
                                  | true =>
                                    replace H := ite_t H
                                    cases t_186b with
                                    | false =>
                                      cases t_193b with
                                      | false =>
                                        replace H := let_hid H
                                        obtain ⟨t_205, ht_205, H⟩ := H
                                        obtain rfl : t_205 = true := ht_205.symm
                                        replace H := app_hid H
                                        obtain rfl := ret_hid H
                                        go_wp2_with fail
                                        go_ret
                                        exact ⟨rfl, HBwt_193.out⟩
                                      | true =>
                                        replace H := let_hid H
                                        obtain ⟨t_205, ht_205, H⟩ := H
                                        obtain rfl : t_205 = false := ht_205.symm
                                        replace H := app_hid H
                                        obtain rfl := ret_hid H
                                        go_wp2_with fail
                                        go_ret
                                        exact ⟨rfl, HBwt_193.out⟩
                                    | true =>
                                      cases t_193b with
                                      | false =>
                                        replace H := let_hid H
                                        obtain ⟨t_205, ht_205, H⟩ := H
                                        obtain rfl : t_205 = false := ht_205.symm
                                        replace H := app_hid H
                                        obtain rfl := ret_hid H
                                        go_wp2_with fail
                                        go_ret
                                        exact ⟨rfl, HBwt_193.out⟩
                                      | true =>
                                        replace H := let_hid H
                                        obtain ⟨t_205, ht_205, H⟩ := H
                                        obtain rfl : t_205 = true := ht_205.symm
                                        replace H := app_hid H
                                        obtain rfl := ret_hid H
                                        go_wp2_with fail
                                        go_ret
                                        exact ⟨rfl, HBwt_193.out⟩
                                | true =>
                                  replace H := ite_t H
                                  obtain rfl := ret_hid H
                                  go_wp2_with fail
                                  go_ret
                                  exact ⟨rfl, HBwt_155.out⟩
                              | true =>
                                replace H := ite_t H
                                replace H := app_hid H
                                replace H := ite_t H
                                obtain rfl := ret_hid H
                                go_wp2_with fail
                                go_ret
                                exact ⟨rfl, HBwt_155.out⟩
                            | true =>
                              replace H := ite_t H
                              replace H := app_hid H
                              replace H := join_hid H
                              replace H := ite_t H
                              replace H := app_hid H
                              replace H := ite_t H
                              obtain rfl := ret_hid H
                              go_wp2_with fail
                              go_ret
                              exact ⟨rfl, HBwt_155.out⟩
                | true =>
                  replace H := ite_t H
                  replace H := app_hid H
                  replace H := join_hid H
                  replace H := ite_t H
                  replace H := app_hid H
                  replace H := ite_t H
                  obtain rfl := ret_hid H
                  go_wp2_with fail
                  go_ret
                  exact ⟨rfl, HBwt_117.out⟩
          | true =>
            replace H := ite_t H
            replace H := app_hid H
            replace H := ite_t H
            obtain rfl := ret_hid H
            go_wp2_with fail
            go_ret
            exact ⟨rfl, HBwt_94.out⟩
        | true =>
          replace H := let_hid H
          obtain ⟨t_33, ht_33, H⟩ := H
          obtain rfl : t_33 = true := ht_33.symm
          replace H := app_hid H
          replace H := ite_t H
          obtain rfl := ret_hid H
          go_wp2_with fail
          go_ret
          exact ⟨rfl, HBwt_21.out⟩
      | true =>
        cases t_21b with
        | false =>
          replace H := let_hid H
          obtain ⟨t_33, ht_33, H⟩ := H
          obtain rfl : t_33 = true := ht_33.symm
          replace H := app_hid H
          replace H := ite_t H
          obtain rfl := ret_hid H
          go_wp2_with fail
          go_ret
          exact ⟨rfl, HBwt_21.out⟩
        | true =>
          replace H := let_hid H
          obtain ⟨t_33, ht_33, H⟩ := H
          obtain rfl : t_33 = false := ht_33.symm
          replace H := app_hid H
          replace H := ite_f H
          replace H := ite_t H
          go_wp2_with fail
          go_loopg [9] (8) (fun m_ v9_ wr => ∃ (k0 : Nat) , k0 + m_ = 8 ∧ v9_ = .int .i64 (k0 : Int) ∧ Hid (cntK (l0 t_5a t_5b t_13a) m_ k0 () (e0 code tapes false t_5a t_5b t_13a true t_21a true false false) = some r) ∧ Hid (Below w.heap.size w wr))
          case atStart => exact ⟨0, by omega, rfl, H, HBwt_21⟩
          case round =>
            obtain ⟨k0, hkm0, rfl, H, HBwr0⟩ := hrel
            rename World => wr0
            cases gk with
            | zero =>
              obtain rfl : k0 = 8 := by omega
              have hc0 : decide (((8 : Nat) : Int) < ((8 : Nat) : Int)) = false := by simp
              replace H := cnt_zero H
              unfold e0 at H
              unfold j0 at H
              replace H := bind_hid H
              obtain ⟨t_84, qt_84, H⟩ := H
              go_wp2_with fail
              go_at_call 23
              refine (Go.Proofs.Ytbpjhmhnicfdfaa.GsDrawUndoPosition.C tapes (code) A0 c0 _  HE (Lib.hid (Cells.below M0.out HBwr0.out)) N0 V0 qt_84).mono ?_
              rintro e_t_84 wt_84 ⟨rfl, bt_84⟩
              have HBwt_84 := Lib.hid (Below.step HBwr0.out bt_84)
              clear bt_84
              replace H := bind2_hid H
              obtain ⟨t_87a, t_87b, qt_87, H⟩ := H
              go_wp2_with fail
              go_at_call 24
              refine (Go.Proofs.Ytbpjhmhnicfdfaa.GiUndoPosition.C (t_84)  _    qt_87).mono ?_
              rintro e_t_87 wt_87 ⟨rfl, bt_87⟩
              have HBwt_87 := Lib.hid (Below.step HBwt_84.out bt_87)
              clear bt_87
              replace H := bind2_hid H
              obtain ⟨t_94a, t_94b, qt_94, H⟩ := H
              go_wp2_with fail
              go_at_call 25
              refine (Go.Proofs.Ytbpjhmhnicfdfaa.GsUndoPosition.C (t_84)  _    qt_94).mono ?_
              rintro e_t_94 wt_94 ⟨rfl, bt_94⟩
              have HBwt_94 := Lib.hid (Below.step HBwt_87.out bt_94)
              clear bt_94
              replace H := let_hid H
              obtain ⟨t_102, ht_102, H⟩ := H
              replace H := join_hid H
              cases t_102 with
              | false =>
                replace H := ite_f H
                cases t_87b with
                | false =>
                  cases t_94b with
                  | false =>
                    replace H := let_hid H
                    obtain ⟨t_106, ht_106, H⟩ := H
                    obtain rfl : t_106 = false := ht_106.symm
                    replace H := app_hid H
                    replace H := ite_f H
                    replace H := bind2_hid H
                    obtain ⟨t_110a, t_110b, qt_110, H⟩ := H
                    go_wp2_with fail
                    go_at_call 26
                    refine (Go.Proofs.Ytbpjhmhnicfdfaa.GiSeenFromBack.C (t_84)  _    qt_110).mono ?_
                    rintro e_t_110 wt_110 ⟨rfl, bt_110⟩
                    have HBwt_110 := Lib.hid (Below.step HBwt_94.out bt_110)
                    clear bt_110
                    replace H := bind2_hid H
                    obtain ⟨t_117a, t_117b, qt_117, H⟩ := H
                    go_wp2_with fail
                    go_at_call 27
                    refine (Go.Proofs.Ytbpjhmhnicfdfaa.GsSeenFromBack.C (t_84)  _    qt_117).mono ?_
                    rintro e_t_117 wt_117 ⟨rfl, bt_117⟩
                    have HBwt_117 := Lib.hid (Below.step HBwt_110.out bt_117)
                    clear bt_117
                    replace H := let_hid H
                    obtain ⟨t_125, ht_125, H⟩ := H
                    replace H := join_hid H
                    cases t_125 with
                    | false =>
                      replace H := ite_f H
                      cases t_110b with
                      | false =>
                        cases t_117b with
                        | false =>
                          replace H := let_hid H
                          obtain ⟨t_129, ht_129, H⟩ := H
                          obtain rfl : t_129 = false := ht_129.symm
                          replace H := app_hid H
                          replace H := join_hid H
                          replace H := ite_f H
                          replace H := let_hid H
                          obtain ⟨t_134, ht_134, H⟩ := H
                          obtain rfl : t_134 = false := ht_134.symm
                          replace H := app_hid H
                          replace H := ite_f H
                          replace H := ite_f H
                          unfold j1 at H
                          replace H := bind2_hid H
                          obtain ⟨t_186a, t_186b, qt_186, H⟩ := H
                          go_wp2_with fail
                          go_at_call 28
                          refine (Go.Proofs.Ytbpjhmhnicfdfaa.GiPositionName.C (t_84)  _    qt_186).mono ?_
                          rintro e_t_186 wt_186 ⟨rfl, bt_186⟩
                          have HBwt_186 := Lib.hid (Below.step HBwt_117.out bt_186)
                          clear bt_186
                          replace H := bind2_hid H
                          obtain ⟨t_193a, t_193b, qt_193, H⟩ := H
                          go_wp2_with fail
                          go_at_call 29
                          refine (Go.Proofs.Ytbpjhmhnicfdfaa.GsPositionName.C (t_84)  _    qt_193).mono ?_
                          rintro e_t_193 wt_193 ⟨rfl, bt_193⟩
                          have HBwt_193 := Lib.hid (Below.step HBwt_186.out bt_193)
                          clear bt_193
                          replace H := let_hid H
                          obtain ⟨t_201, ht_201, H⟩ := H
                          replace H := join_hid H
                          cases t_201 with
                          | false =>
                            replace H := ite_f H
                            replace H := app_hid H
                            obtain rfl := ret_hid H
                            go_wp2_with fail
                            go_ret
                            exact ⟨rfl, HBwt_193.out⟩
                          | true =>
                            replace H := ite_t H
                            cases t_186b with
                            | false =>
                              cases t_193b with
                              | false =>
                                replace H := let_hid H
                                obtain ⟨t_205, ht_205, H⟩ := H
                                obtain rfl : t_205 = true := ht_205.symm
                                replace H := app_hid H
                                obtain rfl := ret_hid H
                                go_wp2_with fail
                                go_ret
                                exact ⟨rfl, HBwt_193.out⟩
                              | true =>
                                replace H := let_hid H
                                obtain ⟨t_205, ht_205, H⟩ := H
                                obtain rfl : t_205 = false := ht_205.symm
                                replace H := app_hid H
                                obtain rfl := ret_hid H
                                go_wp2_with fail
                                go_ret
                                exact ⟨rfl, HBwt_193.out⟩
                            | true =>
                              cases t_193b with
                              | false =>
                                replace H := let_hid H
                                obtain ⟨t_205, ht_205, H⟩ := H
                                obtain rfl : t_205 = false := ht_205.symm
                                replace H := app_hid H
                                obtain rfl := ret_hid H
                                go_wp2_with fail
                                go_ret
                                exact ⟨rfl, HBwt_193.out⟩
                              | true =>
                                replace H := let_hid H
                                obtain ⟨t_205, ht_205, H⟩ := H
                                obtain rfl : t_205 = true := ht_205.symm
                                replace H := app_hid H
                                obtain rfl := ret_hid H
                                go_wp2_with fail
                                go_ret
                                exact ⟨rfl, HBwt_193.out⟩
                        | true =>
                          replace H := let_hid H
                          obtain ⟨t_129, ht_129, H⟩ := H
                          obtain rfl : t_129 = true := ht_129.symm
                          replace H := app_hid H
                          replace H := join_hid H
                          replace H := ite_t H
                          replace H := app_hid H
                          replace H := ite_t H
                          obtain rfl := ret_hid H
                          go_wp2_with fail
                          go_ret
                          exact ⟨rfl, HBwt_117.out⟩
                      | true =>
                        cases t_117b with
                        | false =>
                          replace H := let_hid H
                          obtain ⟨t_129, ht_129, H⟩ := H
                          obtain rfl : t_129 = true := ht_129.symm
                          replace H := app_hid H
                          replace H := join_hid H
                          replace H := ite_t H
                          replace H := app_hid H
                          replace H := ite_t H
                          obtain rfl := ret_hid H
                          go_wp2_with fail
                          go_ret
                          exact ⟨rfl, HBwt_117.out⟩
                        | true =>
                          replace H := let_hid H
                          obtain ⟨t_129, ht_129, H⟩ := H
                          obtain rfl : t_129 = false := ht_129.symm
                          replace H := app_hid H
                          replace H := join_hid H
                          replace H := ite_f H
                          replace H := let_hid H
                          obtain ⟨t_134, ht_134, H⟩ := H
                          obtain rfl : t_134 = true := ht_134.symm
                          replace H := app_hid H
                          replace H := ite_t H
                          obtain rfl := ret_hid H
                          go_wp2_with fail
                          go_ret
                          exact ⟨rfl, HBwt_117.out⟩
                    | true =>
                      replace H := ite_t H
                      replace H := app_hid H
                      replace H := join_hid H
                      replace H := ite_t H
                      replace H := app_hid H
                      replace H := ite_t H
                      obtain rfl := ret_hid H
                      go_wp2_with fail
                      go_ret
                      exact ⟨rfl, HBwt_117.out⟩
                  | true =>
                    replace H := let_hid H
                    obtain ⟨t_106, ht_106, H⟩ := H
                    obtain rfl : t_106 = true := ht_106.symm
                    replace H := app_hid H
                    replace H := ite_t H
                    obtain rfl := ret_hid H
                    go_wp2_with fail
                    go_ret
                    exact ⟨rfl, HBwt_94.out⟩
                | true =>
                  cases t_94b with
                  | false =>
                    replace H := let_hid H
                    obtain ⟨t_106, ht_106, H⟩ := H
                    obtain rfl : t_106 = true := ht_106.symm
                    replace H := app_hid H
                    replace H := ite_t H
                    obtain rfl := ret_hid H
                    go_wp2_with fail
                    go_ret
                    exact ⟨rfl, HBwt_94.out⟩
                  | true =>
                    replace H := let_hid H
                    obtain ⟨t_106, ht_106, H⟩ := H
                    obtain rfl : t_106 = false := ht_106.symm
                    replace H := app_hid H
                    replace H := ite_f H
                    replace H := bind2_hid H
                    obtain ⟨t_110a, t_110b, qt_110, H⟩ := H
                    go_wp2_with fail
                    go_at_call 26
                    refine (Go.Proofs.Ytbpjhmhnicfdfaa.GiSeenFromBack.C (t_84)  _    qt_110).mono ?_
                    rintro e_t_110 wt_110 ⟨rfl, bt_110⟩
                    have HBwt_110 := Lib.hid (Below.step HBwt_94.out bt_110)
                    clear bt_110
                    replace H := bind2_hid H
                    obtain ⟨t_117a, t_117b, qt_117, H⟩ := H
                    go_wp2_with fail
                    go_at_call 27
                    refine (Go.Proofs.Ytbpjhmhnicfdfaa.GsSeenFromBack.C (t_84)  _    qt_117).mono ?_
                    rintro e_t_117 wt_117 ⟨rfl, bt_117⟩
                    have HBwt_117 := Lib.hid (Below.step HBwt_110.out bt_117)
                    clear bt_117
                    replace H := let_hid H
                    obtain ⟨t_125, ht_125, H⟩ := H
                    replace H := join_hid H
                    cases t_125 with
                    | false =>
                      replace H := ite_f H
                      cases t_110b with
                      | false =>
                        cases t_117b with
                        | false =>
                          replace H := let_hid H
                          obtain ⟨t_129, ht_129, H⟩ := H
                          obtain rfl : t_129 = false := ht_129.symm
                          replace H := app_hid H
                          replace H := join_hid H
                          replace H := ite_f H
                          replace H := let_hid H
                          obtain ⟨t_134, ht_134, H⟩ := H
                          obtain rfl : t_134 = true := ht_134.symm
                          replace H := app_hid H
                          replace H := ite_t H
                          obtain rfl := ret_hid H
                          go_wp2_with fail
                          go_ret
                          exact ⟨rfl, HBwt_117.out⟩
                        | true =>
                          replace H := let_hid H
                          obtain ⟨t_129, ht_129, H⟩ := H
                          obtain rfl : t_129 = true := ht_129.symm
                          replace H := app_hid H
                          replace H := join_hid H
                          replace H := ite_t H
                          replace H := app_hid H
                          replace H := ite_t H
                          obtain rfl := ret_hid H
                          go_wp2_with fail
                          go_ret
                          exact ⟨rfl, HBwt_117.out⟩
                      | true =>
                        cases t_117b with
                        | false =>
                          replace H := let_hid H
                          obtain ⟨t_129, ht_129, H⟩ := H
                          obtain rfl : t_129 = true := ht_129.symm
                          replace H := app_hid H
                          replace H := join_hid H
                          replace H := ite_t H
                          replace H := app_hid H
                          replace H := ite_t H
                          obtain rfl := ret_hid H
                          go_wp2_with fail
                          go_ret
                          exact ⟨rfl, HBwt_117.out⟩
                        | true =>
                          replace H := let_hid H
                          obtain ⟨t_129, ht_129, H⟩ := H
                          obtain rfl : t_129 = false := ht_129.symm
                          replace H := app_hid H
                          replace H := join_hid H
                          replace H := ite_f H
                          replace H := let_hid H
                          obtain ⟨t_134, ht_134, H⟩ := H
                          obtain rfl : t_134 = false := ht_134.symm
                          replace H := app_hid H
                          replace H := ite_f H
                          replace H := ite_t H
                          replace H := bind2_hid H
                          obtain ⟨t_140a, t_140b, qt_140, H⟩ := H
                          go_wp2_with fail
                          go_at_call 21
                          refine (Go.Proofs.Ytbpjhmhnicfdfaa.GiJoinPositions.C (t_84) (t_87a)  _    qt_140).mono ?_
                          rintro e_t_140 wt_140 ⟨rfl, bt_140⟩
                          have HBwt_140 := Lib.hid (Below.step HBwt_117.out bt_140)
                          clear bt_140
                          replace H := bind2_hid H
                          obtain ⟨t_148a, t_148b, qt_148, H⟩ := H
                          go_wp2_with fail
                          go_at_call 21
                          refine (Go.Proofs.Ytbpjhmhnicfdfaa.GiJoinPositions.C (t_87a) (t_84)  _    qt_148).mono ?_
                          rintro e_t_148 wt_148 ⟨rfl, bt_148⟩
                          have HBwt_148 := Lib.hid (Below.step HBwt_140.out bt_148)
                          clear bt_148
                          replace H := bind2_hid H
                          obtain ⟨t_155a, t_155b, qt_155, H⟩ := H
                          go_wp2_with fail
                          go_at_call 26
                          refine (Go.Proofs.Ytbpjhmhnicfdfaa.GiSeenFromBack.C (t_110a)  _    qt_155).mono ?_
                          rintro e_t_155 wt_155 ⟨rfl, bt_155⟩
                          have HBwt_155 := Lib.hid (Below.step HBwt_148.out bt_155)
                          clear bt_155
                          cases t_140b with
                          | false =>
                            replace H := let_hid H
                            obtain ⟨t_162, ht_162, H⟩ := H
                            obtain rfl : t_162 = true := ht_162.symm
                            replace H := join_hid H
                            replace H := ite_t H
                            replace H := app_hid H
                            replace H := join_hid H
                            replace H := ite_t H
                            replace H := app_hid H
                            replace H := join_hid H
                            replace H := ite_t H
                            replace H := app_hid H
                            replace H := join_hid H
                            replace H := ite_t H
                            replace H := app_hid H
                            replace H := join_hid H
                            replace H := ite_t H
                            replace H := app_hid H
                            replace H := ite_t H
                            obtain rfl := ret_hid H
                            go_wp2_with fail
                            go_ret
                            exact ⟨rfl, HBwt_155.out⟩
                          | true =>
                            replace H := let_hid H
                            obtain ⟨t_162, ht_162, H⟩ := H
                            obtain rfl : t_162 = false := ht_162.symm
                            replace H := join_hid H
                            replace H := ite_f H
                            cases t_148b with
                            | false =>
                              replace H := let_hid H
                              obtain ⟨t_165, ht_165, H⟩ := H
                              obtain rfl : t_165 = true := ht_165.symm
                              replace H := app_hid H
                              replace H := join_hid H
                              replace H := ite_t H
                              replace H := app_hid H
                              replace H := join_hid H
                              replace H := ite_t H
                              replace H := app_hid H
                              replace H := join_hid H
                              replace H := ite_t H
                              replace H := app_hid H
                              replace H := join_hid H
                              replace H := ite_t H
                              replace H := app_hid H
                              replace H := ite_t H
                              obtain rfl := ret_hid H
                              go_wp2_with fail
                              go_ret
                              exact ⟨rfl, HBwt_155.out⟩
                            | true =>
                              replace H := let_hid H
                              obtain ⟨t_165, ht_165, H⟩ := H
                              obtain rfl : t_165 = false := ht_165.symm
                              replace H := app_hid H
                              replace H := join_hid H
                              replace H := ite_f H
                              cases t_155b with
                              | false =>
                                replace H := let_hid H
                                obtain ⟨t_169, ht_169, H⟩ := H
                                obtain rfl : t_169 = true := ht_169.symm
                                replace H := app_hid H
                                replace H := join_hid H
                                replace H := ite_t H
                                replace H := app_hid H
                                replace H := join_hid H
                                replace H := ite_t H
                                replace H := app_hid H
                                replace H := join_hid H
                                replace H := ite_t H
                                replace H := app_hid H
                                replace H := ite_t H
                                obtain rfl := ret_hid H
                                go_wp2_with fail
                                go_ret
                                exact ⟨rfl, HBwt_155.out⟩
                              | true =>
                                replace H := let_hid H
                                obtain ⟨t_169, ht_169, H⟩ := H
                                obtain rfl : t_169 = false := ht_169.symm
                                replace H := app_hid H
                                replace H := join_hid H
                                replace H := ite_f H
                                replace H := let_hid H
                                obtain ⟨t_173, ht_173, H⟩ := H
                                replace H := app_hid H
                                replace H := join_hid H
                                cases t_173 with
                                | false =>
                                  replace H := ite_f H
                                  replace H := let_hid H
                                  obtain ⟨t_177, ht_177, H⟩ := H
                                  replace H := app_hid H
                                  replace H := join_hid H
                                  cases t_177 with
                                  | false =>
                                    replace H := ite_f H
                                    replace H := let_hid H
                                    obtain ⟨t_182, ht_182, H⟩ := H
                                    replace H := app_hid H
                                    cases t_182 with
                                    | false =>
                                      replace H := ite_f H
                                      unfold j1 at H
                                      replace H := bind2_hid H
                                      obtain ⟨t_186a, t_186b, qt_186, H⟩ := H
                                      go_wp2_with fail
                                      go_at_call 28
                                      refine (Go.Proofs.Ytbpjhmhnicfdfaa.GiPositionName.C (t_84)  _    qt_186).mono ?_
                                      rintro e_t_186 wt_186 ⟨rfl, bt_186⟩
                                      have HBwt_186 := Lib.hid (Below.step HBwt_155.out bt_186)
                                      clear bt_186
                                      replace H := bind2_hid H
                                      obtain ⟨t_193a, t_193b, qt_193, H⟩ := H
                                      go_wp2_with fail
                                      go_at_call 29
                                      refine (Go.Proofs.Ytbpjhmhnicfdfaa.GsPositionName.C (t_84)  _    qt_193).mono ?_
                                      rintro e_t_193 wt_193 ⟨rfl, bt_193⟩
                                      have HBwt_193 := Lib.hid (Below.step HBwt_186.out bt_193)
                                      clear bt_193
                                      replace H := let_hid H
                                      obtain ⟨t_201, ht_201, H⟩ := H
                                      replace H := join_hid H
                                      cases t_201 with
                                      | false =>
                                        replace H := ite_f H
                                        replace H := app_hid H
                                        obtain rfl := ret_hid H
                                        go_wp2_with fail
                                        go_ret
                                        exact ⟨rfl, HBwt_193.out⟩
                                      | true =>
                                        replace H := ite_t H
                                        cases t_186b with
                                        | false =>
                                          cases t_193b with
                                          | false =>
                                            replace H := let_hid H
                                            obtain ⟨t_205, ht_205, H⟩ := H
                                            obtain rfl : t_205 = true := ht_205.symm
                                            replace H := app_hid H
                                            obtain rfl := ret_hid H
                                            go_wp2_with fail
                                            go_ret
                                            exact ⟨rfl, HBwt_193.out⟩
                                          | true =>
                                            replace H := let_hid H
                                            obtain ⟨t_205, ht_205, H⟩ := H
                                            obtain rfl : t_205 = false := ht_205.symm
                                            replace H := app_hid H
                                            obtain rfl := ret_hid H
                                            go_wp2_with fail
                                            go_ret
                                            exact ⟨rfl, HBwt_193.out⟩
                                        | true =>
                                          cases t_193b with
                                          | false =>
                                            replace H := let_hid H
                                            obtain ⟨t_205, ht_205, H⟩ := H
                                            obtain rfl : t_205 = false := ht_205.symm
                                            replace H := app_hid H
                                            obtain rfl := ret_hid H
                                            go_wp2_with fail
                                            go_ret
                                            exact ⟨rfl, HBwt_193.out⟩
                                          | true =>
                                            replace H := let_hid H
                                            obtain ⟨t_205, ht_205, H⟩ := H
                                            obtain rfl : t_205 = true := ht_205.symm
                                            replace H := app_hid H
                                            obtain rfl := ret_hid H
                                            go_wp2_with fail
                                            go_ret
                                            exact ⟨rfl, HBwt_193.out⟩
                                    | true =>
                                      replace H := ite_t H
                                      obtain rfl := ret_hid H
                                      go_wp2_with fail
                                      go_ret
                                      exact ⟨rfl, HBwt_155.out⟩
                                  | true =>
                                    replace H := ite_t H
                                    replace H := app_hid H
                                    replace H := ite_t H
                                    obtain rfl := ret_hid H
                                    go_wp2_with fail
                                    go_ret
                                    exact ⟨rfl, HBwt_155.out⟩
                                | true =>
                                  replace H := ite_t H
                                  replace H := app_hid H
                                  replace H := join_hid H
                                  replace H := ite_t H
                                  replace H := app_hid H
                                  replace H := ite_t H
                                  obtain rfl := ret_hid H
                                  go_wp2_with fail
                                  go_ret
                                  exact ⟨rfl, HBwt_155.out⟩
                    | true =>
                      replace H := ite_t H
                      replace H := app_hid H
                      replace H := join_hid H
                      replace H := ite_t H
                      replace H := app_hid H
                      replace H := ite_t H
                      obtain rfl := ret_hid H
                      go_wp2_with fail
                      go_ret
                      exact ⟨rfl, HBwt_117.out⟩
              | true =>
                replace H := ite_t H
                replace H := app_hid H
                replace H := ite_t H
                obtain rfl := ret_hid H
                go_wp2_with fail
                go_ret
                exact ⟨rfl, HBwt_94.out⟩
            | succ m0 =>
              have hlt0 : k0 < 8 := by omega
              have hc0 : decide ((k0 : Int) < ((8 : Nat) : Int)) = true := by simp; omega
              replace H := cnt_succ H
              unfold l0 at H
              replace H := bind2_hid H
              obtain ⟨t_42a, t_42b, qt_42, H⟩ := H
              go_wp2_with fail
              go_at_call 21
              refine (Go.Proofs.Ytbpjhmhnicfdfaa.GiJoinPositions.C (t_5b) ((k0 : Int))  _    qt_42).mono ?_
              rintro e_t_42 wt_42 ⟨rfl, bt_42⟩
              have HBwt_42 := Lib.hid (Below.step HBwr0.out bt_42)
              clear bt_42
              replace H := bind2_hid H
              obtain ⟨t_50a, t_50b, qt_50, H⟩ := H
              go_wp2_with fail
              go_at_call 21
              refine (Go.Proofs.Ytbpjhmhnicfdfaa.GiJoinPositions.C (t_13a) ((k0 : Int))  _    qt_50).mono ?_
              rintro e_t_50 wt_50 ⟨rfl, bt_50⟩
              have HBwt_50 := Lib.hid (Below.step HBwt_42.out bt_50)
              clear bt_50
              replace H := bind2_hid H
              obtain ⟨t_58a, t_58b, qt_58, H⟩ := H
              go_wp2_with fail
              go_at_call 21
              refine (Go.Proofs.Ytbpjhmhnicfdfaa.GiJoinPositions.C (t_5a) (t_42a)  _    qt_58).mono ?_
              rintro e_t_58 wt_58 ⟨rfl, bt_58⟩
              have HBwt_58 := Lib.hid (Below.step HBwt_50.out bt_58)
              clear bt_58
              cases t_42b with
              | false =>
                replace H := let_hid H
                obtain ⟨t_65, ht_65, H⟩ := H
                obtain rfl : t_65 = true := ht_65.symm
                replace H := join_hid H
                replace H := ite_t H
                replace H := app_hid H
                replace H := join_hid H
                replace H := ite_t H
                replace H := app_hid H
                replace H := join_hid H
                replace H := ite_t H
                replace H := app_hid H
                replace H := ite_t H
                obtain rfl := ret_hid H
                go_wp2_with fail
                go_ret
                exact ⟨rfl, HBwt_58.out⟩
              | true =>
                replace H := let_hid H
                obtain ⟨t_65, ht_65, H⟩ := H
                obtain rfl : t_65 = false := ht_65.symm
                replace H := join_hid H
                replace H := ite_f H
                cases t_50b with
                | false =>
                  replace H := let_hid H
                  obtain ⟨t_68, ht_68, H⟩ := H
                  obtain rfl : t_68 = true := ht_68.symm
                  replace H := app_hid H
                  replace H := join_hid H
                  replace H := ite_t H
                  replace H := app_hid H
                  replace H := join_hid H
                  replace H := ite_t H
                  replace H := app_hid H
                  replace H := ite_t H
                  obtain rfl := ret_hid H
                  go_wp2_with fail
                  go_ret
                  exact ⟨rfl, HBwt_58.out⟩
                | true =>
                  replace H := let_hid H
                  obtain ⟨t_68, ht_68, H⟩ := H
                  obtain rfl : t_68 = false := ht_68.symm
                  replace H := app_hid H
                  replace H := join_hid H
                  replace H := ite_f H
                  cases t_58b with
                  | false =>
                    replace H := let_hid H
                    obtain ⟨t_72, ht_72, H⟩ := H
                    obtain rfl : t_72 = true := ht_72.symm
                    replace H := app_hid H
                    replace H := join_hid H
                    replace H := ite_t H
                    replace H := app_hid H
                    replace H := ite_t H
                    obtain rfl := ret_hid H
                    go_wp2_with fail
                    go_ret
                    exact ⟨rfl, HBwt_58.out⟩
                  | true =>
                    replace H := let_hid H
                    obtain ⟨t_72, ht_72, H⟩ := H
                    obtain rfl : t_72 = false := ht_72.symm
                    replace H := app_hid H
                    replace H := join_hid H
                    replace H := ite_f H
                    replace H := let_hid H
                    obtain ⟨t_77, ht_77, H⟩ := H
                    replace H := app_hid H
                    cases t_77 with
                    | false =>
                      replace H := ite_f H
                      replace H := app_hid H
                      go_wp2_with fail
                      go_roundg m0
                      case measure => omega
                      case rel => exact ⟨k0 + 1, by omega, by go_num, H, HBwt_58⟩
                    | true =>
                      replace H := ite_t H
                      obtain rfl := ret_hid H
                      go_wp2_with fail
                      go_ret
                      exact ⟨rfl, HBwt_58.out⟩
    | true =>
      replace H := ite_t H
      replace H := app_hid H
      replace H := ite_t H
      obtain rfl := ret_hid H
      go_wp2_with fail
      go_ret
      exact ⟨rfl, HBwt_21.out⟩
  | true =>
    replace H := ite_t H
    obtain rfl := ret_hid H
    go_wp2_with fail
    go_ret
    exact ⟨rfl, HBwt_2.out⟩
end Go.Proofs.Ytbpjhmhnicfdfaa.GlFnTurned
