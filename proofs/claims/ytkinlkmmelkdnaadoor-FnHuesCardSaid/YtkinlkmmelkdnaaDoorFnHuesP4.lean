/- The texts on which the proof of FnHues stands, one behind the other (4 of 4). No condition of their own. -/
import Derived.Test.YtkinlkmmelkdnaaDoorChecked
import Derived.Test.YtkinlkmmelkdnaaDoorFnHuesP1
import Derived.Test.YtkinlkmmelkdnaaDoorFnHuesP2
import Derived.Test.YtkinlkmmelkdnaaDoorFnHuesP3
import Derived.WalkKit
import Derived.WalkSpells
import Derived.WalkLawsBesides
import Derived.BigQuiet
import Derived.OwnWalk
import Derived.Deep.LoopGhost
import Derived.Deep.QuietTactic
import Derived.IntWalk
import Derived.Lib.QuietBelow
import Derived.Test.YtkinlkmmelkdnaaDoorRows
import Derived.LaidSub
import Derived.Lib.LaidTab
import Derived.Lib.ItoaNum
import Derived.KernelRfl
import Derived.Lib.ItoaLen
import Derived.Lib.AtoiTie
import Derived.Lib.ItoaMem
/- loop.example/g01062/laws.FnHues as a plain function, and the contract of the program's: where the plain one has an answer, the program has it. Conditions: slices read as lists. -/
namespace Go.Proofs.YtkinlkmmelkdnaaDoor.GlFnHues
set_option linter.unusedVariables false
set_option linter.unusedSimpArgs false
open Go.RowKit
open Go.Proofs.YtkinlkmmelkdnaaDoor.Rowed Go.Proofs.YtkinlkmmelkdnaaDoor.Turn Go.Proofs.YtkinlkmmelkdnaaDoor.Aid Go.Proofs.YtkinlkmmelkdnaaDoor.GoP Go.Proofs.YtkinlkmmelkdnaaDoor.GoM Go.Proofs.YtkinlkmmelkdnaaDoor.Tab

def l0 (t_130a : (List Go.Proofs.YtkinlkmmelkdnaaDoor.PShade.Shade)) (t_130b : ByteArray) (t_141a : Int) (t_141b : Bool) (s : Int) (nx0 bk0 : Int → Option (Bool)) : Option (Bool) :=
  letK s fun i_26l0 =>
  letK (decide (i_26l0 < (t_130a.length : Int))) fun (t_169 : Bool) =>
  joinK (fun (t_172 : Bool) =>
  iteK t_172
  (Option.bind (idx t_130a i_26l0) fun (yt_175 : Go.Proofs.YtkinlkmmelkdnaaDoor.PShade.Shade) =>
  unShade yt_175 fun (t_175_name : ByteArray) (t_175_hue : Int) (t_175_width : Int) (t_175_dark : Int) (t_175_light : Int) =>
  letK (t_175_name.toList == t_130b.toList) fun (t_179 : Bool) =>
  joinK (fun (t_190 : Bool) =>
  iteK t_190
  (some false)
  (letK (IntKind.i64.wrap (i_26l0 + 1)) fun (t_193 : Int) =>
  appK nx0 (t_193))) fun jt_190 => iteK t_179 (Option.bind (idx t_130a i_26l0) fun (yt_184 : Go.Proofs.YtkinlkmmelkdnaaDoor.PShade.Shade) =>
  unShade yt_184 fun (t_184_name : ByteArray) (t_184_hue : Int) (t_184_width : Int) (t_184_dark : Int) (t_184_light : Int) =>
  letK (IntKind.i64.wrap (2 * t_184_width)) fun (t_187 : Int) =>
  letK (IntKind.i64.wrap (t_187 + 1)) fun (t_188 : Int) =>
  letK (decide (t_188 < t_141a)) fun (t_189 : Bool) =>
  appK jt_190 t_189) (appK jt_190 false))
  (appK bk0 (i_26l0))) fun jt_172 => iteK t_169 (appK jt_172 t_141b) (appK jt_172 false)

def e0 (code : (List Int)) (fuel : Nat) (tapes : List Int → Go.Proofs.YtkinlkmmelkdnaaDoor.GoC.Tape) (s : Int) : Option (Bool) :=
  letK s fun i_26l0 =>
  bind2 (Go.Proofs.YtkinlkmmelkdnaaDoor.GsDrawFreeColors.P fuel tapes code) fun (t_196a : (List Go.Proofs.YtkinlkmmelkdnaaDoor.PShade.Shade)) (t_196b : Int) =>
  bind2 (Go.Proofs.YtkinlkmmelkdnaaDoor.GiFreeColors.P t_196a t_196b) fun (t_204a : Int) (t_204b : Bool) =>
  bind2 (Go.Proofs.YtkinlkmmelkdnaaDoor.GsFreeColors.P t_196a t_196b) fun (t_212a : Int) (t_212b : Bool) =>
  Option.bind (Go.Proofs.YtkinlkmmelkdnaaDoor.GsDrawColorsIn.P tapes code) fun (t_219 : Go.Proofs.YtkinlkmmelkdnaaDoor.PShade.Shade) =>
  unShade t_219 fun (t_219_name : ByteArray) (t_219_hue : Int) (t_219_width : Int) (t_219_dark : Int) (t_219_light : Int) =>
  bind2 (Go.Proofs.YtkinlkmmelkdnaaDoor.GiColorsIn.P (Go.Proofs.YtkinlkmmelkdnaaDoor.PShade.Shade.mk t_219_name t_219_hue t_219_width t_219_dark t_219_light)) fun (t_223a : Int) (t_223b : Bool) =>
  bind2 (Go.Proofs.YtkinlkmmelkdnaaDoor.GsColorsIn.P (Go.Proofs.YtkinlkmmelkdnaaDoor.PShade.Shade.mk t_219_name t_219_hue t_219_width t_219_dark t_219_light)) fun (t_230a : Int) (t_230b : Bool) =>
  bind2 (Go.Proofs.YtkinlkmmelkdnaaDoor.GiShadeText.P (Go.Proofs.YtkinlkmmelkdnaaDoor.PShade.Shade.mk t_219_name t_219_hue t_219_width t_219_dark t_219_light)) fun (t_237a : ByteArray) (t_237b : Bool) =>
  bind2 (Go.Proofs.YtkinlkmmelkdnaaDoor.GsShadeText.P (Go.Proofs.YtkinlkmmelkdnaaDoor.PShade.Shade.mk t_219_name t_219_hue t_219_width t_219_dark t_219_light)) fun (t_244a : ByteArray) (t_244b : Bool) =>
  letK (t_204a == t_212a) fun (t_252 : Bool) =>
  joinK (fun (t_257 : Bool) =>
  joinK (fun (t_262 : Bool) =>
  joinK (fun (t_267 : Bool) =>
  joinK (fun (t_272 : Bool) =>
  joinK (fun (t_277 : Bool) =>
  some t_277) fun jt_277 => iteK t_272 (letK (t_237b == t_244b) fun (t_276 : Bool) =>
  appK jt_277 t_276) (appK jt_277 false)) fun jt_272 => iteK t_267 (letK (t_237a.toList == t_244a.toList) fun (t_271 : Bool) =>
  appK jt_272 t_271) (appK jt_272 false)) fun jt_267 => iteK t_262 (letK (t_223b == t_230b) fun (t_266 : Bool) =>
  appK jt_267 t_266) (appK jt_267 false)) fun jt_262 => iteK t_257 (letK (t_223a == t_230a) fun (t_261 : Bool) =>
  appK jt_262 t_261) (appK jt_262 false)) fun jt_257 => iteK t_252 (letK (t_204b == t_212b) fun (t_256 : Bool) =>
  appK jt_257 t_256) (appK jt_257 false)

def j0 (code : (List Int)) (fuel : Nat) (tapes : List Int → Go.Proofs.YtkinlkmmelkdnaaDoor.GoC.Tape) (s : Unit) : Option (Bool) :=
  bind3 (Go.Proofs.YtkinlkmmelkdnaaDoor.GsDrawCertainHues.P fuel tapes code) fun (t_130a : (List Go.Proofs.YtkinlkmmelkdnaaDoor.PShade.Shade)) (t_130b : ByteArray) (t_130c : Int) =>
  bind2 (Go.Proofs.YtkinlkmmelkdnaaDoor.GiCertainHues.P t_130a t_130b t_130c) fun (t_141a : Int) (t_141b : Bool) =>
  bind2 (Go.Proofs.YtkinlkmmelkdnaaDoor.GsCertainHues.P t_130a t_130b t_130c) fun (t_150a : Int) (t_150b : Bool) =>
  letK (t_141a != t_150a) fun (t_158 : Bool) =>
  joinK (fun (t_163 : Bool) =>
  iteK t_163
  (some false)
  (loopK (l0 t_130a t_130b t_141a t_141b) fuel (0) (e0 code fuel tapes))) fun jt_163 => iteK t_158 (appK jt_163 true) (letK (!(t_141b == t_150b)) fun (t_162 : Bool) =>
  appK jt_163 t_162)

def P (fuel : Nat) (tapes : List Int → Go.Proofs.YtkinlkmmelkdnaaDoor.GoC.Tape) (code : (List Int)) : Option (Bool) :=
  Option.bind (Go.Proofs.YtkinlkmmelkdnaaDoor.GlRBig.P code) fun (t_2 : Bool) =>
  iteK t_2
  (some true)
  (bind2 (Go.Proofs.YtkinlkmmelkdnaaDoor.GsDrawHueDistance.P tapes code) fun (t_5a : Int) (t_5b : Int) =>
  bind2 (Go.Proofs.YtkinlkmmelkdnaaDoor.GiHueDistance.P t_5a t_5b) fun (t_13a : Int) (t_13b : Bool) =>
  bind2 (Go.Proofs.YtkinlkmmelkdnaaDoor.GsHueDistance.P t_5a t_5b) fun (t_21a : Int) (t_21b : Bool) =>
  letK (t_13a != t_21a) fun (t_29 : Bool) =>
  joinK (fun (t_34 : Bool) =>
  iteK t_34
  (some false)
  (bind2 (Go.Proofs.YtkinlkmmelkdnaaDoor.GiHueDistance.P t_5b t_5a) fun (t_38a : Int) (t_38b : Bool) =>
  letK (t_38a != t_13a) fun (t_46 : Bool) =>
  joinK (fun (t_51 : Bool) =>
  joinK (fun (t_55 : Bool) =>
  iteK t_55
  (some false)
  (bind2 (Go.Proofs.YtkinlkmmelkdnaaDoor.GiBlendHue.P t_5a t_5b) fun (t_59a : Int) (t_59b : Bool) =>
  bind2 (Go.Proofs.YtkinlkmmelkdnaaDoor.GsBlendHue.P t_5a t_5b) fun (t_67a : Int) (t_67b : Bool) =>
  letK (t_59a != t_67a) fun (t_75 : Bool) =>
  joinK (fun (t_80 : Bool) =>
  joinK (fun (t_85 : Bool) =>
  iteK t_85
  (some false)
  (iteK t_59b
  (bind2 (Go.Proofs.YtkinlkmmelkdnaaDoor.GiHueDistance.P t_5a t_59a) fun (t_90a : Int) (t_90b : Bool) =>
  bind2 (Go.Proofs.YtkinlkmmelkdnaaDoor.GiHueDistance.P t_59a t_5b) fun (t_98a : Int) (t_98b : Bool) =>
  letK (!t_90b) fun (t_105 : Bool) =>
  joinK (fun (t_109 : Bool) =>
  joinK (fun (t_116 : Bool) =>
  joinK (fun (t_122 : Bool) =>
  joinK (fun (t_127 : Bool) =>
  iteK t_127
  (some false)
  (j0 code fuel tapes ())) fun jt_127 => iteK t_122 (appK jt_127 true) (letK (decide (t_98a < t_90a)) fun (t_126 : Bool) =>
  appK jt_127 t_126)) fun jt_122 => iteK t_116 (appK jt_122 true) (letK (IntKind.i64.wrap (t_98a - t_90a)) fun (t_120 : Int) =>
  letK (decide (1 < t_120)) fun (t_121 : Bool) =>
  appK jt_122 t_121)) fun jt_116 => iteK t_109 (appK jt_116 true) (letK (IntKind.i64.wrap (t_90a + t_98a)) fun (t_113 : Int) =>
  letK (t_113 != t_13a) fun (t_115 : Bool) =>
  appK jt_116 t_115)) fun jt_109 => iteK t_105 (appK jt_109 true) (letK (!t_98b) fun (t_108 : Bool) =>
  appK jt_109 t_108))
  (j0 code fuel tapes ()))) fun jt_85 => iteK t_80 (appK jt_85 true) (letK (!(t_59b == t_13b)) fun (t_84 : Bool) =>
  appK jt_85 t_84)) fun jt_80 => iteK t_75 (appK jt_80 true) (letK (!(t_59b == t_67b)) fun (t_79 : Bool) =>
  appK jt_80 t_79))) fun jt_55 => iteK t_51 (appK jt_55 true) (letK (decide (180 < t_13a)) fun (t_54 : Bool) =>
  appK jt_55 t_54)) fun jt_51 => iteK t_46 (appK jt_51 true) (letK (!(t_38b == t_13b)) fun (t_50 : Bool) =>
  appK jt_51 t_50))) fun jt_34 => iteK t_29 (appK jt_34 true) (letK (!(t_13b == t_21b)) fun (t_33 : Bool) =>
  appK jt_34 t_33))

set_option maxRecDepth 100000 in
set_option maxHeartbeats 2000000 in
theorem C (fuel : Nat) (tapes : List Int → Go.Proofs.YtkinlkmmelkdnaaDoor.GoC.Tape) (code : (List Int)) (A0 : Option Addr) (c0 : Nat)  (w : World) (HT : Hid (Tab w)) (HE : Hid (Go.Proofs.YtkinlkmmelkdnaaDoor.GoC.Tells tapes)) (M0 : Hid (Cells w 1 A0 code.length (Go.Proofs.YtkinlkmmelkdnaaDoor.GoC.u8s code))) (N0 : Hid (code.length ≤ 9223372036854775807)) (V0 : Hid (∀ z ∈ code, 0 ≤ z ∧ z ≤ 255))  {r : Bool} (H : Hid (P fuel tapes code = some r)) :
    Calls Tryd.prog 5 #[.slice A0 code.length c0] w (Gives (.bool r) w) := by
  have HB := Lib.hid (Below.refl w.heap.size w)
  unfold P at H
  have N0o := N0.out
  go_enter Tryd.func5, Tryd.ntmps5
  replace H := bind_hid H
  obtain ⟨t_2, qt_2, H⟩ := H
  go_wp2_with fail
  go_at_call 25
  refine (Go.Proofs.YtkinlkmmelkdnaaDoor.GlRBig.C (code) A0 c0 _   (Lib.hid (Cells.below M0.out HB.out)) N0 V0 qt_2).mono ?_
  rintro e_t_2 wt_2 ⟨rfl, bt_2⟩
  have HBwt_2 := Lib.hid (Below.step HB.out bt_2)
  clear bt_2
  cases t_2 with
  | false =>
    replace H := ite_f H
    replace H := bind2_hid H
    obtain ⟨t_5a, t_5b, qt_5, H⟩ := H
    go_wp2_with fail
    go_at_call 26
    refine (Go.Proofs.YtkinlkmmelkdnaaDoor.GsDrawHueDistance.C tapes (code) A0 c0 _  HE (Lib.hid (Cells.below M0.out HBwt_2.out)) N0 V0 qt_5).mono ?_
    rintro e_t_5 wt_5 ⟨rfl, bt_5⟩
    have HBwt_5 := Lib.hid (Below.step HBwt_2.out bt_5)
    clear bt_5
    replace H := bind2_hid H
    obtain ⟨t_13a, t_13b, qt_13, H⟩ := H
    go_wp2_with fail
    go_at_call 27
    refine (Go.Proofs.YtkinlkmmelkdnaaDoor.GiHueDistance.C (t_5a) (t_5b)  _    qt_13).mono ?_
    rintro e_t_13 wt_13 ⟨rfl, bt_13⟩
    have HBwt_13 := Lib.hid (Below.step HBwt_5.out bt_13)
    clear bt_13
    replace H := bind2_hid H
    obtain ⟨t_21a, t_21b, qt_21, H⟩ := H
    go_wp2_with fail
    go_at_call 28
    refine (Go.Proofs.YtkinlkmmelkdnaaDoor.GsHueDistance.C (t_5a) (t_5b)  _    qt_21).mono ?_
    rintro e_t_21 wt_21 ⟨rfl, bt_21⟩
    have HBwt_21 := Lib.hid (Below.step HBwt_13.out bt_21)
    clear bt_21
    replace H := let_hid H
    obtain ⟨t_29, ht_29, H⟩ := H
    replace H := join_hid H
    cases t_29 with
    | false =>
      replace H := ite_f H
      replace H := let_hid H
      obtain ⟨t_33, ht_33, H⟩ := H
      replace H := app_hid H
      cases t_33 with
      | false =>
        replace H := ite_f H
        replace H := bind2_hid H
        obtain ⟨t_38a, t_38b, qt_38, H⟩ := H
        go_wp2_with fail
        go_at_call 27
        refine (Go.Proofs.YtkinlkmmelkdnaaDoor.GiHueDistance.C (t_5b) (t_5a)  _    qt_38).mono ?_
        rintro e_t_38 wt_38 ⟨rfl, bt_38⟩
        have HBwt_38 := Lib.hid (Below.step HBwt_21.out bt_38)
        clear bt_38
        replace H := let_hid H
        obtain ⟨t_46, ht_46, H⟩ := H
        replace H := join_hid H
        cases t_46 with
        | false =>
          replace H := ite_f H
          replace H := let_hid H
          obtain ⟨t_50, ht_50, H⟩ := H
          replace H := app_hid H
          replace H := join_hid H
          cases t_50 with
          | false =>
            replace H := ite_f H
            replace H := let_hid H
            obtain ⟨t_54, ht_54, H⟩ := H
            replace H := app_hid H
            cases t_54 with
            | false =>
              replace H := ite_f H
              replace H := bind2_hid H
              obtain ⟨t_59a, t_59b, qt_59, H⟩ := H
              go_wp2_with fail
              go_at_call 29
              refine (Go.Proofs.YtkinlkmmelkdnaaDoor.GiBlendHue.C (t_5a) (t_5b)  _    qt_59).mono ?_
              rintro e_t_59 wt_59 ⟨rfl, bt_59⟩
              have HBwt_59 := Lib.hid (Below.step HBwt_38.out bt_59)
              clear bt_59
              replace H := bind2_hid H
              obtain ⟨t_67a, t_67b, qt_67, H⟩ := H
              go_wp2_with fail
              go_at_call 30
              refine (Go.Proofs.YtkinlkmmelkdnaaDoor.GsBlendHue.C (t_5a) (t_5b)  _    qt_67).mono ?_
              rintro e_t_67 wt_67 ⟨rfl, bt_67⟩
              have HBwt_67 := Lib.hid (Below.step HBwt_59.out bt_67)
              clear bt_67
              replace H := let_hid H
              obtain ⟨t_75, ht_75, H⟩ := H
              replace H := join_hid H
              cases t_75 with
              | false =>
                replace H := ite_f H
                replace H := let_hid H
                obtain ⟨t_79, ht_79, H⟩ := H
                replace H := app_hid H
                replace H := join_hid H
                cases t_79 with
                | false =>
                  replace H := ite_f H
                  replace H := let_hid H
                  obtain ⟨t_84, ht_84, H⟩ := H
                  replace H := app_hid H
                  cases t_84 with
                  | false =>
                    replace H := ite_f H
                    cases t_59b with
                    | false =>
                      obtain rfl : t_67b = false := by revert ht_79; cases t_67b <;> simp
                      obtain rfl : t_13b = false := by revert ht_84; cases t_13b <;> simp
                      obtain rfl : t_21b = false := by revert ht_33; cases t_21b <;> simp
                      obtain rfl : t_38b = false := by revert ht_50; cases t_38b <;> simp
                      replace H := ite_f H
                      unfold j0 at H
                      replace H := bind3_hid H
                      obtain ⟨t_130a, t_130b, t_130c, qt_130, H⟩ := H
                      go_wp2_with fail
                      go_at_call 31
                      refine (Go.Proofs.YtkinlkmmelkdnaaDoor.GsDrawCertainHues.C fuel tapes (code) A0 c0 _  HE (Lib.hid (Cells.below M0.out HBwt_67.out)) N0 V0 qt_130).mono ?_
                      rintro e_t_130 wt_130 ⟨At_130a, ct_130a, rfl, ot_130a, bt_130⟩
                      have Ot_130a := Lib.hid (own_lower ot_130a HBwt_67.out.size)
                      clear ot_130a
                      have HBwt_130 := Lib.hid (Below.step HBwt_67.out bt_130)
                      clear bt_130
                      replace H := bind2_hid H
                      obtain ⟨t_141a, t_141b, qt_141, H⟩ := H
                      go_wp2_with fail
                      go_at_call 32
                      refine (Go.Proofs.YtkinlkmmelkdnaaDoor.GiCertainHues.C (t_130a) (t_130b) (t_130c) At_130a ct_130a _   (Lib.hid (own_cells Ot_130a.out)) (Lib.hid (own_max Ot_130a.out)) (Lib.hid (own_room Ot_130a.out)) qt_141).mono ?_
                      rintro e_t_141 wt_141 ⟨rfl, bt_141⟩
                      have HBwt_141 := Lib.hid (Below.step HBwt_130.out bt_141)
                      replace Ot_130a := Lib.hid (own_below Ot_130a.out bt_141)
                      clear bt_141
                      replace H := bind2_hid H
                      obtain ⟨t_150a, t_150b, qt_150, H⟩ := H
                      go_wp2_with fail
                      go_at_call 33
                      refine (Go.Proofs.YtkinlkmmelkdnaaDoor.GsCertainHues.C (t_130a) (t_130b) (t_130c) At_130a ct_130a _   (Lib.hid (own_cells Ot_130a.out)) (Lib.hid (own_max Ot_130a.out)) qt_150).mono ?_
                      rintro e_t_150 wt_150 ⟨rfl, bt_150⟩
                      have HBwt_150 := Lib.hid (Below.step HBwt_141.out bt_150)
                      replace Ot_130a := Lib.hid (own_below Ot_130a.out bt_150)
                      clear bt_150
                      replace H := let_hid H
                      obtain ⟨t_158, ht_158, H⟩ := H
                      replace H := join_hid H
                      cases t_158 with
                      | false =>
                        replace H := ite_f H
                        replace H := let_hid H
                        obtain ⟨t_162, ht_162, H⟩ := H
                        replace H := app_hid H
                        cases t_162 with
                        | false =>
                          replace H := ite_f H
                          go_wp2_with fail
                          go_loopg [26] (fuel) (fun m_ v26_ wr => ∃ (i_26l0 : Int), v26_ = .int .i64 i_26l0 ∧ Hid (loopK (l0 t_130a t_130b t_141a t_141b) m_ (i_26l0) (e0 code fuel tapes) = some r) ∧ Hid (Below w.heap.size w wr) ∧ Hid (wr.ownsRow w.heap.size 54 5 (.slice At_130a t_130a.length ct_130a) t_130a.length (Go.Proofs.YtkinlkmmelkdnaaDoor.PShade.flat t_130a)))
                          case atStart => exact ⟨_, rfl, H, HBwt_150, Ot_130a⟩
                          case round =>
                            obtain ⟨i_26l0, rfl, H, HBwr0, Ot_130a⟩ := hrel
                            rename World => wr0
                            cases gk with
                            | zero => exact (loop_zero H).elim
                            | succ m0 =>
                              replace H := loop_succ H
                              unfold l0 at H
                              replace H := let_hid H
                              obtain ⟨_, rfl, H⟩ := H
                              replace H := let_hid H
                              obtain ⟨t_169, ht_169, H⟩ := H
                              replace H := join_hid H
                              cases t_169 with
                              | false =>
                                replace H := ite_f H
                                replace H := app_hid H
                                replace H := ite_f H
                                replace H := app_hid H
                                unfold e0 at H
                                replace H := let_hid H
                                obtain ⟨_, rfl, H⟩ := H
                                replace H := bind2_hid H
                                obtain ⟨t_196a, t_196b, qt_196, H⟩ := H
                                go_wp2_with fail
                                go_at_call 34
                                refine (Go.Proofs.YtkinlkmmelkdnaaDoor.GsDrawFreeColors.C fuel tapes (code) A0 c0 _  HE (Lib.hid (Cells.below M0.out HBwr0.out)) N0 V0 qt_196).mono ?_
                                rintro e_t_196 wt_196 ⟨At_196a, ct_196a, rfl, ot_196a, bt_196⟩
                                have Dt_196a_t_130a := Lib.hid (apart_call ot_196a Ot_130a.out)
                                have Ot_196a := Lib.hid (own_lower ot_196a HBwr0.out.size)
                                clear ot_196a
                                have HBwt_196 := Lib.hid (Below.step HBwr0.out bt_196)
                                replace Ot_130a := Lib.hid (own_below Ot_130a.out bt_196)
                                clear bt_196
                                replace H := bind2_hid H
                                obtain ⟨t_204a, t_204b, qt_204, H⟩ := H
                                go_wp2_with fail
                                go_at_call 35
                                refine (Go.Proofs.YtkinlkmmelkdnaaDoor.GiFreeColors.C (t_196a) (t_196b) At_196a ct_196a _   (Lib.hid (own_cells Ot_196a.out)) (Lib.hid (own_max Ot_196a.out)) qt_204).mono ?_
                                rintro e_t_204 wt_204 ⟨rfl, bt_204⟩
                                have HBwt_204 := Lib.hid (Below.step HBwt_196.out bt_204)
                                replace Ot_130a := Lib.hid (own_below Ot_130a.out bt_204)
                                replace Ot_196a := Lib.hid (own_below Ot_196a.out bt_204)
                                clear bt_204
                                replace H := bind2_hid H
                                obtain ⟨t_212a, t_212b, qt_212, H⟩ := H
                                go_wp2_with fail
                                go_at_call 36
                                refine (Go.Proofs.YtkinlkmmelkdnaaDoor.GsFreeColors.C (t_196a) (t_196b) At_196a ct_196a _   (Lib.hid (own_cells Ot_196a.out)) (Lib.hid (own_max Ot_196a.out)) qt_212).mono ?_
                                rintro e_t_212 wt_212 ⟨rfl, bt_212⟩
                                have HBwt_212 := Lib.hid (Below.step HBwt_204.out bt_212)
                                replace Ot_130a := Lib.hid (own_below Ot_130a.out bt_212)
                                replace Ot_196a := Lib.hid (own_below Ot_196a.out bt_212)
                                clear bt_212
                                replace H := bind_hid H
                                obtain ⟨t_219, qt_219, H⟩ := H
                                obtain ⟨t_219_name, t_219_hue, t_219_width, t_219_dark, t_219_light⟩ := t_219
                                replace H := unShade_hid H
                                go_wp2_with fail
                                go_at_call 37
                                refine (Go.Proofs.YtkinlkmmelkdnaaDoor.GsDrawColorsIn.C tapes (code) A0 c0 _  HE (Lib.hid (Cells.below M0.out HBwt_212.out)) N0 V0 qt_219).mono ?_
                                rintro e_t_219 wt_219 ⟨rfl, bt_219⟩
                                unfold Go.Proofs.YtkinlkmmelkdnaaDoor.PShade.Shade.val
                                have HBwt_219 := Lib.hid (Below.step HBwt_212.out bt_219)
                                replace Ot_130a := Lib.hid (own_below Ot_130a.out bt_219)
                                replace Ot_196a := Lib.hid (own_below Ot_196a.out bt_219)
                                clear bt_219
                                obtain ⟨w_x_220, hw_x_220⟩ : ∃ x, wt_219.alloc (.cells #[.string t_219_name, .int .i64 t_219_hue, .int .i64 t_219_width, .int .i64 t_219_dark, .int .i64 t_219_light] 54) = x := ⟨_, rfl⟩
                                have bw_x_220 : Below wt_219.heap.size wt_219 w_x_220 := by rw [← hw_x_220]; exact (Below.refl _ _).alloc (Nat.le_refl _) _
                                have Dx_220_t_130a := Lib.hid (apart_fresh Ot_130a.out)
                                have Dx_220_t_196a := Lib.hid (apart_fresh Ot_196a.out)
                                have HBw_x_220 := Lib.hid (Below.step HBwt_219.out bw_x_220)
                                replace Ot_130a := Lib.hid (own_below Ot_130a.out bw_x_220)
                                replace Ot_196a := Lib.hid (own_below Ot_196a.out bw_x_220)
                                clear bw_x_220
                                have kx_220_0 : w_x_220.cell? ⟨wt_219.heap.size, 0, none⟩ = some (.string t_219_name) := by rw [← hw_x_220]; exact box_new _ _ _ 0 _ rfl
                                have kx_220_1 : w_x_220.cell? ⟨wt_219.heap.size, 1, none⟩ = some (.int .i64 t_219_hue) := by rw [← hw_x_220]; exact box_new _ _ _ 1 _ rfl
                                have kx_220_2 : w_x_220.cell? ⟨wt_219.heap.size, 2, none⟩ = some (.int .i64 t_219_width) := by rw [← hw_x_220]; exact box_new _ _ _ 2 _ rfl
                                have kx_220_3 : w_x_220.cell? ⟨wt_219.heap.size, 3, none⟩ = some (.int .i64 t_219_dark) := by rw [← hw_x_220]; exact box_new _ _ _ 3 _ rfl
                                have kx_220_4 : w_x_220.cell? ⟨wt_219.heap.size, 4, none⟩ = some (.int .i64 t_219_light) := by rw [← hw_x_220]; exact box_new _ _ _ 4 _ rfl
                                replace H := bind2_hid H
                                obtain ⟨t_223a, t_223b, qt_223, H⟩ := H
                                go_wp2_with fail
                                go_at_call 38
                                refine (Go.Proofs.YtkinlkmmelkdnaaDoor.GiColorsIn.C ((Go.Proofs.YtkinlkmmelkdnaaDoor.PShade.Shade.mk t_219_name t_219_hue t_219_width t_219_dark t_219_light))  _    qt_223).mono ?_
                                rintro e_t_223 wt_223 ⟨rfl, bt_223⟩
                                have HBwt_223 := Lib.hid (Below.step HBw_x_220.out bt_223)
                                replace kx_220_0 := cell_below bt_223 kx_220_0
                                replace kx_220_1 := cell_below bt_223 kx_220_1
                                replace kx_220_2 := cell_below bt_223 kx_220_2
                                replace kx_220_3 := cell_below bt_223 kx_220_3
                                replace kx_220_4 := cell_below bt_223 kx_220_4
                                replace Ot_130a := Lib.hid (own_below Ot_130a.out bt_223)
                                replace Ot_196a := Lib.hid (own_below Ot_196a.out bt_223)
                                clear bt_223
                                replace H := bind2_hid H
                                obtain ⟨t_230a, t_230b, qt_230, H⟩ := H
                                go_wp2_with fail
                                go_at_call 39
                                refine (Go.Proofs.YtkinlkmmelkdnaaDoor.GsColorsIn.C ((Go.Proofs.YtkinlkmmelkdnaaDoor.PShade.Shade.mk t_219_name t_219_hue t_219_width t_219_dark t_219_light))  _    qt_230).mono ?_
                                rintro e_t_230 wt_230 ⟨rfl, bt_230⟩
                                have HBwt_230 := Lib.hid (Below.step HBwt_223.out bt_230)
                                replace kx_220_0 := cell_below bt_230 kx_220_0
                                replace kx_220_1 := cell_below bt_230 kx_220_1
                                replace kx_220_2 := cell_below bt_230 kx_220_2
                                replace kx_220_3 := cell_below bt_230 kx_220_3
                                replace kx_220_4 := cell_below bt_230 kx_220_4
                                replace Ot_130a := Lib.hid (own_below Ot_130a.out bt_230)
                                replace Ot_196a := Lib.hid (own_below Ot_196a.out bt_230)
                                clear bt_230
                                replace H := bind2_hid H
                                obtain ⟨t_237a, t_237b, qt_237, H⟩ := H
                                go_wp2_with fail
                                go_at_call 40
                                refine (Go.Proofs.YtkinlkmmelkdnaaDoor.GiShadeText.C ((Go.Proofs.YtkinlkmmelkdnaaDoor.PShade.Shade.mk t_219_name t_219_hue t_219_width t_219_dark t_219_light))  _ (tab_below HBwt_230.out HT)   qt_237).mono ?_
                                rintro e_t_237 wt_237 ⟨rfl, bt_237⟩
                                have HBwt_237 := Lib.hid (Below.step HBwt_230.out bt_237)
                                replace kx_220_0 := cell_below bt_237 kx_220_0
                                replace kx_220_1 := cell_below bt_237 kx_220_1
                                replace kx_220_2 := cell_below bt_237 kx_220_2
                                replace kx_220_3 := cell_below bt_237 kx_220_3
                                replace kx_220_4 := cell_below bt_237 kx_220_4
                                replace Ot_130a := Lib.hid (own_below Ot_130a.out bt_237)
                                replace Ot_196a := Lib.hid (own_below Ot_196a.out bt_237)
                                clear bt_237
                                replace H := bind2_hid H
                                obtain ⟨t_244a, t_244b, qt_244, H⟩ := H
                                go_wp2_with fail
                                go_at_call 41
                                refine (Go.Proofs.YtkinlkmmelkdnaaDoor.GsShadeText.C ((Go.Proofs.YtkinlkmmelkdnaaDoor.PShade.Shade.mk t_219_name t_219_hue t_219_width t_219_dark t_219_light))  _    qt_244).mono ?_
                                rintro e_t_244 wt_244 ⟨rfl, bt_244⟩
                                have HBwt_244 := Lib.hid (Below.step HBwt_237.out bt_244)
                                replace kx_220_0 := cell_below bt_244 kx_220_0
                                replace kx_220_1 := cell_below bt_244 kx_220_1
                                replace kx_220_2 := cell_below bt_244 kx_220_2
                                replace kx_220_3 := cell_below bt_244 kx_220_3
                                replace kx_220_4 := cell_below bt_244 kx_220_4
                                replace Ot_130a := Lib.hid (own_below Ot_130a.out bt_244)
                                replace Ot_196a := Lib.hid (own_below Ot_196a.out bt_244)
                                clear bt_244
                                replace H := let_hid H
                                obtain ⟨t_252, ht_252, H⟩ := H
                                replace H := join_hid H
                                cases t_252 with
                                | false =>
                                  replace H := ite_f H
                                  replace H := app_hid H
                                  replace H := join_hid H
                                  replace H := ite_f H
                                  replace H := app_hid H
                                  replace H := join_hid H
                                  replace H := ite_f H
                                  replace H := app_hid H
                                  replace H := join_hid H
                                  replace H := ite_f H
                                  replace H := app_hid H
                                  replace H := join_hid H
                                  replace H := ite_f H
                                  replace H := app_hid H
                                  obtain rfl := ret_hid H
                                  go_wp2_with fail
                                  go_ret
                                  exact ⟨rfl, HBwt_244.out⟩
                                | true =>
                                  replace H := ite_t H
                                  replace H := let_hid H
                                  obtain ⟨t_256, ht_256, H⟩ := H
                                  replace H := app_hid H
                                  replace H := join_hid H
                                  cases t_256 with
                                  | false =>
                                    replace H := ite_f H
                                    replace H := app_hid H
                                    replace H := join_hid H
                                    replace H := ite_f H
                                    replace H := app_hid H
                                    replace H := join_hid H
                                    replace H := ite_f H
                                    replace H := app_hid H
                                    replace H := join_hid H
                                    replace H := ite_f H
                                    replace H := app_hid H
                                    obtain rfl := ret_hid H
                                    go_wp2_with fail
                                    go_ret
                                    exact ⟨rfl, HBwt_244.out⟩
                                  | true =>
                                    replace H := ite_t H
                                    replace H := let_hid H
                                    obtain ⟨t_261, ht_261, H⟩ := H
                                    replace H := app_hid H
                                    replace H := join_hid H
                                    cases t_261 with
                                    | false =>
                                      replace H := ite_f H
                                      replace H := app_hid H
                                      replace H := join_hid H
                                      replace H := ite_f H
                                      replace H := app_hid H
                                      replace H := join_hid H
                                      replace H := ite_f H
                                      replace H := app_hid H
                                      obtain rfl := ret_hid H
                                      go_wp2_with fail
                                      go_ret
                                      exact ⟨rfl, HBwt_244.out⟩
                                    | true =>
                                      replace H := ite_t H
                                      replace H := let_hid H
                                      obtain ⟨t_266, ht_266, H⟩ := H
                                      replace H := app_hid H
                                      replace H := join_hid H
                                      cases t_266 with
                                      | false =>
                                        replace H := ite_f H
                                        replace H := app_hid H
                                        replace H := join_hid H
                                        replace H := ite_f H
                                        replace H := app_hid H
                                        obtain rfl := ret_hid H
                                        go_wp2_with fail
                                        go_ret
                                        exact ⟨rfl, HBwt_244.out⟩
                                      | true =>
                                        replace H := ite_t H
                                        replace H := let_hid H
                                        obtain ⟨t_271, ht_271, H⟩ := H
                                        replace H := app_hid H
                                        replace H := join_hid H
                                        cases t_271 with
                                        | false =>
                                          replace H := ite_f H
                                          replace H := app_hid H
                                          obtain rfl := ret_hid H
                                          go_wp2_with fail
                                          go_ret
                                          exact ⟨rfl, HBwt_244.out⟩
                                        | true =>
                                          replace H := ite_t H
                                          replace H := let_hid H
                                          obtain ⟨t_276, ht_276, H⟩ := H
                                          replace H := app_hid H
                                          obtain rfl := ret_hid H
                                          go_wp2_with fail
                                          go_ret
                                          exact ⟨rfl, HBwt_244.out⟩
                              | true =>
                                replace H := ite_t H
                                replace H := app_hid H
                                cases t_141b with
                                | false =>
                                  obtain rfl : t_150b = false := by revert ht_162; cases t_150b <;> simp
                                  replace H := ite_f H
                                  replace H := app_hid H
                                  unfold e0 at H
                                  replace H := let_hid H
                                  obtain ⟨_, rfl, H⟩ := H
                                  replace H := bind2_hid H
                                  obtain ⟨t_196a, t_196b, qt_196, H⟩ := H
                                  go_wp2_with fail
                                  go_at_call 34
                                  refine (Go.Proofs.YtkinlkmmelkdnaaDoor.GsDrawFreeColors.C fuel tapes (code) A0 c0 _  HE (Lib.hid (Cells.below M0.out HBwr0.out)) N0 V0 qt_196).mono ?_
                                  rintro e_t_196 wt_196 ⟨At_196a, ct_196a, rfl, ot_196a, bt_196⟩
                                  have Dt_196a_t_130a := Lib.hid (apart_call ot_196a Ot_130a.out)
                                  have Ot_196a := Lib.hid (own_lower ot_196a HBwr0.out.size)
                                  clear ot_196a
                                  have HBwt_196 := Lib.hid (Below.step HBwr0.out bt_196)
                                  replace Ot_130a := Lib.hid (own_below Ot_130a.out bt_196)
                                  clear bt_196
                                  replace H := bind2_hid H
                                  obtain ⟨t_204a, t_204b, qt_204, H⟩ := H
                                  go_wp2_with fail
                                  go_at_call 35
                                  refine (Go.Proofs.YtkinlkmmelkdnaaDoor.GiFreeColors.C (t_196a) (t_196b) At_196a ct_196a _   (Lib.hid (own_cells Ot_196a.out)) (Lib.hid (own_max Ot_196a.out)) qt_204).mono ?_
                                  rintro e_t_204 wt_204 ⟨rfl, bt_204⟩
                                  have HBwt_204 := Lib.hid (Below.step HBwt_196.out bt_204)
                                  replace Ot_130a := Lib.hid (own_below Ot_130a.out bt_204)
                                  replace Ot_196a := Lib.hid (own_below Ot_196a.out bt_204)
                                  clear bt_204
                                  replace H := bind2_hid H
                                  obtain ⟨t_212a, t_212b, qt_212, H⟩ := H
                                  go_wp2_with fail
                                  go_at_call 36
                                  refine (Go.Proofs.YtkinlkmmelkdnaaDoor.GsFreeColors.C (t_196a) (t_196b) At_196a ct_196a _   (Lib.hid (own_cells Ot_196a.out)) (Lib.hid (own_max Ot_196a.out)) qt_212).mono ?_
                                  rintro e_t_212 wt_212 ⟨rfl, bt_212⟩
                                  have HBwt_212 := Lib.hid (Below.step HBwt_204.out bt_212)
                                  replace Ot_130a := Lib.hid (own_below Ot_130a.out bt_212)
                                  replace Ot_196a := Lib.hid (own_below Ot_196a.out bt_212)
                                  clear bt_212
                                  replace H := bind_hid H
                                  obtain ⟨t_219, qt_219, H⟩ := H
                                  obtain ⟨t_219_name, t_219_hue, t_219_width, t_219_dark, t_219_light⟩ := t_219
                                  replace H := unShade_hid H
                                  go_wp2_with fail
                                  go_at_call 37
                                  refine (Go.Proofs.YtkinlkmmelkdnaaDoor.GsDrawColorsIn.C tapes (code) A0 c0 _  HE (Lib.hid (Cells.below M0.out HBwt_212.out)) N0 V0 qt_219).mono ?_
                                  rintro e_t_219 wt_219 ⟨rfl, bt_219⟩
                                  unfold Go.Proofs.YtkinlkmmelkdnaaDoor.PShade.Shade.val
                                  have HBwt_219 := Lib.hid (Below.step HBwt_212.out bt_219)
                                  replace Ot_130a := Lib.hid (own_below Ot_130a.out bt_219)
                                  replace Ot_196a := Lib.hid (own_below Ot_196a.out bt_219)
                                  clear bt_219
                                  obtain ⟨w_x_220, hw_x_220⟩ : ∃ x, wt_219.alloc (.cells #[.string t_219_name, .int .i64 t_219_hue, .int .i64 t_219_width, .int .i64 t_219_dark, .int .i64 t_219_light] 54) = x := ⟨_, rfl⟩
                                  have bw_x_220 : Below wt_219.heap.size wt_219 w_x_220 := by rw [← hw_x_220]; exact (Below.refl _ _).alloc (Nat.le_refl _) _
                                  have Dx_220_t_130a := Lib.hid (apart_fresh Ot_130a.out)
                                  have Dx_220_t_196a := Lib.hid (apart_fresh Ot_196a.out)
                                  have HBw_x_220 := Lib.hid (Below.step HBwt_219.out bw_x_220)
                                  replace Ot_130a := Lib.hid (own_below Ot_130a.out bw_x_220)
                                  replace Ot_196a := Lib.hid (own_below Ot_196a.out bw_x_220)
                                  clear bw_x_220
                                  have kx_220_0 : w_x_220.cell? ⟨wt_219.heap.size, 0, none⟩ = some (.string t_219_name) := by rw [← hw_x_220]; exact box_new _ _ _ 0 _ rfl
                                  have kx_220_1 : w_x_220.cell? ⟨wt_219.heap.size, 1, none⟩ = some (.int .i64 t_219_hue) := by rw [← hw_x_220]; exact box_new _ _ _ 1 _ rfl
                                  have kx_220_2 : w_x_220.cell? ⟨wt_219.heap.size, 2, none⟩ = some (.int .i64 t_219_width) := by rw [← hw_x_220]; exact box_new _ _ _ 2 _ rfl
                                  have kx_220_3 : w_x_220.cell? ⟨wt_219.heap.size, 3, none⟩ = some (.int .i64 t_219_dark) := by rw [← hw_x_220]; exact box_new _ _ _ 3 _ rfl
                                  have kx_220_4 : w_x_220.cell? ⟨wt_219.heap.size, 4, none⟩ = some (.int .i64 t_219_light) := by rw [← hw_x_220]; exact box_new _ _ _ 4 _ rfl
                                  replace H := bind2_hid H
                                  obtain ⟨t_223a, t_223b, qt_223, H⟩ := H
                                  go_wp2_with fail
                                  go_at_call 38
                                  refine (Go.Proofs.YtkinlkmmelkdnaaDoor.GiColorsIn.C ((Go.Proofs.YtkinlkmmelkdnaaDoor.PShade.Shade.mk t_219_name t_219_hue t_219_width t_219_dark t_219_light))  _    qt_223).mono ?_
                                  rintro e_t_223 wt_223 ⟨rfl, bt_223⟩
                                  have HBwt_223 := Lib.hid (Below.step HBw_x_220.out bt_223)
                                  replace kx_220_0 := cell_below bt_223 kx_220_0
                                  replace kx_220_1 := cell_below bt_223 kx_220_1
                                  replace kx_220_2 := cell_below bt_223 kx_220_2
                                  replace kx_220_3 := cell_below bt_223 kx_220_3
                                  replace kx_220_4 := cell_below bt_223 kx_220_4
                                  replace Ot_130a := Lib.hid (own_below Ot_130a.out bt_223)
                                  replace Ot_196a := Lib.hid (own_below Ot_196a.out bt_223)
                                  clear bt_223
                                  replace H := bind2_hid H
                                  obtain ⟨t_230a, t_230b, qt_230, H⟩ := H
                                  go_wp2_with fail
                                  go_at_call 39
                                  refine (Go.Proofs.YtkinlkmmelkdnaaDoor.GsColorsIn.C ((Go.Proofs.YtkinlkmmelkdnaaDoor.PShade.Shade.mk t_219_name t_219_hue t_219_width t_219_dark t_219_light))  _    qt_230).mono ?_
                                  rintro e_t_230 wt_230 ⟨rfl, bt_230⟩
                                  have HBwt_230 := Lib.hid (Below.step HBwt_223.out bt_230)
                                  replace kx_220_0 := cell_below bt_230 kx_220_0
                                  replace kx_220_1 := cell_below bt_230 kx_220_1
                                  replace kx_220_2 := cell_below bt_230 kx_220_2
                                  replace kx_220_3 := cell_below bt_230 kx_220_3
                                  replace kx_220_4 := cell_below bt_230 kx_220_4
                                  replace Ot_130a := Lib.hid (own_below Ot_130a.out bt_230)
                                  replace Ot_196a := Lib.hid (own_below Ot_196a.out bt_230)
                                  clear bt_230
                                  replace H := bind2_hid H
                                  obtain ⟨t_237a, t_237b, qt_237, H⟩ := H
                                  go_wp2_with fail
                                  go_at_call 40
                                  refine (Go.Proofs.YtkinlkmmelkdnaaDoor.GiShadeText.C ((Go.Proofs.YtkinlkmmelkdnaaDoor.PShade.Shade.mk t_219_name t_219_hue t_219_width t_219_dark t_219_light))  _ (tab_below HBwt_230.out HT)   qt_237).mono ?_
                                  rintro e_t_237 wt_237 ⟨rfl, bt_237⟩
                                  have HBwt_237 := Lib.hid (Below.step HBwt_230.out bt_237)
                                  replace kx_220_0 := cell_below bt_237 kx_220_0
                                  replace kx_220_1 := cell_below bt_237 kx_220_1
                                  replace kx_220_2 := cell_below bt_237 kx_220_2
                                  replace kx_220_3 := cell_below bt_237 kx_220_3
                                  replace kx_220_4 := cell_below bt_237 kx_220_4
                                  replace Ot_130a := Lib.hid (own_below Ot_130a.out bt_237)
                                  replace Ot_196a := Lib.hid (own_below Ot_196a.out bt_237)
                                  clear bt_237
                                  replace H := bind2_hid H
                                  obtain ⟨t_244a, t_244b, qt_244, H⟩ := H
                                  go_wp2_with fail
                                  go_at_call 41
                                  refine (Go.Proofs.YtkinlkmmelkdnaaDoor.GsShadeText.C ((Go.Proofs.YtkinlkmmelkdnaaDoor.PShade.Shade.mk t_219_name t_219_hue t_219_width t_219_dark t_219_light))  _    qt_244).mono ?_
                                  rintro e_t_244 wt_244 ⟨rfl, bt_244⟩
                                  have HBwt_244 := Lib.hid (Below.step HBwt_237.out bt_244)
                                  replace kx_220_0 := cell_below bt_244 kx_220_0
                                  replace kx_220_1 := cell_below bt_244 kx_220_1
                                  replace kx_220_2 := cell_below bt_244 kx_220_2
                                  replace kx_220_3 := cell_below bt_244 kx_220_3
                                  replace kx_220_4 := cell_below bt_244 kx_220_4
                                  replace Ot_130a := Lib.hid (own_below Ot_130a.out bt_244)
                                  replace Ot_196a := Lib.hid (own_below Ot_196a.out bt_244)
                                  clear bt_244
                                  replace H := let_hid H
                                  obtain ⟨t_252, ht_252, H⟩ := H
                                  replace H := join_hid H
                                  cases t_252 with
                                  | false =>
                                    replace H := ite_f H
                                    replace H := app_hid H
                                    replace H := join_hid H
                                    replace H := ite_f H
                                    replace H := app_hid H
                                    replace H := join_hid H
                                    replace H := ite_f H
                                    replace H := app_hid H
                                    replace H := join_hid H
                                    replace H := ite_f H
                                    replace H := app_hid H
                                    replace H := join_hid H
                                    replace H := ite_f H
                                    replace H := app_hid H
                                    obtain rfl := ret_hid H
                                    go_wp2_with fail
                                    go_ret
                                    exact ⟨rfl, HBwt_244.out⟩
                                  | true =>
                                    replace H := ite_t H
                                    replace H := let_hid H
                                    obtain ⟨t_256, ht_256, H⟩ := H
                                    replace H := app_hid H
                                    replace H := join_hid H
                                    cases t_256 with
                                    | false =>
                                      replace H := ite_f H
                                      replace H := app_hid H
                                      replace H := join_hid H
                                      replace H := ite_f H
                                      replace H := app_hid H
                                      replace H := join_hid H
                                      replace H := ite_f H
                                      replace H := app_hid H
                                      replace H := join_hid H
                                      replace H := ite_f H
                                      replace H := app_hid H
                                      obtain rfl := ret_hid H
                                      go_wp2_with fail
                                      go_ret
                                      exact ⟨rfl, HBwt_244.out⟩
                                    | true =>
                                      replace H := ite_t H
                                      replace H := let_hid H
                                      obtain ⟨t_261, ht_261, H⟩ := H
                                      replace H := app_hid H
                                      replace H := join_hid H
                                      cases t_261 with
                                      | false =>
                                        replace H := ite_f H
                                        replace H := app_hid H
                                        replace H := join_hid H
                                        replace H := ite_f H
                                        replace H := app_hid H
                                        replace H := join_hid H
                                        replace H := ite_f H
                                        replace H := app_hid H
                                        obtain rfl := ret_hid H
                                        go_wp2_with fail
                                        go_ret
                                        exact ⟨rfl, HBwt_244.out⟩
                                      | true =>
                                        replace H := ite_t H
                                        replace H := let_hid H
                                        obtain ⟨t_266, ht_266, H⟩ := H
                                        replace H := app_hid H
                                        replace H := join_hid H
                                        cases t_266 with
                                        | false =>
                                          replace H := ite_f H
                                          replace H := app_hid H
                                          replace H := join_hid H
                                          replace H := ite_f H
                                          replace H := app_hid H
                                          obtain rfl := ret_hid H
                                          go_wp2_with fail
                                          go_ret
                                          exact ⟨rfl, HBwt_244.out⟩
                                        | true =>
                                          replace H := ite_t H
                                          replace H := let_hid H
                                          obtain ⟨t_271, ht_271, H⟩ := H
                                          replace H := app_hid H
                                          replace H := join_hid H
                                          cases t_271 with
                                          | false =>
                                            replace H := ite_f H
                                            replace H := app_hid H
                                            obtain rfl := ret_hid H
                                            go_wp2_with fail
                                            go_ret
                                            exact ⟨rfl, HBwt_244.out⟩
                                          | true =>
                                            replace H := ite_t H
                                            replace H := let_hid H
                                            obtain ⟨t_276, ht_276, H⟩ := H
                                            replace H := app_hid H
                                            obtain rfl := ret_hid H
                                            go_wp2_with fail
                                            go_ret
                                            exact ⟨rfl, HBwt_244.out⟩
                                | true =>
                                  obtain rfl : t_150b = true := by revert ht_162; cases t_150b <;> simp
                                  replace H := ite_t H
                                  replace H := idx_hid H
                                  obtain ⟨nt_175, yt_175, et_175, lt_175, gt_175, H⟩ := H
                                  subst et_175
                                  have nc_298 : nt_175 < t_130a.length := by have := of_decide_eq_true ht_169; omega
                                  obtain ⟨t_175_name, t_175_hue, t_175_width, t_175_dark, t_175_light⟩ := yt_175
                                  replace H := unShade_hid H
                                  obtain ⟨qt_175, Qt_175⟩ := own_some Ot_130a.out (by omega)
                                  subst Qt_175
                                  obtain ⟨ab_t_175, ao_t_175, zt_175, At_175, z_t_175, ct_175_0, ct_175_1, ct_175_2, ct_175_3, ct_175_4⟩ := Go.Proofs.YtkinlkmmelkdnaaDoor.OShade.at_ (own_cells Ot_130a.out) (k := nt_175) (by omega)
                                  obtain rfl := Option.some.inj (gt_175.out.symm.trans z_t_175)
                                  simp only [Option.some.injEq, Addr.mk.injEq] at At_175
                                  obtain ⟨rfl, rfl, _⟩ := At_175
                                  clear z_t_175
                                  simp only [Nat.zero_add] at ct_175_0 ct_175_1 ct_175_2 ct_175_3 ct_175_4
                                  have b0t_175 : (0 : Int) ≤ (nt_175 : Int) := by omega
                                  have b1t_175 : (nt_175 : Int) < ((t_130a.length : Nat) : Int) := by omega
                                  have b2t_175 : ((nt_175 : Int)).toNat = nt_175 := by omega
                                  replace H := let_hid H
                                  obtain ⟨t_179, ht_179, H⟩ := H
                                  replace H := join_hid H
                                  cases t_179 with
                                  | false =>
                                    replace H := ite_f H
                                    replace H := app_hid H
                                    replace H := ite_f H
                                    replace H := let_hid H
                                    obtain ⟨t_193, ht_193, H⟩ := H
                                    replace H := app_hid H
                                    go_wp2_with fail
                                    go_roundg m0
                                    case measure => omega
                                    case rel => exact ⟨_, rfl, H, HBwr0, Ot_130a⟩
                                  | true =>
                                    replace H := ite_t H
                                    replace H := idx_hid H
                                    obtain ⟨nt_184, yt_184, et_184, lt_184, gt_184, H⟩ := H
                                    obtain rfl : nt_175 = nt_184 := by omega
                                    clear et_184
                                    obtain rfl := Option.some.inj (gt_175.out.symm.trans gt_184.out)
                                    clear gt_184 lt_184
                                    replace H := unShade_hid H
                                    replace H := let_hid H
                                    obtain ⟨t_187, ht_187, H⟩ := H
                                    replace H := let_hid H
                                    obtain ⟨t_188, ht_188, H⟩ := H
                                    replace H := let_hid H
                                    obtain ⟨t_189, ht_189, H⟩ := H
                                    replace H := app_hid H
                                    cases t_189 with
                                    | false =>
                                      replace H := ite_f H
                                      replace H := let_hid H
                                      obtain ⟨t_193, ht_193, H⟩ := H
                                      replace H := app_hid H
                                      go_wp2_with fail
                                      go_roundg m0
                                      case measure => omega
                                      case rel => exact ⟨_, rfl, H, HBwr0, Ot_130a⟩
                                    | true =>
                                      replace H := ite_t H
                                      obtain rfl := ret_hid H
                                      go_wp2_with fail
                                      go_ret
                                      exact ⟨rfl, HBwr0.out⟩
                        | true =>
                          replace H := ite_t H
                          obtain rfl := ret_hid H
                          go_wp2_with fail
                          go_ret
                          exact ⟨rfl, HBwt_150.out⟩
                      | true =>
                        replace H := ite_t H
                        replace H := app_hid H
                        replace H := ite_t H
                        obtain rfl := ret_hid H
                        go_wp2_with fail
                        go_ret
                        exact ⟨rfl, HBwt_150.out⟩
                    | true =>
                      obtain rfl : t_67b = true := by revert ht_79; cases t_67b <;> simp
                      obtain rfl : t_13b = true := by revert ht_84; cases t_13b <;> simp
                      obtain rfl : t_21b = true := by revert ht_33; cases t_21b <;> simp
                      obtain rfl : t_38b = true := by revert ht_50; cases t_38b <;> simp
                      replace H := ite_t H
                      replace H := bind2_hid H
                      obtain ⟨t_90a, t_90b, qt_90, H⟩ := H
                      go_wp2_with fail
                      go_at_call 27
                      refine (Go.Proofs.YtkinlkmmelkdnaaDoor.GiHueDistance.C (t_5a) (t_59a)  _    qt_90).mono ?_
                      rintro e_t_90 wt_90 ⟨rfl, bt_90⟩
                      have HBwt_90 := Lib.hid (Below.step HBwt_67.out bt_90)
                      clear bt_90
                      replace H := bind2_hid H
                      obtain ⟨t_98a, t_98b, qt_98, H⟩ := H
                      go_wp2_with fail
                      go_at_call 27
                      refine (Go.Proofs.YtkinlkmmelkdnaaDoor.GiHueDistance.C (t_59a) (t_5b)  _    qt_98).mono ?_
                      rintro e_t_98 wt_98 ⟨rfl, bt_98⟩
                      have HBwt_98 := Lib.hid (Below.step HBwt_90.out bt_98)
                      clear bt_98
                      cases t_90b with
                      | false =>
                        replace H := let_hid H
                        obtain ⟨t_105, ht_105, H⟩ := H
                        obtain rfl : t_105 = true := ht_105.symm
                        replace H := join_hid H
                        replace H := ite_t H
                        replace H := app_hid H
                        replace H := join_hid H
                        replace H := ite_t H
                        replace H := app_hid H
                        replace H := join_hid H
                        replace H := ite_t H
                        replace H := app_hid H
                        replace H := join_hid H
                        replace H := ite_t H
                        replace H := app_hid H
                        replace H := ite_t H
                        obtain rfl := ret_hid H
                        go_wp2_with fail
                        go_ret
                        exact ⟨rfl, HBwt_98.out⟩
                      | true =>
                        replace H := let_hid H
                        obtain ⟨t_105, ht_105, H⟩ := H
                        obtain rfl : t_105 = false := ht_105.symm
                        replace H := join_hid H
                        replace H := ite_f H
                        cases t_98b with
                        | false =>
                          replace H := let_hid H
                          obtain ⟨t_108, ht_108, H⟩ := H
                          obtain rfl : t_108 = true := ht_108.symm
                          replace H := app_hid H
                          replace H := join_hid H
                          replace H := ite_t H
                          replace H := app_hid H
                          replace H := join_hid H
                          replace H := ite_t H
                          replace H := app_hid H
                          replace H := join_hid H
                          replace H := ite_t H
                          replace H := app_hid H
                          replace H := ite_t H
                          obtain rfl := ret_hid H
                          go_wp2_with fail
                          go_ret
                          exact ⟨rfl, HBwt_98.out⟩
                        | true =>
                          replace H := let_hid H
                          obtain ⟨t_108, ht_108, H⟩ := H
                          obtain rfl : t_108 = false := ht_108.symm
                          replace H := app_hid H
                          replace H := join_hid H
                          replace H := ite_f H
                          replace H := let_hid H
                          obtain ⟨t_113, ht_113, H⟩ := H
                          replace H := let_hid H
                          obtain ⟨t_115, ht_115, H⟩ := H
                          replace H := app_hid H
                          replace H := join_hid H
                          cases t_115 with
                          | false =>
                            replace H := ite_f H
                            replace H := let_hid H
                            obtain ⟨t_120, ht_120, H⟩ := H
                            replace H := let_hid H
                            obtain ⟨t_121, ht_121, H⟩ := H
                            replace H := app_hid H
                            replace H := join_hid H
                            cases t_121 with
                            | false =>
                              replace H := ite_f H
                              replace H := let_hid H
                              obtain ⟨t_126, ht_126, H⟩ := H
                              replace H := app_hid H
                              cases t_126 with
                              | false =>
                                replace H := ite_f H
                                unfold j0 at H
                                replace H := bind3_hid H
                                obtain ⟨t_130a, t_130b, t_130c, qt_130, H⟩ := H
                                go_wp2_with fail
                                go_at_call 31
                                refine (Go.Proofs.YtkinlkmmelkdnaaDoor.GsDrawCertainHues.C fuel tapes (code) A0 c0 _  HE (Lib.hid (Cells.below M0.out HBwt_98.out)) N0 V0 qt_130).mono ?_
                                rintro e_t_130 wt_130 ⟨At_130a, ct_130a, rfl, ot_130a, bt_130⟩
                                have Ot_130a := Lib.hid (own_lower ot_130a HBwt_98.out.size)
                                clear ot_130a
                                have HBwt_130 := Lib.hid (Below.step HBwt_98.out bt_130)
                                clear bt_130
                                replace H := bind2_hid H
                                obtain ⟨t_141a, t_141b, qt_141, H⟩ := H
                                go_wp2_with fail
                                go_at_call 32
                                refine (Go.Proofs.YtkinlkmmelkdnaaDoor.GiCertainHues.C (t_130a) (t_130b) (t_130c) At_130a ct_130a _   (Lib.hid (own_cells Ot_130a.out)) (Lib.hid (own_max Ot_130a.out)) (Lib.hid (own_room Ot_130a.out)) qt_141).mono ?_
                                rintro e_t_141 wt_141 ⟨rfl, bt_141⟩
                                have HBwt_141 := Lib.hid (Below.step HBwt_130.out bt_141)
                                replace Ot_130a := Lib.hid (own_below Ot_130a.out bt_141)
                                clear bt_141
                                replace H := bind2_hid H
                                obtain ⟨t_150a, t_150b, qt_150, H⟩ := H
                                go_wp2_with fail
                                go_at_call 33
                                refine (Go.Proofs.YtkinlkmmelkdnaaDoor.GsCertainHues.C (t_130a) (t_130b) (t_130c) At_130a ct_130a _   (Lib.hid (own_cells Ot_130a.out)) (Lib.hid (own_max Ot_130a.out)) qt_150).mono ?_
                                rintro e_t_150 wt_150 ⟨rfl, bt_150⟩
                                have HBwt_150 := Lib.hid (Below.step HBwt_141.out bt_150)
                                replace Ot_130a := Lib.hid (own_below Ot_130a.out bt_150)
                                clear bt_150
                                replace H := let_hid H
                                obtain ⟨t_158, ht_158, H⟩ := H
                                replace H := join_hid H
                                cases t_158 with
                                | false =>
                                  replace H := ite_f H
                                  replace H := let_hid H
                                  obtain ⟨t_162, ht_162, H⟩ := H
                                  replace H := app_hid H
                                  cases t_162 with
                                  | false =>
                                    replace H := ite_f H
                                    go_wp2_with fail
                                    go_loopg [26] (fuel) (fun m_ v26_ wr => ∃ (i_26l0 : Int), v26_ = .int .i64 i_26l0 ∧ Hid (loopK (l0 t_130a t_130b t_141a t_141b) m_ (i_26l0) (e0 code fuel tapes) = some r) ∧ Hid (Below w.heap.size w wr) ∧ Hid (wr.ownsRow w.heap.size 54 5 (.slice At_130a t_130a.length ct_130a) t_130a.length (Go.Proofs.YtkinlkmmelkdnaaDoor.PShade.flat t_130a)))
                                    case atStart => exact ⟨_, rfl, H, HBwt_150, Ot_130a⟩
                                    case round =>
                                      obtain ⟨i_26l0, rfl, H, HBwr0, Ot_130a⟩ := hrel
                                      rename World => wr0
                                      cases gk with
                                      | zero => exact (loop_zero H).elim
                                      | succ m0 =>
                                        replace H := loop_succ H
                                        unfold l0 at H
                                        replace H := let_hid H
                                        obtain ⟨_, rfl, H⟩ := H
                                        replace H := let_hid H
                                        obtain ⟨t_169, ht_169, H⟩ := H
                                        replace H := join_hid H
                                        cases t_169 with
                                        | false =>
                                          replace H := ite_f H
                                          replace H := app_hid H
                                          replace H := ite_f H
                                          replace H := app_hid H
                                          unfold e0 at H
                                          replace H := let_hid H
                                          obtain ⟨_, rfl, H⟩ := H
                                          replace H := bind2_hid H
                                          obtain ⟨t_196a, t_196b, qt_196, H⟩ := H
                                          go_wp2_with fail
                                          go_at_call 34
                                          refine (Go.Proofs.YtkinlkmmelkdnaaDoor.GsDrawFreeColors.C fuel tapes (code) A0 c0 _  HE (Lib.hid (Cells.below M0.out HBwr0.out)) N0 V0 qt_196).mono ?_
                                          rintro e_t_196 wt_196 ⟨At_196a, ct_196a, rfl, ot_196a, bt_196⟩
                                          have Dt_196a_t_130a := Lib.hid (apart_call ot_196a Ot_130a.out)
                                          have Ot_196a := Lib.hid (own_lower ot_196a HBwr0.out.size)
                                          clear ot_196a
                                          have HBwt_196 := Lib.hid (Below.step HBwr0.out bt_196)
                                          replace Ot_130a := Lib.hid (own_below Ot_130a.out bt_196)
                                          clear bt_196
                                          replace H := bind2_hid H
                                          obtain ⟨t_204a, t_204b, qt_204, H⟩ := H
                                          go_wp2_with fail
                                          go_at_call 35
                                          refine (Go.Proofs.YtkinlkmmelkdnaaDoor.GiFreeColors.C (t_196a) (t_196b) At_196a ct_196a _   (Lib.hid (own_cells Ot_196a.out)) (Lib.hid (own_max Ot_196a.out)) qt_204).mono ?_
                                          rintro e_t_204 wt_204 ⟨rfl, bt_204⟩
                                          have HBwt_204 := Lib.hid (Below.step HBwt_196.out bt_204)
                                          replace Ot_130a := Lib.hid (own_below Ot_130a.out bt_204)
                                          replace Ot_196a := Lib.hid (own_below Ot_196a.out bt_204)
                                          clear bt_204
                                          replace H := bind2_hid H
                                          obtain ⟨t_212a, t_212b, qt_212, H⟩ := H
                                          go_wp2_with fail
                                          go_at_call 36
                                          refine (Go.Proofs.YtkinlkmmelkdnaaDoor.GsFreeColors.C (t_196a) (t_196b) At_196a ct_196a _   (Lib.hid (own_cells Ot_196a.out)) (Lib.hid (own_max Ot_196a.out)) qt_212).mono ?_
                                          rintro e_t_212 wt_212 ⟨rfl, bt_212⟩
                                          have HBwt_212 := Lib.hid (Below.step HBwt_204.out bt_212)
                                          replace Ot_130a := Lib.hid (own_below Ot_130a.out bt_212)
                                          replace Ot_196a := Lib.hid (own_below Ot_196a.out bt_212)
                                          clear bt_212
                                          replace H := bind_hid H
                                          obtain ⟨t_219, qt_219, H⟩ := H
                                          obtain ⟨t_219_name, t_219_hue, t_219_width, t_219_dark, t_219_light⟩ := t_219
                                          replace H := unShade_hid H
                                          go_wp2_with fail
                                          go_at_call 37
                                          refine (Go.Proofs.YtkinlkmmelkdnaaDoor.GsDrawColorsIn.C tapes (code) A0 c0 _  HE (Lib.hid (Cells.below M0.out HBwt_212.out)) N0 V0 qt_219).mono ?_
                                          rintro e_t_219 wt_219 ⟨rfl, bt_219⟩
                                          unfold Go.Proofs.YtkinlkmmelkdnaaDoor.PShade.Shade.val
                                          have HBwt_219 := Lib.hid (Below.step HBwt_212.out bt_219)
                                          replace Ot_130a := Lib.hid (own_below Ot_130a.out bt_219)
                                          replace Ot_196a := Lib.hid (own_below Ot_196a.out bt_219)
                                          clear bt_219
                                          obtain ⟨w_x_220, hw_x_220⟩ : ∃ x, wt_219.alloc (.cells #[.string t_219_name, .int .i64 t_219_hue, .int .i64 t_219_width, .int .i64 t_219_dark, .int .i64 t_219_light] 54) = x := ⟨_, rfl⟩
                                          have bw_x_220 : Below wt_219.heap.size wt_219 w_x_220 := by rw [← hw_x_220]; exact (Below.refl _ _).alloc (Nat.le_refl _) _
                                          have Dx_220_t_130a := Lib.hid (apart_fresh Ot_130a.out)
                                          have Dx_220_t_196a := Lib.hid (apart_fresh Ot_196a.out)
                                          have HBw_x_220 := Lib.hid (Below.step HBwt_219.out bw_x_220)
                                          replace Ot_130a := Lib.hid (own_below Ot_130a.out bw_x_220)
                                          replace Ot_196a := Lib.hid (own_below Ot_196a.out bw_x_220)
                                          clear bw_x_220
                                          have kx_220_0 : w_x_220.cell? ⟨wt_219.heap.size, 0, none⟩ = some (.string t_219_name) := by rw [← hw_x_220]; exact box_new _ _ _ 0 _ rfl
                                          have kx_220_1 : w_x_220.cell? ⟨wt_219.heap.size, 1, none⟩ = some (.int .i64 t_219_hue) := by rw [← hw_x_220]; exact box_new _ _ _ 1 _ rfl
                                          have kx_220_2 : w_x_220.cell? ⟨wt_219.heap.size, 2, none⟩ = some (.int .i64 t_219_width) := by rw [← hw_x_220]; exact box_new _ _ _ 2 _ rfl
                                          have kx_220_3 : w_x_220.cell? ⟨wt_219.heap.size, 3, none⟩ = some (.int .i64 t_219_dark) := by rw [← hw_x_220]; exact box_new _ _ _ 3 _ rfl
                                          have kx_220_4 : w_x_220.cell? ⟨wt_219.heap.size, 4, none⟩ = some (.int .i64 t_219_light) := by rw [← hw_x_220]; exact box_new _ _ _ 4 _ rfl
                                          replace H := bind2_hid H
                                          obtain ⟨t_223a, t_223b, qt_223, H⟩ := H
                                          go_wp2_with fail
                                          go_at_call 38
                                          refine (Go.Proofs.YtkinlkmmelkdnaaDoor.GiColorsIn.C ((Go.Proofs.YtkinlkmmelkdnaaDoor.PShade.Shade.mk t_219_name t_219_hue t_219_width t_219_dark t_219_light))  _    qt_223).mono ?_
                                          rintro e_t_223 wt_223 ⟨rfl, bt_223⟩
                                          have HBwt_223 := Lib.hid (Below.step HBw_x_220.out bt_223)
                                          replace kx_220_0 := cell_below bt_223 kx_220_0
                                          replace kx_220_1 := cell_below bt_223 kx_220_1
                                          replace kx_220_2 := cell_below bt_223 kx_220_2
                                          replace kx_220_3 := cell_below bt_223 kx_220_3
                                          replace kx_220_4 := cell_below bt_223 kx_220_4
                                          replace Ot_130a := Lib.hid (own_below Ot_130a.out bt_223)
                                          replace Ot_196a := Lib.hid (own_below Ot_196a.out bt_223)
                                          clear bt_223
                                          replace H := bind2_hid H
                                          obtain ⟨t_230a, t_230b, qt_230, H⟩ := H
                                          go_wp2_with fail
                                          go_at_call 39
                                          refine (Go.Proofs.YtkinlkmmelkdnaaDoor.GsColorsIn.C ((Go.Proofs.YtkinlkmmelkdnaaDoor.PShade.Shade.mk t_219_name t_219_hue t_219_width t_219_dark t_219_light))  _    qt_230).mono ?_
                                          rintro e_t_230 wt_230 ⟨rfl, bt_230⟩
                                          have HBwt_230 := Lib.hid (Below.step HBwt_223.out bt_230)
                                          replace kx_220_0 := cell_below bt_230 kx_220_0
                                          replace kx_220_1 := cell_below bt_230 kx_220_1
                                          replace kx_220_2 := cell_below bt_230 kx_220_2
                                          replace kx_220_3 := cell_below bt_230 kx_220_3
                                          replace kx_220_4 := cell_below bt_230 kx_220_4
                                          replace Ot_130a := Lib.hid (own_below Ot_130a.out bt_230)
                                          replace Ot_196a := Lib.hid (own_below Ot_196a.out bt_230)
                                          clear bt_230
                                          replace H := bind2_hid H
                                          obtain ⟨t_237a, t_237b, qt_237, H⟩ := H
                                          go_wp2_with fail
                                          go_at_call 40
                                          refine (Go.Proofs.YtkinlkmmelkdnaaDoor.GiShadeText.C ((Go.Proofs.YtkinlkmmelkdnaaDoor.PShade.Shade.mk t_219_name t_219_hue t_219_width t_219_dark t_219_light))  _ (tab_below HBwt_230.out HT)   qt_237).mono ?_
                                          rintro e_t_237 wt_237 ⟨rfl, bt_237⟩
                                          have HBwt_237 := Lib.hid (Below.step HBwt_230.out bt_237)
                                          replace kx_220_0 := cell_below bt_237 kx_220_0
                                          replace kx_220_1 := cell_below bt_237 kx_220_1
                                          replace kx_220_2 := cell_below bt_237 kx_220_2
                                          replace kx_220_3 := cell_below bt_237 kx_220_3
                                          replace kx_220_4 := cell_below bt_237 kx_220_4
                                          replace Ot_130a := Lib.hid (own_below Ot_130a.out bt_237)
                                          replace Ot_196a := Lib.hid (own_below Ot_196a.out bt_237)
                                          clear bt_237
                                          replace H := bind2_hid H
                                          obtain ⟨t_244a, t_244b, qt_244, H⟩ := H
                                          go_wp2_with fail
                                          go_at_call 41
                                          refine (Go.Proofs.YtkinlkmmelkdnaaDoor.GsShadeText.C ((Go.Proofs.YtkinlkmmelkdnaaDoor.PShade.Shade.mk t_219_name t_219_hue t_219_width t_219_dark t_219_light))  _    qt_244).mono ?_
                                          rintro e_t_244 wt_244 ⟨rfl, bt_244⟩
                                          have HBwt_244 := Lib.hid (Below.step HBwt_237.out bt_244)
                                          replace kx_220_0 := cell_below bt_244 kx_220_0
                                          replace kx_220_1 := cell_below bt_244 kx_220_1
                                          replace kx_220_2 := cell_below bt_244 kx_220_2
                                          replace kx_220_3 := cell_below bt_244 kx_220_3
                                          replace kx_220_4 := cell_below bt_244 kx_220_4
                                          replace Ot_130a := Lib.hid (own_below Ot_130a.out bt_244)
                                          replace Ot_196a := Lib.hid (own_below Ot_196a.out bt_244)
                                          clear bt_244
                                          replace H := let_hid H
                                          obtain ⟨t_252, ht_252, H⟩ := H
                                          replace H := join_hid H
                                          cases t_252 with
                                          | false =>
                                            replace H := ite_f H
                                            replace H := app_hid H
                                            replace H := join_hid H
                                            replace H := ite_f H
                                            replace H := app_hid H
                                            replace H := join_hid H
                                            replace H := ite_f H
                                            replace H := app_hid H
                                            replace H := join_hid H
                                            replace H := ite_f H
                                            replace H := app_hid H
                                            replace H := join_hid H
                                            replace H := ite_f H
                                            replace H := app_hid H
                                            obtain rfl := ret_hid H
                                            go_wp2_with fail
                                            go_ret
                                            exact ⟨rfl, HBwt_244.out⟩
                                          | true =>
                                            replace H := ite_t H
                                            replace H := let_hid H
                                            obtain ⟨t_256, ht_256, H⟩ := H
                                            replace H := app_hid H
                                            replace H := join_hid H
                                            cases t_256 with
                                            | false =>
                                              replace H := ite_f H
                                              replace H := app_hid H
                                              replace H := join_hid H
                                              replace H := ite_f H
                                              replace H := app_hid H
                                              replace H := join_hid H
                                              replace H := ite_f H
                                              replace H := app_hid H
                                              replace H := join_hid H
                                              replace H := ite_f H
                                              replace H := app_hid H
                                              obtain rfl := ret_hid H
                                              go_wp2_with fail
                                              go_ret
                                              exact ⟨rfl, HBwt_244.out⟩
                                            | true =>
                                              replace H := ite_t H
                                              replace H := let_hid H
                                              obtain ⟨t_261, ht_261, H⟩ := H
                                              replace H := app_hid H
                                              replace H := join_hid H
                                              cases t_261 with
                                              | false =>
                                                replace H := ite_f H
                                                replace H := app_hid H
                                                replace H := join_hid H
                                                replace H := ite_f H
                                                replace H := app_hid H
                                                replace H := join_hid H
                                                replace H := ite_f H
                                                replace H := app_hid H
                                                obtain rfl := ret_hid H
                                                go_wp2_with fail
                                                go_ret
                                                exact ⟨rfl, HBwt_244.out⟩
                                              | true =>
                                                replace H := ite_t H
                                                replace H := let_hid H
                                                obtain ⟨t_266, ht_266, H⟩ := H
                                                replace H := app_hid H
                                                replace H := join_hid H
                                                cases t_266 with
                                                | false =>
                                                  replace H := ite_f H
                                                  replace H := app_hid H
                                                  replace H := join_hid H
                                                  replace H := ite_f H
                                                  replace H := app_hid H
                                                  obtain rfl := ret_hid H
                                                  go_wp2_with fail
                                                  go_ret
                                                  exact ⟨rfl, HBwt_244.out⟩
                                                | true =>
                                                  replace H := ite_t H
                                                  replace H := let_hid H
                                                  obtain ⟨t_271, ht_271, H⟩ := H
                                                  replace H := app_hid H
                                                  replace H := join_hid H
                                                  cases t_271 with
                                                  | false =>
                                                    replace H := ite_f H
                                                    replace H := app_hid H
                                                    obtain rfl := ret_hid H
                                                    go_wp2_with fail
                                                    go_ret
                                                    exact ⟨rfl, HBwt_244.out⟩
                                                  | true =>
                                                    replace H := ite_t H
                                                    replace H := let_hid H
                                                    obtain ⟨t_276, ht_276, H⟩ := H
                                                    replace H := app_hid H
                                                    obtain rfl := ret_hid H
                                                    go_wp2_with fail
                                                    go_ret
                                                    exact ⟨rfl, HBwt_244.out⟩
                                        | true =>
                                          replace H := ite_t H
                                          replace H := app_hid H
                                          cases t_141b with
                                          | false =>
                                            obtain rfl : t_150b = false := by revert ht_162; cases t_150b <;> simp
                                            replace H := ite_f H
                                            replace H := app_hid H
                                            unfold e0 at H
                                            replace H := let_hid H
                                            obtain ⟨_, rfl, H⟩ := H
                                            replace H := bind2_hid H
                                            obtain ⟨t_196a, t_196b, qt_196, H⟩ := H
                                            go_wp2_with fail
                                            go_at_call 34
                                            refine (Go.Proofs.YtkinlkmmelkdnaaDoor.GsDrawFreeColors.C fuel tapes (code) A0 c0 _  HE (Lib.hid (Cells.below M0.out HBwr0.out)) N0 V0 qt_196).mono ?_
                                            rintro e_t_196 wt_196 ⟨At_196a, ct_196a, rfl, ot_196a, bt_196⟩
                                            have Dt_196a_t_130a := Lib.hid (apart_call ot_196a Ot_130a.out)
                                            have Ot_196a := Lib.hid (own_lower ot_196a HBwr0.out.size)
                                            clear ot_196a
                                            have HBwt_196 := Lib.hid (Below.step HBwr0.out bt_196)
                                            replace Ot_130a := Lib.hid (own_below Ot_130a.out bt_196)
                                            clear bt_196
                                            replace H := bind2_hid H
                                            obtain ⟨t_204a, t_204b, qt_204, H⟩ := H
                                            go_wp2_with fail
                                            go_at_call 35
                                            refine (Go.Proofs.YtkinlkmmelkdnaaDoor.GiFreeColors.C (t_196a) (t_196b) At_196a ct_196a _   (Lib.hid (own_cells Ot_196a.out)) (Lib.hid (own_max Ot_196a.out)) qt_204).mono ?_
                                            rintro e_t_204 wt_204 ⟨rfl, bt_204⟩
                                            have HBwt_204 := Lib.hid (Below.step HBwt_196.out bt_204)
                                            replace Ot_130a := Lib.hid (own_below Ot_130a.out bt_204)
                                            replace Ot_196a := Lib.hid (own_below Ot_196a.out bt_204)
                                            clear bt_204
                                            replace H := bind2_hid H
                                            obtain ⟨t_212a, t_212b, qt_212, H⟩ := H
                                            go_wp2_with fail
                                            go_at_call 36
                                            refine (Go.Proofs.YtkinlkmmelkdnaaDoor.GsFreeColors.C (t_196a) (t_196b) At_196a ct_196a _   (Lib.hid (own_cells Ot_196a.out)) (Lib.hid (own_max Ot_196a.out)) qt_212).mono ?_
                                            rintro e_t_212 wt_212 ⟨rfl, bt_212⟩
                                            have HBwt_212 := Lib.hid (Below.step HBwt_204.out bt_212)
                                            replace Ot_130a := Lib.hid (own_below Ot_130a.out bt_212)
                                            replace Ot_196a := Lib.hid (own_below Ot_196a.out bt_212)
                                            clear bt_212
                                            replace H := bind_hid H
                                            obtain ⟨t_219, qt_219, H⟩ := H
                                            obtain ⟨t_219_name, t_219_hue, t_219_width, t_219_dark, t_219_light⟩ := t_219
                                            replace H := unShade_hid H
                                            go_wp2_with fail
                                            go_at_call 37
                                            refine (Go.Proofs.YtkinlkmmelkdnaaDoor.GsDrawColorsIn.C tapes (code) A0 c0 _  HE (Lib.hid (Cells.below M0.out HBwt_212.out)) N0 V0 qt_219).mono ?_
                                            rintro e_t_219 wt_219 ⟨rfl, bt_219⟩
                                            unfold Go.Proofs.YtkinlkmmelkdnaaDoor.PShade.Shade.val
                                            have HBwt_219 := Lib.hid (Below.step HBwt_212.out bt_219)
                                            replace Ot_130a := Lib.hid (own_below Ot_130a.out bt_219)
                                            replace Ot_196a := Lib.hid (own_below Ot_196a.out bt_219)
                                            clear bt_219
                                            obtain ⟨w_x_220, hw_x_220⟩ : ∃ x, wt_219.alloc (.cells #[.string t_219_name, .int .i64 t_219_hue, .int .i64 t_219_width, .int .i64 t_219_dark, .int .i64 t_219_light] 54) = x := ⟨_, rfl⟩
                                            have bw_x_220 : Below wt_219.heap.size wt_219 w_x_220 := by rw [← hw_x_220]; exact (Below.refl _ _).alloc (Nat.le_refl _) _
                                            have Dx_220_t_130a := Lib.hid (apart_fresh Ot_130a.out)
                                            have Dx_220_t_196a := Lib.hid (apart_fresh Ot_196a.out)
                                            have HBw_x_220 := Lib.hid (Below.step HBwt_219.out bw_x_220)
                                            replace Ot_130a := Lib.hid (own_below Ot_130a.out bw_x_220)
                                            replace Ot_196a := Lib.hid (own_below Ot_196a.out bw_x_220)
                                            clear bw_x_220
                                            have kx_220_0 : w_x_220.cell? ⟨wt_219.heap.size, 0, none⟩ = some (.string t_219_name) := by rw [← hw_x_220]; exact box_new _ _ _ 0 _ rfl
                                            have kx_220_1 : w_x_220.cell? ⟨wt_219.heap.size, 1, none⟩ = some (.int .i64 t_219_hue) := by rw [← hw_x_220]; exact box_new _ _ _ 1 _ rfl
                                            have kx_220_2 : w_x_220.cell? ⟨wt_219.heap.size, 2, none⟩ = some (.int .i64 t_219_width) := by rw [← hw_x_220]; exact box_new _ _ _ 2 _ rfl
                                            have kx_220_3 : w_x_220.cell? ⟨wt_219.heap.size, 3, none⟩ = some (.int .i64 t_219_dark) := by rw [← hw_x_220]; exact box_new _ _ _ 3 _ rfl
                                            have kx_220_4 : w_x_220.cell? ⟨wt_219.heap.size, 4, none⟩ = some (.int .i64 t_219_light) := by rw [← hw_x_220]; exact box_new _ _ _ 4 _ rfl
                                            replace H := bind2_hid H
                                            obtain ⟨t_223a, t_223b, qt_223, H⟩ := H
                                            go_wp2_with fail
                                            go_at_call 38
                                            refine (Go.Proofs.YtkinlkmmelkdnaaDoor.GiColorsIn.C ((Go.Proofs.YtkinlkmmelkdnaaDoor.PShade.Shade.mk t_219_name t_219_hue t_219_width t_219_dark t_219_light))  _    qt_223).mono ?_
                                            rintro e_t_223 wt_223 ⟨rfl, bt_223⟩
                                            have HBwt_223 := Lib.hid (Below.step HBw_x_220.out bt_223)
                                            replace kx_220_0 := cell_below bt_223 kx_220_0
                                            replace kx_220_1 := cell_below bt_223 kx_220_1
                                            replace kx_220_2 := cell_below bt_223 kx_220_2
                                            replace kx_220_3 := cell_below bt_223 kx_220_3
                                            replace kx_220_4 := cell_below bt_223 kx_220_4
                                            replace Ot_130a := Lib.hid (own_below Ot_130a.out bt_223)
                                            replace Ot_196a := Lib.hid (own_below Ot_196a.out bt_223)
                                            clear bt_223
                                            replace H := bind2_hid H
                                            obtain ⟨t_230a, t_230b, qt_230, H⟩ := H
                                            go_wp2_with fail
                                            go_at_call 39
                                            refine (Go.Proofs.YtkinlkmmelkdnaaDoor.GsColorsIn.C ((Go.Proofs.YtkinlkmmelkdnaaDoor.PShade.Shade.mk t_219_name t_219_hue t_219_width t_219_dark t_219_light))  _    qt_230).mono ?_
                                            rintro e_t_230 wt_230 ⟨rfl, bt_230⟩
                                            have HBwt_230 := Lib.hid (Below.step HBwt_223.out bt_230)
                                            replace kx_220_0 := cell_below bt_230 kx_220_0
                                            replace kx_220_1 := cell_below bt_230 kx_220_1
                                            replace kx_220_2 := cell_below bt_230 kx_220_2
                                            replace kx_220_3 := cell_below bt_230 kx_220_3
                                            replace kx_220_4 := cell_below bt_230 kx_220_4
                                            replace Ot_130a := Lib.hid (own_below Ot_130a.out bt_230)
                                            replace Ot_196a := Lib.hid (own_below Ot_196a.out bt_230)
                                            clear bt_230
                                            replace H := bind2_hid H
                                            obtain ⟨t_237a, t_237b, qt_237, H⟩ := H
                                            go_wp2_with fail
                                            go_at_call 40
                                            refine (Go.Proofs.YtkinlkmmelkdnaaDoor.GiShadeText.C ((Go.Proofs.YtkinlkmmelkdnaaDoor.PShade.Shade.mk t_219_name t_219_hue t_219_width t_219_dark t_219_light))  _ (tab_below HBwt_230.out HT)   qt_237).mono ?_
                                            rintro e_t_237 wt_237 ⟨rfl, bt_237⟩
                                            have HBwt_237 := Lib.hid (Below.step HBwt_230.out bt_237)
                                            replace kx_220_0 := cell_below bt_237 kx_220_0
                                            replace kx_220_1 := cell_below bt_237 kx_220_1
                                            replace kx_220_2 := cell_below bt_237 kx_220_2
                                            replace kx_220_3 := cell_below bt_237 kx_220_3
                                            replace kx_220_4 := cell_below bt_237 kx_220_4
                                            replace Ot_130a := Lib.hid (own_below Ot_130a.out bt_237)
                                            replace Ot_196a := Lib.hid (own_below Ot_196a.out bt_237)
                                            clear bt_237
                                            replace H := bind2_hid H
                                            obtain ⟨t_244a, t_244b, qt_244, H⟩ := H
                                            go_wp2_with fail
                                            go_at_call 41
                                            refine (Go.Proofs.YtkinlkmmelkdnaaDoor.GsShadeText.C ((Go.Proofs.YtkinlkmmelkdnaaDoor.PShade.Shade.mk t_219_name t_219_hue t_219_width t_219_dark t_219_light))  _    qt_244).mono ?_
                                            rintro e_t_244 wt_244 ⟨rfl, bt_244⟩
                                            have HBwt_244 := Lib.hid (Below.step HBwt_237.out bt_244)
                                            replace kx_220_0 := cell_below bt_244 kx_220_0
                                            replace kx_220_1 := cell_below bt_244 kx_220_1
                                            replace kx_220_2 := cell_below bt_244 kx_220_2
                                            replace kx_220_3 := cell_below bt_244 kx_220_3
                                            replace kx_220_4 := cell_below bt_244 kx_220_4
                                            replace Ot_130a := Lib.hid (own_below Ot_130a.out bt_244)
                                            replace Ot_196a := Lib.hid (own_below Ot_196a.out bt_244)
                                            clear bt_244
                                            replace H := let_hid H
                                            obtain ⟨t_252, ht_252, H⟩ := H
                                            replace H := join_hid H
                                            cases t_252 with
                                            | false =>
                                              replace H := ite_f H
                                              replace H := app_hid H
                                              replace H := join_hid H
                                              replace H := ite_f H
                                              replace H := app_hid H
                                              replace H := join_hid H
                                              replace H := ite_f H
                                              replace H := app_hid H
                                              replace H := join_hid H
                                              replace H := ite_f H
                                              replace H := app_hid H
                                              replace H := join_hid H
                                              replace H := ite_f H
                                              replace H := app_hid H
                                              obtain rfl := ret_hid H
                                              go_wp2_with fail
                                              go_ret
                                              exact ⟨rfl, HBwt_244.out⟩
                                            | true =>
                                              replace H := ite_t H
                                              replace H := let_hid H
                                              obtain ⟨t_256, ht_256, H⟩ := H
                                              replace H := app_hid H
                                              replace H := join_hid H
                                              cases t_256 with
                                              | false =>
                                                replace H := ite_f H
                                                replace H := app_hid H
                                                replace H := join_hid H
                                                replace H := ite_f H
                                                replace H := app_hid H
                                                replace H := join_hid H
                                                replace H := ite_f H
                                                replace H := app_hid H
                                                replace H := join_hid H
                                                replace H := ite_f H
                                                replace H := app_hid H
                                                obtain rfl := ret_hid H
                                                go_wp2_with fail
                                                go_ret
                                                exact ⟨rfl, HBwt_244.out⟩
                                              | true =>
                                                replace H := ite_t H
                                                replace H := let_hid H
                                                obtain ⟨t_261, ht_261, H⟩ := H
                                                replace H := app_hid H
                                                replace H := join_hid H
                                                cases t_261 with
                                                | false =>
                                                  replace H := ite_f H
                                                  replace H := app_hid H
                                                  replace H := join_hid H
                                                  replace H := ite_f H
                                                  replace H := app_hid H
                                                  replace H := join_hid H
                                                  replace H := ite_f H
                                                  replace H := app_hid H
                                                  obtain rfl := ret_hid H
                                                  go_wp2_with fail
                                                  go_ret
                                                  exact ⟨rfl, HBwt_244.out⟩
                                                | true =>
                                                  replace H := ite_t H
                                                  replace H := let_hid H
                                                  obtain ⟨t_266, ht_266, H⟩ := H
                                                  replace H := app_hid H
                                                  replace H := join_hid H
                                                  cases t_266 with
                                                  | false =>
                                                    replace H := ite_f H
                                                    replace H := app_hid H
                                                    replace H := join_hid H
                                                    replace H := ite_f H
                                                    replace H := app_hid H
                                                    obtain rfl := ret_hid H
                                                    go_wp2_with fail
                                                    go_ret
                                                    exact ⟨rfl, HBwt_244.out⟩
                                                  | true =>
                                                    replace H := ite_t H
                                                    replace H := let_hid H
                                                    obtain ⟨t_271, ht_271, H⟩ := H
                                                    replace H := app_hid H
                                                    replace H := join_hid H
                                                    cases t_271 with
                                                    | false =>
                                                      replace H := ite_f H
                                                      replace H := app_hid H
                                                      obtain rfl := ret_hid H
                                                      go_wp2_with fail
                                                      go_ret
                                                      exact ⟨rfl, HBwt_244.out⟩
                                                    | true =>
                                                      replace H := ite_t H
                                                      replace H := let_hid H
                                                      obtain ⟨t_276, ht_276, H⟩ := H
                                                      replace H := app_hid H
                                                      obtain rfl := ret_hid H
                                                      go_wp2_with fail
                                                      go_ret
                                                      exact ⟨rfl, HBwt_244.out⟩
                                          | true =>
                                            obtain rfl : t_150b = true := by revert ht_162; cases t_150b <;> simp
                                            replace H := ite_t H
                                            replace H := idx_hid H
                                            obtain ⟨nt_175, yt_175, et_175, lt_175, gt_175, H⟩ := H
                                            subst et_175
                                            have nc_299 : nt_175 < t_130a.length := by have := of_decide_eq_true ht_169; omega
                                            obtain ⟨t_175_name, t_175_hue, t_175_width, t_175_dark, t_175_light⟩ := yt_175
                                            replace H := unShade_hid H
                                            obtain ⟨qt_175, Qt_175⟩ := own_some Ot_130a.out (by omega)
                                            subst Qt_175
                                            obtain ⟨ab_t_175, ao_t_175, zt_175, At_175, z_t_175, ct_175_0, ct_175_1, ct_175_2, ct_175_3, ct_175_4⟩ := Go.Proofs.YtkinlkmmelkdnaaDoor.OShade.at_ (own_cells Ot_130a.out) (k := nt_175) (by omega)
                                            obtain rfl := Option.some.inj (gt_175.out.symm.trans z_t_175)
                                            simp only [Option.some.injEq, Addr.mk.injEq] at At_175
                                            obtain ⟨rfl, rfl, _⟩ := At_175
                                            clear z_t_175
                                            simp only [Nat.zero_add] at ct_175_0 ct_175_1 ct_175_2 ct_175_3 ct_175_4
                                            have b0t_175 : (0 : Int) ≤ (nt_175 : Int) := by omega
                                            have b1t_175 : (nt_175 : Int) < ((t_130a.length : Nat) : Int) := by omega
                                            have b2t_175 : ((nt_175 : Int)).toNat = nt_175 := by omega
                                            replace H := let_hid H
                                            obtain ⟨t_179, ht_179, H⟩ := H
                                            replace H := join_hid H
                                            cases t_179 with
                                            | false =>
                                              replace H := ite_f H
                                              replace H := app_hid H
                                              replace H := ite_f H
                                              replace H := let_hid H
                                              obtain ⟨t_193, ht_193, H⟩ := H
                                              replace H := app_hid H
                                              go_wp2_with fail
                                              go_roundg m0
                                              case measure => omega
                                              case rel => exact ⟨_, rfl, H, HBwr0, Ot_130a⟩
                                            | true =>
                                              replace H := ite_t H
                                              replace H := idx_hid H
                                              obtain ⟨nt_184, yt_184, et_184, lt_184, gt_184, H⟩ := H
                                              obtain rfl : nt_175 = nt_184 := by omega
                                              clear et_184
                                              obtain rfl := Option.some.inj (gt_175.out.symm.trans gt_184.out)
                                              clear gt_184 lt_184
                                              replace H := unShade_hid H
                                              replace H := let_hid H
                                              obtain ⟨t_187, ht_187, H⟩ := H
                                              replace H := let_hid H
                                              obtain ⟨t_188, ht_188, H⟩ := H
                                              replace H := let_hid H
                                              obtain ⟨t_189, ht_189, H⟩ := H
                                              replace H := app_hid H
                                              cases t_189 with
                                              | false =>
                                                replace H := ite_f H
                                                replace H := let_hid H
                                                obtain ⟨t_193, ht_193, H⟩ := H
                                                replace H := app_hid H
                                                go_wp2_with fail
                                                go_roundg m0
                                                case measure => omega
                                                case rel => exact ⟨_, rfl, H, HBwr0, Ot_130a⟩
                                              | true =>
                                                replace H := ite_t H
                                                obtain rfl := ret_hid H
                                                go_wp2_with fail
                                                go_ret
                                                exact ⟨rfl, HBwr0.out⟩
                                  | true =>
                                    replace H := ite_t H
                                    obtain rfl := ret_hid H
                                    go_wp2_with fail
                                    go_ret
                                    exact ⟨rfl, HBwt_150.out⟩
                                | true =>
                                  replace H := ite_t H
                                  replace H := app_hid H
                                  replace H := ite_t H
                                  obtain rfl := ret_hid H
                                  go_wp2_with fail
                                  go_ret
                                  exact ⟨rfl, HBwt_150.out⟩
                              | true =>
                                replace H := ite_t H
                                obtain rfl := ret_hid H
                                go_wp2_with fail
                                go_ret
                                exact ⟨rfl, HBwt_98.out⟩
                            | true =>
                              replace H := ite_t H
                              replace H := app_hid H
                              replace H := ite_t H
                              obtain rfl := ret_hid H
                              go_wp2_with fail
                              go_ret
                              exact ⟨rfl, HBwt_98.out⟩
                          | true =>
                            replace H := ite_t H
                            replace H := app_hid H
                            replace H := join_hid H
                            replace H := ite_t H
                            replace H := app_hid H
                            replace H := ite_t H
                            obtain rfl := ret_hid H
                            go_wp2_with fail
                            go_ret
                            exact ⟨rfl, HBwt_98.out⟩
                  | true =>
                    replace H := ite_t H
                    obtain rfl := ret_hid H
                    go_wp2_with fail
                    go_ret
                    exact ⟨rfl, HBwt_67.out⟩
                | true =>
                  replace H := ite_t H
                  replace H := app_hid H
                  replace H := ite_t H
                  obtain rfl := ret_hid H
                  go_wp2_with fail
                  go_ret
                  exact ⟨rfl, HBwt_67.out⟩
              | true =>
                replace H := ite_t H
                replace H := app_hid H
                replace H := join_hid H
                replace H := ite_t H
                replace H := app_hid H
                replace H := ite_t H
                obtain rfl := ret_hid H
                go_wp2_with fail
                go_ret
                exact ⟨rfl, HBwt_67.out⟩
            | true =>
              replace H := ite_t H
              obtain rfl := ret_hid H
              go_wp2_with fail
              go_ret
              exact ⟨rfl, HBwt_38.out⟩
          | true =>
            replace H := ite_t H
            replace H := app_hid H
            replace H := ite_t H
            obtain rfl := ret_hid H
            go_wp2_with fail
            go_ret
            exact ⟨rfl, HBwt_38.out⟩
        | true =>
          replace H := ite_t H
          replace H := app_hid H
          replace H := join_hid H
          replace H := ite_t H
          replace H := app_hid H
          replace H := ite_t H
          obtain rfl := ret_hid H
          go_wp2_with fail
          go_ret
          exact ⟨rfl, HBwt_38.out⟩
      | true =>
        replace H := ite_t H
        obtain rfl := ret_hid H
        go_wp2_with fail
        go_ret
        exact ⟨rfl, HBwt_21.out⟩
    | true =>
      replace H := ite_t H
      replace H := app_hid H
      replace H := ite_t H
      obtain rfl := ret_hid H
      go_wp2_with fail
      go_ret
      exact ⟨rfl, HBwt_21.out⟩
  | true =>
    replace H := ite_t H
    obtain rfl := ret_hid H
    go_wp2_with fail
    go_ret
    exact ⟨rfl, HBwt_2.out⟩
end Go.Proofs.YtkinlkmmelkdnaaDoor.GlFnHues

/- What the rows' lists of the library's tables give: the table of powers of ten holds what Itoa reads. Condition: the row's list is met. -/
namespace Go.Proofs.YtkinlkmmelkdnaaDoor.DoorLaid

theorem gPow : Tryd.prog.globalNamed "internal/strconv.uint64pow10" = some 0 := by kernel_rfl
def keepPow (x : String × DataW Unit) : Bool := x.1 == "internal/strconv.uint64pow10"
theorem gPowType : (Tryd.prog.globals[0]?).map (·.type) = some 115 := by kernel_rfl
theorem cellsPow : Tryd.prog.cellsOf 115 = 20 := by kernel_rfl
theorem cellsU64 : Tryd.prog.cellsOf 63 = 1 := by kernel_rfl

/-- Of whatever list holds the table at its own datum: the table is there. -/
theorem pow10 {l : List (String × DataW Unit)} {W : World} (h : laidMetH Tryd.prog l W) (hl : l.filter keepPow = [("internal/strconv.uint64pow10", Lib.tabData .u64 Lib.pow10Tab)]) :
    Lib.TabIs Tryd.prog W "internal/strconv.uint64pow10" .u64 Lib.pow10Tab := by
  have h1 := laidMetH.filter keepPow h
  rw [hl] at h1
  exact Lib.tabIs_of_head (rest := []) gPow gPowType Tryd.underlying115 Tryd.underlying63 cellsU64 cellsPow h1
end Go.Proofs.YtkinlkmmelkdnaaDoor.DoorLaid

/- Plain words on stamps: what a stamp is, when one is valid, when a list of them is; the cells of a list of records. No condition. -/
namespace Go.Proofs.YtkinlkmmelkdnaaDoor.PlainStamp
set_option linter.unusedVariables false

/-- a number lies in a..b -/
def inB (x a b : Int) : Bool := decide (a ≤ x ∧ x ≤ b)
theorem inB_yes {x a b : Int} (h1 : a ≤ x) (h2 : x ≤ b) : inB x a b = true := by unfold inB; exact decide_eq_true ⟨h1, h2⟩
theorem inB_of {x a b : Int} (h : inB x a b = true) : a ≤ x ∧ x ≤ b := by unfold inB at h; exact of_decide_eq_true h
theorem inB_no {x a b : Int} (h : x < a ∨ b < x) : inB x a b = false := by unfold inB; exact decide_eq_false (by omega)

structure St where
  id : Int
  face : Int
  color : Int
  year : Int
deriving DecidableEq

def St.cells (s : St) : List Value := [.int .i64 s.id, .int .i64 s.face, .int .i64 s.color, .int .i64 s.year]
def St.val (s : St) : Value := .agg #[.int .i64 s.id, .int .i64 s.face, .int .i64 s.color, .int .i64 s.year]
/-- each field fits an int -/
def St.fits (s : St) : Prop := (Lit.int .i64 s.id).wf = true ∧ (Lit.int .i64 s.face).wf = true ∧ (Lit.int .i64 s.color).wf = true ∧ (Lit.int .i64 s.year).wf = true

def okSt (s : St) : Bool := inB s.id 1 999 && inB s.face 0 9999 && inB s.color 0 99 && inB s.year 1840 2100
theorem okSt_yes {s : St} (h : okSt s = true) : (1 ≤ s.id ∧ s.id ≤ 999) ∧ (0 ≤ s.face ∧ s.face ≤ 9999) ∧ (0 ≤ s.color ∧ s.color ≤ 99) ∧ (1840 ≤ s.year ∧ s.year ≤ 2100) := by
  unfold okSt at h
  simp only [Bool.and_eq_true] at h
  exact ⟨inB_of h.1.1.1, inB_of h.1.1.2, inB_of h.1.2, inB_of h.2⟩

/-- the stamp at k is valid, and its id is above the one ahead of it -/
def okAt (l : List St) (k : Nat) : Bool :=
  match l[k]? with
  | none => true
  | some s => okSt s && (decide (k = 0) || (match l[k-1]? with | none => true | some r => decide (r.id < s.id)))
def okUp (l : List St) (k : Nat) : Bool := (List.range k).all (okAt l)
theorem okUp_zero (l : List St) : okUp l 0 = true := by simp [okUp]
theorem okUp_succ (l : List St) (k : Nat) : okUp l (k + 1) = (okUp l k && okAt l k) := by simp [okUp, List.range_succ, List.all_append]
theorem okUp_not {l : List St} {k n : Nat} (h : okAt l k = false) (hk : k < n) : okUp l n = false := by
  unfold okUp
  rw [Bool.eq_false_iff]
  intro hall
  have := List.all_eq_true.1 hall k (List.mem_range.2 hk)
  rw [h] at this; exact absurd this (by simp)
/-- a list of at most twelve valid stamps with rising ids -/
def okSts (l : List St) : Bool := decide (l.length ≤ 12) && okUp l l.length
theorem okAt_of {l : List St} {k : Nat} {s : St} (hs : l[k]? = some s) (h : okAt l k = true) : okSt s = true ∧ ∀ r, 0 < k → l[k-1]? = some r → r.id < s.id := by
  unfold okAt at h
  rw [hs] at h
  simp only [Bool.and_eq_true, Bool.or_eq_true, decide_eq_true_eq] at h
  refine ⟨h.1, fun r hk hr => ?_⟩
  rcases h.2 with h0 | h0
  · omega
  · rw [hr] at h0; simpa using h0
theorem okSts_len {l : List St} (h : okSts l = true) : l.length ≤ 12 := by unfold okSts at h; simp only [Bool.and_eq_true, decide_eq_true_eq] at h; exact h.1
theorem okSts_at {l : List St} (h : okSts l = true) {k : Nat} {s : St} (hs : l[k]? = some s) : okSt s = true ∧ ∀ r, 0 < k → l[k-1]? = some r → r.id < s.id := by
  unfold okSts at h
  simp only [Bool.and_eq_true, decide_eq_true_eq] at h
  exact okAt_of hs (List.all_eq_true.1 h.2 k (List.mem_range.2 (List.getElem?_eq_some_iff.1 hs).1))
theorem okSts_mem {l : List St} (h : okSts l = true) {s : St} (hs : s ∈ l) : okSt s = true := by
  obtain ⟨k, hk⟩ := List.getElem?_of_mem hs
  exact (okSts_at h hk).1

/-- the cells of a list of stamps, one after the other -/
def flat (l : List St) : List Value := l.flatMap St.cells
theorem flat_nil : flat [] = [] := rfl
theorem flat_cons (s : St) (l : List St) : flat (s :: l) = s.cells ++ flat l := by simp [flat]
theorem flat_len (l : List St) : (flat l).length = l.length * 4 := by
  induction l with
  | nil => rfl
  | cons s l ih => rw [flat_cons, List.length_append, ih]; simp [St.cells]; omega
theorem flat_at : ∀ (l : List St) (k : Nat) (s : St), l[k]? = some s → ∀ j, j < 4 → (flat l)[k * 4 + j]? = s.cells[j]?
  | [], k, s, h, _, _ => by simp at h
  | r :: l, 0, s, h, j, hj => by
    obtain rfl : r = s := by simpa using h
    rw [flat_cons, List.getElem?_append_left (by simp [St.cells]; omega)]; simp
  | r :: l, k + 1, s, h, j, hj => by
    rw [flat_cons, List.getElem?_append_right (by simp [St.cells]; omega), show (k + 1) * 4 + j - r.cells.length = k * 4 + j by simp [St.cells]; omega]
    exact flat_at l k s (by simpa using h) j hj
end Go.Proofs.YtkinlkmmelkdnaaDoor.PlainStamp

/- Words for reckoning with plain functions; within and l1In. No condition. -/
namespace Go.Proofs.YtkinlkmmelkdnaaDoor.QBase
set_option linter.unusedVariables false
set_option linter.unusedSimpArgs false
open Go.RowKit
open Go.Proofs.YtkinlkmmelkdnaaDoor.GoP Go.Proofs.YtkinlkmmelkdnaaDoor.PlainStamp

theorem iteK_if {ρ : Type} (c : Bool) (a b : Option ρ) : iteK c a b = if c = true then a else b := by cases c <;> rfl
theorem bind2_some {α β ρ : Type} (a : α) (b : β) (f : α → β → Option ρ) : bind2 (some (a, b)) f = f a b := rfl
theorem bind3_some {α β γ ρ : Type} (a : α) (b : β) (c : γ) (f : α → β → γ → Option ρ) : bind3 (some (a, b, c)) f = f a b c := rfl
theorem unp2_mk {α β ρ : Type} (a : α) (b : β) (f : α → β → Option ρ) : unp2 (a, b) f = f a b := rfl
theorem unp3_mk {α β γ ρ : Type} (a : α) (b : β) (c : γ) (f : α → β → γ → Option ρ) : unp3 (a, b, c) f = f a b c := rfl
theorem guardK_pos {ρ : Type} {p : Prop} [Decidable p] {a : Option ρ} (h : p) : guardK p a = a := if_pos h
theorem cut2 {α β : Type} {x : Option (α × β)} {p : α × β} (h : x = some p) : x = some (p.1, p.2) := h
theorem cut3 {α β γ : Type} {x : Option (α × β × γ)} {p : α × β × γ} (h : x = some p) : x = some (p.1, p.2.1, p.2.2) := h
theorem within_eq (n a b : Int) : GiWithin.P n a b = some (inB n a b) := by
  simp only [GiWithin.P, letK, joinK, appK, iteK_if, inB]
  by_cases h1 : a ≤ n <;> by_cases h2 : n ≤ b <;> simp [h1, h2]
theorem l1In_eq (n a b : Int) : GsL1In.P n a b = some (inB n a b) := by
  simp only [GsL1In.P, letK, joinK, appK, iteK_if, inB]
  by_cases h1 : a ≤ n <;> by_cases h2 : n ≤ b <;> simp [h1, h2]
end Go.Proofs.YtkinlkmmelkdnaaDoor.QBase

/- Reckoning with the loops of plain functions; lists of valid records with rising ids. No condition. -/
namespace Go.Proofs.YtkinlkmmelkdnaaDoor.QLoop
set_option linter.unusedVariables false
open Go.RowKit
open Go.Proofs.YtkinlkmmelkdnaaDoor.GoP Go.Proofs.YtkinlkmmelkdnaaDoor.QBase

theorem cnt_ex {σ ρ : Type} {f : Nat → σ → (σ → Option ρ) → (σ → Option ρ) → Option ρ} {fin : σ → Option ρ} {Q : ρ → Prop} {n : Nat} (I : Nat → σ → Prop)
    (step : ∀ k s nx, k < n → I k s → (∀ s', I (k + 1) s' → ∃ r, nx s' = some r ∧ Q r) → ∃ r, f k s nx fin = some r ∧ Q r) (done : ∀ s, I n s → ∃ r, fin s = some r ∧ Q r) :
    ∀ m k s, k + m = n → I k s → ∃ r, cntK f m k s fin = some r ∧ Q r := by
  intro m
  induction m with
  | zero => intro k s hk hI; obtain rfl : k = n := by omega
            exact done s hI
  | succ m ih => intro k s hk hI; exact step k s _ (by omega) hI (fun s' h' => ih (k + 1) s' (by omega) h')
theorem cnt_is {σ ρ : Type} {f : Nat → σ → (σ → Option ρ) → (σ → Option ρ) → Option ρ} {fin : σ → Option ρ} {n : Nat} (r : ρ) (I : Nat → σ → Prop)
    (step : ∀ k s nx, k < n → I k s → (∀ s', I (k + 1) s' → nx s' = some r) → f k s nx fin = some r) (done : ∀ s, I n s → fin s = some r) (s : σ) (h0 : I 0 s) : cntK f n 0 s fin = some r := by
  obtain ⟨r', h, rfl⟩ := cnt_ex (Q := fun x => x = r) I (fun k s nx hk hI hn => ⟨r, step k s nx hk hI (fun s' h' => by obtain ⟨_, h, rfl⟩ := hn s' h'; exact h), rfl⟩) (fun s h => ⟨r, done s h, rfl⟩) n 0 s (by omega) h0
  exact h
theorem at_lt {α : Type} {l : List α} {k : Nat} (h : k < l.length) : ∃ x, l[k]? = some x ∧ idx l (k : Int) = some x := ⟨l[k], List.getElem?_eq_getElem h, by rw [idx_nat, List.getElem?_eq_getElem h]⟩
theorem idx_pred {α : Type} {l : List α} {k : Nat} {x : α} (hk : 0 < k) (hb : k ≤ 9223372036854775807) (h : l[k - 1]? = some x) : idx l (IntKind.i64.wrap ((k : Int) - 1)) = some x := by
  rw [IntWalk.i64_in _ (by omega), show ((k : Int) - 1) = ((k - 1 : Nat) : Int) by omega, idx_nat, h]
theorem take_next {α : Type} {l : List α} {k : Nat} {x : α} (h : l[k]? = some x) : l.take (k + 1) = l.take k ++ [x] := by
  obtain ⟨hk, e⟩ := List.getElem?_eq_some_iff.1 h
  rw [List.take_succ_eq_append_getElem hk, e]
theorem all_next {α : Type} {p : α → Bool} {l : List α} {k : Nat} {x : α} (h : l[k]? = some x) : (l.take (k + 1)).all p = ((l.take k).all p && p x) := by
  rw [take_next h]; simp
theorem not_all {α : Type} {p : α → Bool} {l : List α} {k : Nat} {x : α} (h : l[k]? = some x) (hp : p x = false) : l.all p = false := by
  rw [Bool.eq_false_iff]
  intro ha
  have := List.all_eq_true.1 ha x (List.mem_of_getElem? h)
  rw [hp] at this; exact absurd this (by simp)
theorem wrap_in {x : Int} (h1 : -9223372036854775808 ≤ x) (h2 : x ≤ 9223372036854775807) : IntKind.i64.wrap x = x := IntWalk.i64_in _ (by omega)

/-- valid, and above the one ahead of it -/
def upAt {α : Type} (ok : α → Bool) (id : α → Int) (l : List α) (k : Nat) : Bool :=
  match l[k]? with
  | none => true
  | some s => ok s && (decide (k = 0) || (match l[k-1]? with | none => true | some r => decide (id r < id s)))
def upTo {α : Type} (ok : α → Bool) (id : α → Int) (l : List α) (k : Nat) : Bool := (List.range k).all (upAt ok id l)
theorem upTo_zero {α : Type} (ok : α → Bool) (id : α → Int) (l : List α) : upTo ok id l 0 = true := rfl
theorem upTo_succ {α : Type} (ok : α → Bool) (id : α → Int) (l : List α) (k : Nat) : upTo ok id l (k + 1) = (upTo ok id l k && upAt ok id l k) := by simp [upTo, List.range_succ, List.all_append]
theorem upTo_not {α : Type} {ok : α → Bool} {id : α → Int} {l : List α} {k n : Nat} (h : upAt ok id l k = false) (hk : k < n) : upTo ok id l n = false := by
  unfold upTo
  rw [Bool.eq_false_iff]
  intro ha
  have := List.all_eq_true.1 ha k (List.mem_range.2 hk)
  rw [h] at this; exact absurd this (by simp)
/-- a list of at most m valid records with rising ids -/
def upL {α : Type} (m : Nat) (ok : α → Bool) (id : α → Int) (l : List α) : Bool := decide (l.length ≤ m) && upTo ok id l l.length
theorem upAt_bad {α : Type} {ok : α → Bool} {id : α → Int} {l : List α} {k : Nat} {s : α} (hs : l[k]? = some s) (h : ok s = false) : upAt ok id l k = false := by unfold upAt; rw [hs]; simp [h]
theorem upAt_first {α : Type} {ok : α → Bool} {id : α → Int} {l : List α} {s : α} (hs : l[0]? = some s) (h : ok s = true) : upAt ok id l 0 = true := by unfold upAt; rw [hs]; simp [h]
theorem upAt_next {α : Type} {ok : α → Bool} {id : α → Int} {l : List α} {k : Nat} {s r : α} (hs : l[k]? = some s) (hr : l[k-1]? = some r) (hk : 0 < k) (h : ok s = true) : upAt ok id l k = decide (id r < id s) := by
  unfold upAt; rw [hs]; simp only [hr, h, Bool.true_and, decide_eq_false (show ¬ k = 0 by omega), Bool.false_or]
theorem upL_len {α : Type} {m : Nat} {ok : α → Bool} {id : α → Int} {l : List α} (h : upL m ok id l = true) : l.length ≤ m := by unfold upL at h; simp only [Bool.and_eq_true, decide_eq_true_eq] at h; exact h.1
theorem upL_ok {α : Type} {m : Nat} {ok : α → Bool} {id : α → Int} {l : List α} (h : upL m ok id l = true) {k : Nat} {s : α} (hs : l[k]? = some s) : ok s = true := by
  unfold upL at h
  simp only [Bool.and_eq_true, decide_eq_true_eq] at h
  have := List.all_eq_true.1 h.2 k (List.mem_range.2 (List.getElem?_eq_some_iff.1 hs).1)
  unfold upAt at this
  rw [hs] at this
  simp only [Bool.and_eq_true] at this
  exact this.1
theorem upL_mem {α : Type} {m : Nat} {ok : α → Bool} {id : α → Int} {l : List α} (h : upL m ok id l = true) {s : α} (hs : s ∈ l) : ok s = true := by
  obtain ⟨k, hk⟩ := List.getElem?_of_mem hs
  exact upL_ok h hk
/-- a loop that goes through a list of records and stops with 'false' at the first that is bad -/
theorem up_loop {α : Type} {ok : α → Bool} {id : α → Int} {l : List α} {R : Type} {no : R} {f : Nat → Unit → (Unit → Option R) → (Unit → Option R) → Option R} {fin : Unit → Option R}
    (step : ∀ k nx s, l[k]? = some s → (ok s = false → f k () nx fin = some no) ∧ (ok s = true → (k = 0 → f k () nx fin = nx ()) ∧ (0 < k → ∀ r, l[k-1]? = some r → (id r < id s → f k () nx fin = nx ()) ∧ (id s ≤ id r → f k () nx fin = some no)))) :
    cntK f l.length 0 () fin = if upTo ok id l l.length then fin () else some no := by
  have key : ∀ m k, k + m = l.length → upTo ok id l k = true → cntK f m k () fin = if upTo ok id l l.length then fin () else some no := by
    intro m
    induction m with
    | zero => intro k hk hu; obtain rfl : k = l.length := by omega
              rw [hu]; rfl
    | succ m ih =>
      intro k hk hu
      have hlt : k < l.length := by omega
      obtain ⟨s, hs, _⟩ := at_lt hlt
      obtain ⟨h1, h2⟩ := step k (fun s' => cntK f m (k + 1) s' fin) s hs
      show f k () _ fin = _
      cases hok : ok s with
      | false => rw [h1 hok, upTo_not (upAt_bad hs hok) hlt]; rfl
      | true =>
        obtain ⟨h3, h4⟩ := h2 hok
        by_cases hk0 : k = 0
        · rw [h3 hk0]
          subst hk0
          exact ih 1 (by omega) (by rw [upTo_succ, hu, upAt_first hs hok]; rfl)
        · obtain ⟨r, hr, _⟩ := at_lt (l := l) (k := k - 1) (by omega)
          obtain ⟨h5, h6⟩ := h4 (by omega) r hr
          by_cases hlt2 : id r < id s
          · rw [h5 hlt2]
            exact ih (k + 1) (by omega) (by rw [upTo_succ, hu, upAt_next hs hr (by omega) hok]; simpa using hlt2)
          · rw [h6 (by omega), upTo_not (by rw [upAt_next hs hr (by omega) hok]; simpa using hlt2) hlt]; rfl
  exact key l.length 0 (by omega) (upTo_zero ok id l)
end Go.Proofs.YtkinlkmmelkdnaaDoor.QLoop

/- Lists of valid records in strictly rising order of any kind; texts in the order of their bytes. (QOrd) No condition but those of each theorem. -/
namespace Go.Proofs.YtkinlkmmelkdnaaDoor.QOrd
set_option linter.unusedVariables false
set_option linter.unusedSimpArgs false
open Go.RowKit
open Go.Proofs.YtkinlkmmelkdnaaDoor.GoP Go.Proofs.YtkinlkmmelkdnaaDoor.PlainStamp Go.Proofs.YtkinlkmmelkdnaaDoor.QBase Go.Proofs.YtkinlkmmelkdnaaDoor.QLoop

/-- texts in the order of their bytes -/
def bl (a b : ByteArray) : Bool := Op.bytesLess a.toList b.toList
theorem bl_self' : ∀ x, Op.bytesLess x x = false
  | [] => rfl
  | a :: x => by
    have h1 : ¬ a < a := fun k => by rw [UInt8.lt_iff_toNat_lt] at k; omega
    simp [Op.bytesLess, h1, bl_self' x]
theorem bl_total' : ∀ x y, x ≠ y → Op.bytesLess x y = !(Op.bytesLess y x)
  | [], [], h => absurd rfl h
  | [], b :: y, _ => by simp [Op.bytesLess]
  | a :: x, [], _ => by simp [Op.bytesLess]
  | a :: x, b :: y, h => by
    by_cases hab : a = b
    · subst hab
      have h1 : ¬ a < a := fun k => by rw [UInt8.lt_iff_toNat_lt] at k; omega
      have := bl_total' x y (fun e => h (by rw [e]))
      simp [Op.bytesLess, h1, this]
    · have hne : a.toNat ≠ b.toNat := fun e => hab (UInt8.toNat_inj.1 e)
      by_cases hlt : a < b
      · have h2 : ¬ b < a := fun k => by rw [UInt8.lt_iff_toNat_lt] at k hlt; omega
        simp [Op.bytesLess, hlt, h2, Ne.symm hab]
      · have h2 : b < a := by rw [UInt8.lt_iff_toNat_lt] at hlt ⊢; omega
        simp [Op.bytesLess, hlt, h2, hab]
theorem bl_trans' : ∀ x y z, Op.bytesLess x y = true → Op.bytesLess y z = true → Op.bytesLess x z = true
  | [], _, [], h1, h2 => by rename_i y; cases y <;> simp [Op.bytesLess] at h1 h2
  | [], _, c :: z, _, _ => by simp [Op.bytesLess]
  | a :: x, [], _, h1, _ => by simp [Op.bytesLess] at h1
  | a :: x, b :: y, [], _, h2 => by simp [Op.bytesLess] at h2
  | a :: x, b :: y, c :: z, h1, h2 => by
    simp only [Op.bytesLess, Bool.or_eq_true, decide_eq_true_eq, Bool.and_eq_true, beq_iff_eq] at h1 h2 ⊢
    rcases h1 with h1 | ⟨rfl, h1⟩
    · rcases h2 with h2 | ⟨rfl, h2⟩
      · left; rw [UInt8.lt_iff_toNat_lt] at h1 h2 ⊢; omega
      · left; exact h1
    · rcases h2 with h2 | ⟨rfl, h2⟩
      · left; exact h2
      · right; exact ⟨rfl, bl_trans' x y z h1 h2⟩
theorem list_inj {a b : ByteArray} (h : a.toList = b.toList) : a = b := by
  rw [Lib.toList_data, Lib.toList_data] at h
  cases a; cases b; congr 1; exact Array.toList_inj.1 h
theorem bl_self (a : ByteArray) : bl a a = false := bl_self' _
theorem bl_total {a b : ByteArray} (h : a ≠ b) : bl a b = !(bl b a) := bl_total' _ _ (fun e => h (list_inj e))
theorem bl_trans {a b c : ByteArray} (h1 : bl a b = true) (h2 : bl b c = true) : bl a c = true := bl_trans' _ _ _ h1 h2
theorem bl_asymm {a b : ByteArray} (h : bl a b = true) : bl b a = false := by
  by_cases e : a = b
  · rw [e]; exact bl_self b
  · rw [bl_total e] at h; simpa using h
theorem bl_ne {a b : ByteArray} (h : bl a b = true) : a ≠ b := fun e => by rw [e, bl_self] at h; exact absurd h (by simp)
/-- 'not above', as the program asks it -/
theorem bl_le (a b : ByteArray) : (Op.bytesLess a.toList b.toList || a.toList == b.toList) = !(bl b a) := by
  by_cases e : a = b
  · subst e; rw [bl_self]; simp
  · have h1 : (a.toList == b.toList) = false := by rw [beq_eq_false_iff_ne]; exact fun h => e (list_inj h)
    rw [h1, Bool.or_false]; exact bl_total e
theorem bl_lt (a b : ByteArray) : Op.bytesLess a.toList b.toList = bl a b := rfl
theorem eq_list (a b : ByteArray) : (a.toList == b.toList) = decide (a = b) := by
  by_cases e : a = b
  · subst e; simp
  · rw [decide_eq_false e, beq_eq_false_iff_ne]; exact fun h => e (list_inj h)

/-- valid, and behind the one ahead of it -/
def riseAt {α : Type} (ok : α → Bool) (lt : α → α → Bool) (l : List α) (k : Nat) : Bool :=
  match l[k]? with
  | none => true
  | some s => ok s && (decide (k = 0) || (match l[k-1]? with | none => true | some r => lt r s))
def riseTo {α : Type} (ok : α → Bool) (lt : α → α → Bool) (l : List α) (k : Nat) : Bool := (List.range k).all (riseAt ok lt l)
theorem riseTo_zero {α : Type} (ok : α → Bool) (lt : α → α → Bool) (l : List α) : riseTo ok lt l 0 = true := rfl
theorem riseTo_succ {α : Type} (ok : α → Bool) (lt : α → α → Bool) (l : List α) (k : Nat) : riseTo ok lt l (k + 1) = (riseTo ok lt l k && riseAt ok lt l k) := by simp [riseTo, List.range_succ, List.all_append]
theorem riseTo_not {α : Type} {ok : α → Bool} {lt : α → α → Bool} {l : List α} {k n : Nat} (h : riseAt ok lt l k = false) (hk : k < n) : riseTo ok lt l n = false := by
  unfold riseTo
  rw [Bool.eq_false_iff]
  intro ha
  have := List.all_eq_true.1 ha k (List.mem_range.2 hk)
  rw [h] at this; exact absurd this (by simp)
def riseL {α : Type} (m : Nat) (ok : α → Bool) (lt : α → α → Bool) (l : List α) : Bool := decide (l.length ≤ m) && riseTo ok lt l l.length
theorem riseAt_bad {α : Type} {ok : α → Bool} {lt : α → α → Bool} {l : List α} {k : Nat} {s : α} (hs : l[k]? = some s) (h : ok s = false) : riseAt ok lt l k = false := by unfold riseAt; rw [hs]; simp [h]
theorem riseAt_first {α : Type} {ok : α → Bool} {lt : α → α → Bool} {l : List α} {s : α} (hs : l[0]? = some s) (h : ok s = true) : riseAt ok lt l 0 = true := by unfold riseAt; rw [hs]; simp [h]
theorem riseAt_next {α : Type} {ok : α → Bool} {lt : α → α → Bool} {l : List α} {k : Nat} {s r : α} (hs : l[k]? = some s) (hr : l[k-1]? = some r) (hk : 0 < k) (h : ok s = true) : riseAt ok lt l k = lt r s := by
  unfold riseAt; rw [hs]; simp only [hr, h, Bool.true_and, decide_eq_false (show ¬ k = 0 by omega), Bool.false_or]
theorem riseL_len {α : Type} {m : Nat} {ok : α → Bool} {lt : α → α → Bool} {l : List α} (h : riseL m ok lt l = true) : l.length ≤ m := by unfold riseL at h; simp only [Bool.and_eq_true, decide_eq_true_eq] at h; exact h.1
theorem riseTo_at {α : Type} {ok : α → Bool} {lt : α → α → Bool} {l : List α} {n : Nat} (h : riseTo ok lt l n = true) {k : Nat} (hk : k < n) : riseAt ok lt l k = true := List.all_eq_true.1 h k (List.mem_range.2 hk)
theorem riseL_ok {α : Type} {m : Nat} {ok : α → Bool} {lt : α → α → Bool} {l : List α} (h : riseL m ok lt l = true) {k : Nat} {s : α} (hs : l[k]? = some s) : ok s = true := by
  unfold riseL at h
  simp only [Bool.and_eq_true, decide_eq_true_eq] at h
  have := riseTo_at h.2 (List.getElem?_eq_some_iff.1 hs).1
  unfold riseAt at this
  rw [hs] at this
  simp only [Bool.and_eq_true] at this
  exact this.1
theorem riseL_mem {α : Type} {m : Nat} {ok : α → Bool} {lt : α → α → Bool} {l : List α} (h : riseL m ok lt l = true) {s : α} (hs : s ∈ l) : ok s = true := by
  obtain ⟨k, hk⟩ := List.getElem?_of_mem hs
  exact riseL_ok h hk
theorem riseL_step {α : Type} {m : Nat} {ok : α → Bool} {lt : α → α → Bool} {l : List α} (h : riseL m ok lt l = true) {k : Nat} {x y : α} (hx : l[k]? = some x) (hy : l[k + 1]? = some y) : lt x y = true := by
  unfold riseL at h
  simp only [Bool.and_eq_true, decide_eq_true_eq] at h
  have := riseTo_at h.2 (List.getElem?_eq_some_iff.1 hy).1
  unfold riseAt at this
  rw [hy] at this
  simp only [Nat.add_sub_cancel, hx, Bool.and_eq_true, Bool.or_eq_true, decide_eq_true_eq] at this
  rcases this.2 with h0 | h0
  · omega
  · exact h0
theorem riseL_lt {α : Type} {m : Nat} {ok : α → Bool} {lt : α → α → Bool} (tr : ∀ a b c, lt a b = true → lt b c = true → lt a c = true) {l : List α} (h : riseL m ok lt l = true) {i j : Nat} {x y : α} (hij : i < j) (hx : l[i]? = some x) (hy : l[j]? = some y) : lt x y = true := by
  obtain ⟨d, rfl⟩ : ∃ d, j = i + d + 1 := ⟨j - i - 1, by omega⟩
  clear hij
  induction d generalizing y with
  | zero => exact riseL_step h hx hy
  | succ d ih =>
    obtain ⟨z, hz, _⟩ := at_lt (l := l) (k := i + d + 1) (by have := (List.getElem?_eq_some_iff.1 hy).1; omega)
    exact tr _ _ _ (ih hz) (riseL_step (k := i + d + 1) h hz (by rw [← hy]; rfl))
/-- a loop that goes through a list of records and stops with 'no' at the first that is bad -/
theorem rise_loop {α : Type} {ok : α → Bool} {lt : α → α → Bool} {l : List α} {R : Type} {no : R} {f : Nat → Unit → (Unit → Option R) → (Unit → Option R) → Option R} {fin : Unit → Option R}
    (step : ∀ k nx s, l[k]? = some s → (ok s = false → f k () nx fin = some no) ∧ (ok s = true → (k = 0 → f k () nx fin = nx ()) ∧ (0 < k → ∀ r, l[k-1]? = some r → (lt r s = true → f k () nx fin = nx ()) ∧ (lt r s = false → f k () nx fin = some no)))) :
    cntK f l.length 0 () fin = if riseTo ok lt l l.length then fin () else some no := by
  have key : ∀ m k, k + m = l.length → riseTo ok lt l k = true → cntK f m k () fin = if riseTo ok lt l l.length then fin () else some no := by
    intro m
    induction m with
    | zero => intro k hk hu; obtain rfl : k = l.length := by omega
              rw [hu]; rfl
    | succ m ih =>
      intro k hk hu
      have hlt : k < l.length := by omega
      obtain ⟨s, hs, _⟩ := at_lt hlt
      obtain ⟨h1, h2⟩ := step k (fun s' => cntK f m (k + 1) s' fin) s hs
      show f k () _ fin = _
      cases hok : ok s with
      | false => rw [h1 hok, riseTo_not (riseAt_bad hs hok) hlt]; rfl
      | true =>
        obtain ⟨h3, h4⟩ := h2 hok
        by_cases hk0 : k = 0
        · rw [h3 hk0]
          subst hk0
          exact ih 1 (by omega) (by rw [riseTo_succ, hu, riseAt_first hs hok]; rfl)
        · obtain ⟨r, hr, _⟩ := at_lt (l := l) (k := k - 1) (by omega)
          obtain ⟨h5, h6⟩ := h4 (by omega) r hr
          cases hl : lt r s with
          | true =>
            rw [h5 hl]
            exact ih (k + 1) (by omega) (by rw [riseTo_succ, hu, riseAt_next hs hr (by omega) hok, hl]; rfl)
          | false => rw [h6 hl, riseTo_not (by rw [riseAt_next hs hr (by omega) hok, hl]) hlt]; rfl
  exact key l.length 0 (by omega) (riseTo_zero ok lt l)
end Go.Proofs.YtkinlkmmelkdnaaDoor.QOrd

/- Loops that count, that search, and that gather behind what is there already: the plain loops' answers. (QCount) No condition but those of each theorem. -/
namespace Go.Proofs.YtkinlkmmelkdnaaDoor.QCount
set_option linter.unusedVariables false
set_option linter.unusedSimpArgs false
open Go.RowKit
open Go.Proofs.YtkinlkmmelkdnaaDoor.GoP Go.Proofs.YtkinlkmmelkdnaaDoor.PlainStamp Go.Proofs.YtkinlkmmelkdnaaDoor.QBase Go.Proofs.YtkinlkmmelkdnaaDoor.QLoop

theorem count_list {α R : Type} {l : List α} {p : α → Bool} {f : Nat → Int → (Int → Option R) → (Int → Option R) → Option R} {fin : Int → Option R}
    (step : ∀ k nx x (s : Nat), l[k]? = some x → s ≤ k → f k (s : Int) nx fin = nx ((if p x = true then s + 1 else s : Nat) : Int)) : cntK f l.length 0 0 fin = fin ((l.filter p).length : Int) := by
  have key : ∀ m k, k + m = l.length → cntK f m k (((l.take k).filter p).length : Int) fin = fin ((l.filter p).length : Int) := by
    intro m
    induction m with
    | zero => intro k hk; obtain rfl : k = l.length := by omega
              rw [List.take_of_length_le (Nat.le_refl _)]; rfl
    | succ m ih =>
      intro k hk
      obtain ⟨x, hx, _⟩ := at_lt (l := l) (k := k) (by omega)
      show f k _ _ fin = _
      have hle : ((l.take k).filter p).length ≤ k := by
        have := List.length_filter_le p (l.take k)
        rw [List.length_take] at this
        omega
      rw [step k _ x _ hx hle, ← ih (k + 1) (by omega), take_next hx, List.filter_append, List.length_append]
      cases hp : p x <;> simp [List.filter, hp]
  exact key l.length 0 (by omega)
theorem count_up {R : Type} {n : Nat} {p : Nat → Bool} {f : Nat → Int → (Int → Option R) → (Int → Option R) → Option R} {fin : Int → Option R}
    (step : ∀ k nx (s : Nat), k < n → s ≤ k → f k (s : Int) nx fin = nx ((if p k = true then s + 1 else s : Nat) : Int)) : cntK f n 0 0 fin = fin (((List.range n).filter p).length : Int) := by
  have h := count_list (l := List.range n) (p := p) (f := f) (fin := fin) (fun k nx x s hx hs => by
    obtain ⟨hk, rfl⟩ := List.getElem?_eq_some_iff.1 hx
    rw [List.length_range] at hk
    rw [List.getElem_range]
    exact step k nx s hk hs)
  rw [List.length_range] at h
  exact h
theorem filter_zero {α : Type} (l : List α) (p : α → Bool) : (((l.filter p).length : Int) == 0) = !(l.any p) := by
  rw [Bool.eq_iff_iff]
  simp only [beq_iff_eq, Bool.not_eq_true', List.any_eq_false]
  constructor
  · intro h x hx hp
    have : x ∈ l.filter p := List.mem_filter.2 ⟨hx, hp⟩
    have := List.length_pos_of_mem this
    omega
  · intro h
    have : l.filter p = [] := List.filter_eq_nil_iff.2 h
    rw [this]; rfl
/-- the first place at which the test holds -/
def firstI {α : Type} (p : α → Bool) (l : List α) : Int := match l.findIdx? p with | some i => (i : Int) | none => -1
theorem find_loop {α R : Type} {l : List α} {p : α → Bool} {f : Nat → Unit → (Unit → Option R) → (Unit → Option R) → Option R} {fin : Unit → Option R} {yes : Nat → Option R}
    (step : ∀ k nx x, l[k]? = some x → f k () nx fin = if p x = true then yes k else nx ()) : cntK f l.length 0 () fin = match l.findIdx? p with | some i => yes i | none => fin () := by
  have key : ∀ m k, k + m = l.length → (∀ i x, i < k → l[i]? = some x → p x = false) → cntK f m k () fin = match l.findIdx? p with | some i => yes i | none => fin () := by
    intro m
    induction m with
    | zero =>
      intro k hk hu; obtain rfl : k = l.length := by omega
      have : l.findIdx? p = none := by
        rw [List.findIdx?_eq_none_iff]
        intro x hx
        obtain ⟨i, hi⟩ := List.getElem?_of_mem hx
        exact hu i x (List.getElem?_eq_some_iff.1 hi).1 hi
      rw [this]; rfl
    | succ m ih =>
      intro k hk hu
      obtain ⟨x, hx, _⟩ := at_lt (l := l) (k := k) (by omega)
      show f k () _ fin = _
      rw [step k _ x hx]
      cases hp : p x with
      | true =>
        have : l.findIdx? p = some k := by
          rw [List.findIdx?_eq_some_iff_getElem]
          obtain ⟨hlt, e⟩ := List.getElem?_eq_some_iff.1 hx
          refine ⟨hlt, by rw [e]; exact hp, fun j hj => ?_⟩
          rw [hu j l[j] hj (List.getElem?_eq_getElem (by omega))]; simp
        rw [this, if_pos rfl]
      | false =>
        rw [if_neg (by simp)]
        refine ih (k + 1) (by omega) (fun i y hi hy => ?_)
        by_cases he : i = k
        · subst he; rw [hx] at hy; obtain rfl := Option.some.inj hy; exact hp
        · exact hu i y (by omega) hy
  exact key l.length 0 (by omega) (fun i x hi _ => by omega)
theorem any_find {α : Type} (p : α → Bool) (l : List α) : decide (0 ≤ firstI p l) = l.any p := by
  unfold firstI
  cases h : l.findIdx? p with
  | none =>
    rw [List.findIdx?_eq_none_iff] at h
    have : l.any p = false := by rw [List.any_eq_false]; intro x hx; rw [h x hx]; simp
    rw [this]; rfl
  | some i =>
    rw [List.findIdx?_eq_some_iff_getElem] at h
    obtain ⟨hi, hp, _⟩ := h
    have : l.any p = true := List.any_eq_true.2 ⟨l[i], List.getElem_mem hi, hp⟩
    rw [this]; simp
theorem gatherA {α β R : Type} {l : List α} {p : α → Bool} {g : α → β} {acc : List β} {f : Nat → List β → (List β → Option R) → (List β → Option R) → Option R} {fin : List β → Option R} (hl : acc.length + l.length ≤ 1099511627776)
    (step : ∀ k nx x s, l[k]? = some x → s.length ≤ 1099511627776 → f k s nx fin = nx (if p x = true then s ++ [g x] else s)) : cntK f l.length 0 acc fin = fin (acc ++ (l.filter p).map g) := by
  have key : ∀ m k, k + m = l.length → cntK f m k (acc ++ ((l.take k).filter p).map g) fin = fin (acc ++ (l.filter p).map g) := by
    intro m
    induction m with
    | zero => intro k hk; obtain rfl : k = l.length := by omega
              rw [List.take_of_length_le (Nat.le_refl _)]; rfl
    | succ m ih =>
      intro k hk
      obtain ⟨x, hx, _⟩ := at_lt (l := l) (k := k) (by omega)
      show f k _ _ fin = _
      have hle : (acc ++ ((l.take k).filter p).map g).length ≤ 1099511627776 := by
        rw [List.length_append, List.length_map]
        have := List.length_filter_le p (l.take k)
        rw [List.length_take] at this
        omega
      rw [step k _ x _ hx hle, ← ih (k + 1) (by omega), take_next hx, List.filter_append, List.map_append]
      cases hp : p x <;> simp [List.filter, hp]
  have h0 := key l.length 0 (by omega)
  simpa using h0
/-- a loop with fuel over what stands from k on -/
theorem gatherL {α β R : Type} {l : List α} {p : α → Bool} {g : α → β} {f : List β × Int → (List β × Int → Option R) → (List β × Int → Option R) → Option R} {fin : List β × Int → Option R}
    (step : ∀ (k : Nat) nx x s, l[k]? = some x → s.length ≤ 1099511627776 → f (s, (k : Int)) nx fin = nx (if p x = true then s ++ [g x] else s, ((k + 1 : Nat) : Int)))
    (stop : ∀ s nx, f (s, (l.length : Int)) nx fin = fin (s, (l.length : Int))) : ∀ (fuel k : Nat) (acc : List β), k ≤ l.length → l.length - k < fuel → acc.length + l.length ≤ 1099511627776 + k → loopK f fuel (acc, (k : Int)) fin = fin (acc ++ ((l.drop k).filter p).map g, (l.length : Int)) := by
  intro fuel
  induction fuel with
  | zero => intro k acc hk hf; omega
  | succ m ih =>
    intro k acc hk hf ha
    show f (acc, (k : Int)) _ fin = _
    by_cases he : k = l.length
    · subst he; rw [stop, List.drop_of_length_le (Nat.le_refl _)]; simp
    · obtain ⟨x, hx, _⟩ := at_lt (l := l) (k := k) (by omega)
      rw [step k _ x acc hx (by omega), ih (k + 1) _ (by omega) (by omega) (by
        split
        · rw [List.length_append, List.length_singleton]; omega
        · omega)]
      obtain ⟨hlt, e⟩ := List.getElem?_eq_some_iff.1 hx
      rw [List.drop_eq_getElem_cons hlt, e]
      cases hp : p x <;> simp [List.filter, hp]
end Go.Proofs.YtkinlkmmelkdnaaDoor.QCount

/- Loops that test each place, and loops without a count. No condition. -/
namespace Go.Proofs.YtkinlkmmelkdnaaDoor.QAll
set_option linter.unusedVariables false
set_option linter.unusedSimpArgs false
open Go.RowKit
open Go.Proofs.YtkinlkmmelkdnaaDoor.GoP Go.Proofs.YtkinlkmmelkdnaaDoor.QBase Go.Proofs.YtkinlkmmelkdnaaDoor.QLoop

/-- each number below n is good -/
def allN (n : Nat) (p : Nat → Bool) : Bool := (List.range n).all p
theorem allN_iff {n : Nat} {p : Nat → Bool} : allN n p = true ↔ ∀ i, i < n → p i = true := by unfold allN; simp
theorem allN_no {n k : Nat} {p : Nat → Bool} (hk : k < n) (h : p k = false) : allN n p = false := by
  rw [Bool.eq_false_iff]; intro ha; rw [allN_iff.1 ha k hk] at h; exact absurd h (by simp)
theorem allN_eq {n m : Nat} {p q : Nat → Bool} (h : (∀ i, i < n → p i = true) ↔ (∀ i, i < m → q i = true)) : allN n p = allN m q := by
  rw [Bool.eq_iff_iff, allN_iff, allN_iff]; exact h
theorem all_cnt {ρ : Type} {n : Nat} {p : Nat → Bool} {no : ρ} {f : Nat → Unit → (Unit → Option ρ) → (Unit → Option ρ) → Option ρ} {fin : Unit → Option ρ}
    (step : ∀ k nx, k < n → (p k = false → f k () nx fin = some no) ∧ (p k = true → f k () nx fin = nx ())) : cntK f n 0 () fin = if allN n p = true then fin () else some no := by
  have key : ∀ m k, k + m = n → (∀ i, i < k → p i = true) → cntK f m k () fin = if allN n p = true then fin () else some no := by
    intro m
    induction m with
    | zero => intro k hk hu; obtain rfl : k = n := by omega
              rw [allN_iff.2 hu]; rfl
    | succ m ih =>
      intro k hk hu
      obtain ⟨h1, h2⟩ := step k (fun s' => cntK f m (k + 1) s' fin) (by omega)
      show f k () _ fin = _
      cases hp : p k with
      | false => rw [h1 hp, allN_no (by omega) hp]; rfl
      | true =>
        rw [h2 hp]
        refine ih (k + 1) (by omega) (fun i hi => ?_)
        by_cases he : i = k
        · rw [he]; exact hp
        · exact hu i (by omega)
  exact key n 0 (by omega) (fun i hi => by omega)
theorem lp_ex {σ ρ : Type} {f : σ → (σ → Option ρ) → (σ → Option ρ) → Option ρ} {fin : σ → Option ρ} {Q : ρ → Prop} {n : Nat} (I : Nat → σ → Prop)
    (step : ∀ k s nx, k < n → I k s → (∀ s', I (k + 1) s' → ∃ r, nx s' = some r ∧ Q r) → ∃ r, f s nx fin = some r ∧ Q r) (done : ∀ s nx, I n s → ∃ r, f s nx fin = some r ∧ Q r) :
    ∀ fuel k s, k ≤ n → n - k < fuel → I k s → ∃ r, loopK f fuel s fin = some r ∧ Q r := by
  intro fuel
  induction fuel with
  | zero => intro k s hk hf; omega
  | succ m ih =>
    intro k s hk hf hI
    show ∃ r, f s _ fin = some r ∧ Q r
    by_cases he : k = n
    · subst he; exact done s _ hI
    · exact step k s _ (by omega) hI (fun s' h' => ih (k + 1) s' (by omega) (by omega) h')
theorem all_lp {ρ : Type} {n : Nat} {p : Nat → Bool} {no : ρ} {f : Int → (Int → Option ρ) → (Int → Option ρ) → Option ρ} {fin : Int → Option ρ}
    (step : ∀ (k : Nat) nx, k < n → (p k = false → f (k : Int) nx fin = some no) ∧ (p k = true → f (k : Int) nx fin = nx ((k + 1 : Nat) : Int))) (stop : ∀ nx, f (n : Int) nx fin = fin (n : Int))
    (fuel : Nat) (hf : n < fuel) : loopK f fuel 0 fin = if allN n p = true then fin (n : Int) else some no := by
  have key : ∀ fuel k, k ≤ n → n - k < fuel → (∀ i, i < k → p i = true) → loopK f fuel (k : Int) fin = if allN n p = true then fin (n : Int) else some no := by
    intro fuel
    induction fuel with
    | zero => intro k hk hf; omega
    | succ m ih =>
      intro k hk hf hu
      show f (k : Int) _ fin = _
      by_cases he : k = n
      · subst he; rw [stop, allN_iff.2 hu]; rfl
      · obtain ⟨h1, h2⟩ := step k (fun s' => loopK f m s' fin) (by omega)
        cases hp : p k with
        | false => rw [h1 hp, allN_no (by omega) hp]; rfl
        | true =>
          rw [h2 hp]
          refine ih (k + 1) (by omega) (by omega) (fun i hi => ?_)
          by_cases he : i = k
          · rw [he]; exact hp
          · exact hu i (by omega)
  exact key fuel 0 (by omega) (by omega) (fun i hi => by omega)
theorem next_i {k : Nat} (h : k ≤ 9223372036854775806) : IntKind.i64.wrap ((k : Int) + 1) = ((k + 1 : Nat) : Int) := by rw [wrap_in (by omega) (by omega)]; omega
end Go.Proofs.YtkinlkmmelkdnaaDoor.QAll

/- Rising rows: what a rising row gives; loops that sum; loops from one on. No condition. -/
namespace Go.Proofs.YtkinlkmmelkdnaaDoor.QUp
set_option linter.unusedVariables false
set_option linter.unusedSimpArgs false
open Go.RowKit
open Go.Proofs.YtkinlkmmelkdnaaDoor.GoP Go.Proofs.YtkinlkmmelkdnaaDoor.QBase Go.Proofs.YtkinlkmmelkdnaaDoor.QLoop Go.Proofs.YtkinlkmmelkdnaaDoor.QAll

theorem upTo_at {α : Type} {ok : α → Bool} {id : α → Int} {l : List α} {n : Nat} (h : upTo ok id l n = true) {k : Nat} (hk : k < n) : upAt ok id l k = true := List.all_eq_true.1 h k (List.mem_range.2 hk)
theorem upTo_ok {α : Type} {ok : α → Bool} {id : α → Int} {l : List α} {n : Nat} (h : upTo ok id l n = true) {k : Nat} (hk : k < n) {x : α} (hx : l[k]? = some x) : ok x = true := by
  have := upTo_at h hk
  unfold upAt at this
  rw [hx] at this
  simp only [Bool.and_eq_true] at this
  exact this.1
theorem upTo_step {α : Type} {ok : α → Bool} {id : α → Int} {l : List α} {n : Nat} (h : upTo ok id l n = true) {k : Nat} (hk : k + 1 < n) {x y : α} (hx : l[k]? = some x) (hy : l[k + 1]? = some y) : id x < id y := by
  have := upTo_at h hk
  unfold upAt at this
  rw [hy] at this
  simp only [Nat.add_sub_cancel, hx, Bool.and_eq_true, Bool.or_eq_true, decide_eq_true_eq] at this
  rcases this.2 with h0 | h0
  · omega
  · exact h0
theorem upTo_lt {α : Type} {ok : α → Bool} {id : α → Int} {l : List α} {n : Nat} (h : upTo ok id l n = true) (hn : n ≤ l.length) {i : Nat} : ∀ d {x y : α}, i + d + 1 < n → l[i]? = some x → l[i + d + 1]? = some y → id x < id y := by
  intro d
  induction d with
  | zero => intro x y hk hx hy; exact upTo_step h hk hx hy
  | succ d ih =>
    intro x y hk hx hy
    obtain ⟨z, hz, _⟩ := at_lt (l := l) (k := i + d + 1) (by omega)
    have h1 := ih (by omega) hx hz
    have h2 := upTo_step (k := i + d + 1) h (by omega) hz (by rw [← hy]; rfl)
    omega
/-- rising numbers: the later one is greater -/
theorem up_less {α : Type} {ok : α → Bool} {id : α → Int} {l : List α} (h : upTo ok id l l.length = true) {i j : Nat} {x y : α} (hij : i < j) (hx : l[i]? = some x) (hy : l[j]? = some y) : id x < id y := by
  have hj := (List.getElem?_eq_some_iff.1 hy).1
  exact upTo_lt h (Nat.le_refl _) (j - i - 1) (by omega) hx (by rw [← hy]; congr 1; omega)
/-- a loop with fuel, from k on, by an invariant -/
theorem lp_is {σ ρ : Type} {f : σ → (σ → Option ρ) → (σ → Option ρ) → Option ρ} {fin : σ → Option ρ} {n : Nat} (r : ρ) (I : Nat → σ → Prop)
    (step : ∀ k s nx, k < n → I k s → (∀ s', I (k + 1) s' → nx s' = some r) → f s nx fin = some r) (done : ∀ s nx, I n s → f s nx fin = some r) (fuel : Nat) (k : Nat) (s : σ) (hk : k ≤ n) (hf : n - k < fuel) (hI : I k s) : loopK f fuel s fin = some r := by
  obtain ⟨r', h, rfl⟩ := lp_ex (Q := fun x => x = r) I (fun k s nx hk hI hn => ⟨r, step k s nx hk hI (fun s' h' => by obtain ⟨_, h, rfl⟩ := hn s' h'; exact h), rfl⟩) (fun s nx h => ⟨r, done s nx h, rfl⟩) fuel k s hk hf hI
  exact h
theorem most_eq (a b : Int) (h : (if b < a then a else b) = max a b := by omega) : (if b < a then a else b) = max a b := h
end Go.Proofs.YtkinlkmmelkdnaaDoor.QUp

/- Draws on tapes: each gives something within its bounds. (QDraw) No condition but those of each theorem. -/
namespace Go.Proofs.YtkinlkmmelkdnaaDoor.QDraw
set_option linter.unusedVariables false
set_option linter.unusedSimpArgs false
open Go.RowKit
open Go.Proofs.YtkinlkmmelkdnaaDoor.GoP Go.Proofs.YtkinlkmmelkdnaaDoor.PlainStamp Go.Proofs.YtkinlkmmelkdnaaDoor.QBase Go.Proofs.YtkinlkmmelkdnaaDoor.QLoop

/-- a tape that may be asked m times more -/
def good (t : GoC.Tape) (m : Nat) : Prop := m ≤ t.left ∧ ∀ i, 0 ≤ t.vals i ∧ t.vals i ≤ 255
theorem good_less {t : GoC.Tape} {m n : Nat} (h : good t m) (hn : n ≤ m) : good t n := ⟨Nat.le_trans hn h.1, h.2⟩
theorem good_of {tapes : List Int → GoC.Tape} (h : GoC.Tells tapes) (code : List Int) {m : Nat} (hm : m ≤ 4611686018427387904) : good (tapes code) m := ⟨by rw [h.1]; exact hm, h.2.1 code⟩
theorem next_ok {t : GoC.Tape} {m : Nat} (h : good t (m + 1)) : ∃ b t', GsL1CurNext.P t = some (b, t') ∧ (0 ≤ b ∧ b ≤ 255) ∧ good t' m := by
  unfold GsL1CurNext.P
  rw [if_pos (by have := h.1; omega)]
  exact ⟨_, _, rfl, h.2 0, by have := h.1; show m ≤ t.left - 1; omega, fun i => h.2 (i + 1)⟩
theorem pick_ok {t : GoC.Tape} {m : Nat} {n : Int} (h : good t (m + 2)) : ∃ x t', GsL1CurPick.P t n = some (x, t') ∧ 0 ≤ x ∧ (x < n ∨ n ≤ 1 ∧ x = 0) ∧ x ≤ 65535 ∧ good t' m := by
  simp only [GsL1CurPick.P, letK, iteK_if]
  by_cases hn : n ≤ 1
  · rw [if_pos (by simpa using hn)]
    exact ⟨0, t, rfl, by omega, by omega, by omega, good_less h (by omega)⟩
  · rw [if_neg (by simpa using hn)]
    obtain ⟨b, t1, e1, hb, h1⟩ := next_ok (m := m + 1) h
    rw [e1]
    simp only [bind2_some]
    by_cases h2 : 200 < n
    · rw [if_pos (by simpa using h2)]
      obtain ⟨b2, t2, e2, hb2, h3⟩ := next_ok (m := m) h1
      rw [e2]
      simp only [bind2_some, GsL1CurPick.j0, unp2, letK]
      rw [guardK_pos (by omega), wrap_in (x := b * 256) (by omega) (by omega), wrap_in (by omega) (by omega), Int.tmod_eq_emod_of_nonneg (by omega)]
      have k1 := Int.emod_nonneg (b * 256 + b2) (show n ≠ 0 by omega)
      have k2 := Int.emod_lt_of_pos (b * 256 + b2) (show 0 < n by omega)
      have k3 : (b * 256 + b2) % n ≤ 65535 := by
        by_cases hq : n ≤ 65536
        · omega
        · rw [Int.emod_eq_of_lt (by omega) (by omega)]; omega
      exact ⟨_, _, rfl, k1, .inl k2, by omega, h3⟩
    · rw [if_neg (by simpa using h2)]
      simp only [GsL1CurPick.j0, unp2, letK]
      rw [guardK_pos (by omega), Int.tmod_eq_emod_of_nonneg (by omega)]
      have k1 := Int.emod_nonneg b (show n ≠ 0 by omega)
      have k2 := Int.emod_lt_of_pos b (show 0 < n by omega)
      exact ⟨_, _, rfl, k1, .inl k2, by omega, good_less h1 (by omega)⟩
theorem among_ok {t : GoC.Tape} {m : Nat} {l : List Int} (h : good t (m + 2)) (h0 : 0 < l.length) : ∃ x t', GsL1CurAmong.P t l = some (x, t') ∧ x ∈ l ∧ good t' m := by
  obtain ⟨x, t', e, hx0, hx, _, hg⟩ := pick_ok (n := (l.length : Int)) h
  simp only [GsL1CurAmong.P, e, bind2_some]
  obtain ⟨y, hy, hyi⟩ := at_lt (l := l) (k := x.toNat) (by omega)
  rw [show ((x.toNat : Nat) : Int) = x by omega] at hyi
  exact ⟨y, t', by rw [hyi]; rfl, List.mem_of_getElem? hy, hg⟩
theorem one_ok {t : GoC.Tape} {m : Nat} {n : Int} (h : good t (m + 2)) : ∃ b t', GsL1CurOne.P t n = some (b, t') ∧ good t' m := by
  obtain ⟨x, t', e, _, _, _, hg⟩ := pick_ok (n := n) h
  exact ⟨x == 0, t', by simp only [GsL1CurOne.P, e, bind2_some, letK], hg⟩
end Go.Proofs.YtkinlkmmelkdnaaDoor.QDraw

/- Chapter 7: hues and shades: the plain functions of the program and of the reference agree, and the laws answer true. (Q7Hue) No condition but those of each theorem. -/
namespace Go.Proofs.YtkinlkmmelkdnaaDoor.Q7Hue
set_option linter.unusedVariables false
set_option linter.unusedSimpArgs false
open Go.RowKit
open Go.Proofs.YtkinlkmmelkdnaaDoor.GoP Go.Proofs.YtkinlkmmelkdnaaDoor.PlainStamp Go.Proofs.YtkinlkmmelkdnaaDoor.QBase Go.Proofs.YtkinlkmmelkdnaaDoor.QLoop

def far (a b : Int) : Int := min (max (a - b) (b - a)) (360 - max (a - b) (b - a))
theorem isHue_eq (h : Int) : GiIsHue.P h = some (inB h 0 359) := by simp only [GiIsHue.P, within_eq, Option.bind_some]
theorem l7Hue_eq (h : Int) : GsL7Hue.P h = some (inB h 0 359) := by simp only [GsL7Hue.P, l1In_eq, Option.bind_some]
theorem most_eq (a b : Int) : GsL1Most.P a b = some (max a b) := by
  simp only [GsL1Most.P, letK, iteK_if]
  by_cases h : b < a
  · rw [if_pos (by simpa using h)]; congr 1; omega
  · rw [if_neg (by simpa using h)]; congr 1; omega
theorem least_eq (a b : Int) : GsL1Least.P a b = some (min a b) := by
  simp only [GsL1Least.P, letK, iteK_if]
  by_cases h : a < b
  · rw [if_pos (by simpa using h)]; congr 1; omega
  · rw [if_neg (by simpa using h)]; congr 1; omega
theorem circle_eq {n : Int} (h1 : -360 ≤ n) (h2 : n ≤ 719) : GiOnCircle.P n = some ((n + 360) % 360) := by
  simp only [GiOnCircle.P, letK]
  rw [wrap_in (by omega) (by omega), Int.tmod_eq_emod_of_nonneg (by omega)]
theorem up_eq {a b : Int} (ha : 0 ≤ a ∧ a ≤ 359) (hb : 0 ≤ b ∧ b ≤ 359) : GiUpwards.P a b = some ((b - a + 360) % 360) := by
  simp only [GiUpwards.P, letK]
  rw [wrap_in (by omega) (by omega), circle_eq (by omega) (by omega)]; rfl
theorem dist_eq {a b : Int} (ha : 0 ≤ a ∧ a ≤ 359) (hb : 0 ≤ b ∧ b ≤ 359) : GiLoHueDistance.P a b = some (far a b) := by
  simp only [GiLoHueDistance.P, up_eq ha hb, up_eq hb ha, Option.bind_some, letK, far]
  congr 1; omega
theorem l7Far_eq {a b : Int} (ha : 0 ≤ a ∧ a ≤ 359) (hb : 0 ≤ b ∧ b ≤ 359) : GsL7Far.P a b = some (far a b) := by
  simp only [GsL7Far.P, most_eq, least_eq, Option.bind_some, letK]
  rw [wrap_in (x := a - b) (by omega) (by omega), wrap_in (x := b - a) (by omega) (by omega), wrap_in (by omega) (by omega)]; rfl
def hueRes (a b : Int) : Int × Bool := if (inB a 0 359 && inB b 0 359) = true then (far a b, true) else (0, false)
theorem hue_impl (a b : Int) : GiHueDistance.P a b = some (hueRes a b) := by
  simp only [GiHueDistance.P, isHue_eq, Option.bind_some, letK, joinK, appK, iteK_if, hueRes]
  cases ha : inB a 0 359 with
  | false => simp
  | true =>
    cases hb : inB b 0 359 with
    | false => simp
    | true => simp [dist_eq (inB_of ha) (inB_of hb)]
theorem hue_spec (a b : Int) : GsHueDistance.P a b = some (hueRes a b) := by
  simp only [GsHueDistance.P, l7Hue_eq, Option.bind_some, letK, joinK, appK, iteK_if, hueRes]
  cases ha : inB a 0 359 with
  | false => simp
  | true =>
    cases hb : inB b 0 359 with
    | false => simp
    | true => simp [l7Far_eq (inB_of ha) (inB_of hb)]
end Go.Proofs.YtkinlkmmelkdnaaDoor.Q7Hue

/- Chapter 7: hues and shades: the plain functions of the program and of the reference agree, and the laws answer true. (Q7Blend) No condition but those of each theorem. -/
namespace Go.Proofs.YtkinlkmmelkdnaaDoor.Q7Blend
set_option linter.unusedVariables false
set_option linter.unusedSimpArgs false
open Go.RowKit
open Go.Proofs.YtkinlkmmelkdnaaDoor.GoP Go.Proofs.YtkinlkmmelkdnaaDoor.PlainStamp Go.Proofs.YtkinlkmmelkdnaaDoor.QBase Go.Proofs.YtkinlkmmelkdnaaDoor.Q7Hue Go.Proofs.YtkinlkmmelkdnaaDoor.QLoop

def blendRes (a b : Int) : Int × Bool := if (inB a 0 359 && inB b 0 359) = true then (if (b - a + 360) % 360 ≤ 180 then (a + (b - a + 360) % 360 / 2) % 360 else (a + 360 - (360 - (b - a + 360) % 360) / 2) % 360, true) else (0, false)
theorem blend_impl (a b : Int) : GiBlendHue.P a b = some (blendRes a b) := by
  simp only [GiBlendHue.P, hue_impl, blendRes, hueRes]
  cases ha : inB a 0 359 with
  | false => simp [bind2, letK, iteK_if]
  | true =>
    cases hb : inB b 0 359 with
    | false => simp [bind2, letK, iteK_if]
    | true =>
      have h1 := inB_of ha
      have h2 := inB_of hb
      simp only [Bool.and_true, if_true, bind2_some, letK, iteK_if, Bool.not_true, Bool.false_eq_true, if_false, up_eq h1 h2, Option.bind_some, GiBlendHue.j0]
      have h3 : 0 ≤ far a b ∧ far a b ≤ 180 := by unfold far; omega
      rw [Int.tdiv_eq_ediv_of_nonneg h3.1, wrap_in (x := far a b / 2) (by omega) (by omega)]
      by_cases hu : (b - a + 360) % 360 ≤ 180
      · rw [if_neg (by simp; omega), if_pos hu, wrap_in (x := a + far a b / 2) (by omega) (by omega), circle_eq (by omega) (by omega)]
        have : far a b = (b - a + 360) % 360 := by unfold far; omega
        rw [this]
        simp only [Option.bind_some]
        congr 2; omega
      · rw [if_pos (by simp; omega), if_neg hu, wrap_in (x := -(far a b / 2)) (by omega) (by omega), wrap_in (x := a + -(far a b / 2)) (by omega) (by omega), circle_eq (by omega) (by omega)]
        have : far a b = 360 - (b - a + 360) % 360 := by unfold far; omega
        rw [this]
        simp only [Option.bind_some]
        congr 2; omega
theorem blend_spec (a b : Int) : GsBlendHue.P a b = some (blendRes a b) := by
  simp only [GsBlendHue.P, l7Hue_eq, Option.bind_some, letK, joinK, appK, iteK_if, blendRes]
  cases ha : inB a 0 359 with
  | false => simp
  | true =>
    cases hb : inB b 0 359 with
    | false => simp
    | true =>
      have h1 := inB_of ha
      have h2 := inB_of hb
      simp only [Bool.and_true, if_true, Bool.not_true, Bool.false_eq_true, if_false]
      rw [wrap_in (x := b - a) (by omega) (by omega), wrap_in (x := b - a + 360) (by omega) (by omega), Int.tmod_eq_emod_of_nonneg (by omega)]
      have h3 : 0 ≤ (b - a + 360) % 360 ∧ (b - a + 360) % 360 ≤ 359 := by omega
      by_cases hu : (b - a + 360) % 360 ≤ 180
      · rw [if_pos (by simpa using hu), if_pos hu, Int.tdiv_eq_ediv_of_nonneg h3.1, wrap_in (x := (b - a + 360) % 360 / 2) (by omega) (by omega), wrap_in (by omega) (by omega), Int.tmod_eq_emod_of_nonneg (by omega)]
      · rw [if_neg (by simpa using hu), if_neg hu, wrap_in (x := a + 360) (by omega) (by omega), wrap_in (x := 360 - (b - a + 360) % 360) (by omega) (by omega), Int.tdiv_eq_ediv_of_nonneg (by omega), wrap_in (x := (360 - (b - a + 360) % 360) / 2) (by omega) (by omega), wrap_in (by omega) (by omega), Int.tmod_eq_emod_of_nonneg (by omega)]
end Go.Proofs.YtkinlkmmelkdnaaDoor.Q7Blend

/- The named law of hues: what it draws, the distances, the blended hue, certain hues, and the law answers true. (Q7HueFacts) No condition but those of each theorem. -/
namespace Go.Proofs.YtkinlkmmelkdnaaDoor.Q7HueFacts
set_option linter.unusedVariables false
set_option linter.unusedSimpArgs false
open Go.RowKit
open Go.Proofs.YtkinlkmmelkdnaaDoor.GoP Go.Proofs.YtkinlkmmelkdnaaDoor.PlainStamp Go.Proofs.YtkinlkmmelkdnaaDoor.QBase Go.Proofs.YtkinlkmmelkdnaaDoor.Q7Blend Go.Proofs.YtkinlkmmelkdnaaDoor.Q7Hue Go.Proofs.YtkinlkmmelkdnaaDoor.QLoop

theorem far_symm (a b : Int) : far a b = far b a := by unfold far; omega
theorem hueRes_symm (a b : Int) : hueRes a b = hueRes b a := by unfold hueRes; rw [far_symm a b, Bool.and_comm]
theorem far_le {a b : Int} (ha : 0 ≤ a ∧ a ≤ 359) (hb : 0 ≤ b ∧ b ≤ 359) : 0 ≤ far a b ∧ far a b ≤ 180 := by unfold far; omega
/-- the blended hue lies between -/
theorem blend_between {a b : Int} (ha : 0 ≤ a ∧ a ≤ 359) (hb : 0 ≤ b ∧ b ≤ 359) : ∃ m, blendRes a b = (m, true) ∧ (0 ≤ m ∧ m ≤ 359) ∧ far a m + far m b = far a b ∧ far m b - far a m ≤ 1 ∧ far a m ≤ far m b := by
  have h1 : inB a 0 359 = true := by unfold inB; simpa using ha
  have h2 : inB b 0 359 = true := by unfold inB; simpa using hb
  unfold blendRes
  rw [h1, h2]
  simp only [Bool.and_self, if_true]
  refine ⟨_, rfl, ?_⟩
  obtain ⟨u, hu⟩ : ∃ u, (b - a + 360) % 360 = u := ⟨_, rfl⟩
  have hu2 : 0 ≤ u ∧ u ≤ 359 := by omega
  have hab : b = a + u ∨ b = a + u - 360 := by omega
  rw [hu]
  by_cases hc : u ≤ 180
  · rw [if_pos hc]
    obtain ⟨m, hm⟩ : ∃ m, (a + u / 2) % 360 = m := ⟨_, rfl⟩
    rw [hm]
    have hm2 : m = a + u / 2 ∨ m = a + u / 2 - 360 := by omega
    have hm3 : 0 ≤ m ∧ m ≤ 359 := by omega
    have e1 : far a m = u / 2 := by unfold far; omega
    have e2 : far m b = u - u / 2 := by unfold far; omega
    have e3 : far a b = u := by unfold far; omega
    rw [e1, e2, e3]
    omega
  · rw [if_neg hc]
    obtain ⟨m, hm⟩ : ∃ m, (a + 360 - (360 - u) / 2) % 360 = m := ⟨_, rfl⟩
    rw [hm]
    have hm2 : m = a - (360 - u) / 2 ∨ m = a + 360 - (360 - u) / 2 := by omega
    have hm3 : 0 ≤ m ∧ m ≤ 359 := by omega
    have e1 : far a m = (360 - u) / 2 := by unfold far; omega
    have e2 : far m b = 360 - u - (360 - u) / 2 := by unfold far; omega
    have e3 : far a b = 360 - u := by unfold far; omega
    rw [e1, e2, e3]
    omega
theorem pigeon : ∀ (n : Nat) (l : List Nat), l.Nodup → (∀ x ∈ l, x < n) → l.length ≤ n := by
  intro n
  induction n with
  | zero =>
    intro l _ h
    cases l with
    | nil => simp
    | cons x l => have := h x (by simp); omega
  | succ n ih =>
    intro l hn h
    by_cases hm : n ∈ l
    · have h1 := List.length_erase_of_mem hm
      have h2 := ih (l.erase n) (hn.erase n) (fun x hx => by
        have h3 := (hn.mem_erase_iff).1 hx
        have := h x h3.2
        have := h3.1
        omega)
      have := List.length_pos_of_mem hm
      omega
    · have := ih l hn (fun x hx => by
        have h1 := h x hx
        have : x ≠ n := fun e => hm (e ▸ hx)
        omega)
      omega
/-- as many hues at most lie within a width -/
theorem within_count {c w : Int} (hc : 0 ≤ c ∧ c ≤ 359) (hw : 0 ≤ w ∧ w ≤ 179) (p : Nat → Bool) (hp : ∀ h : Nat, h < 360 → p h = true → far c (h : Int) ≤ w) : (((List.range 360).filter p).length : Int) ≤ 2 * w + 1 := by
  obtain ⟨W, rfl⟩ : ∃ W : Nat, w = (W : Int) := ⟨w.toNat, by omega⟩
  have key := pigeon (2 * W + 1) (((List.range 360).filter p).map fun h : Nat => (((h : Int) - (c - (W : Int)) + 360) % 360).toNat) ?_ ?_
  · rw [List.length_map] at key; omega
  · show List.Pairwise _ _
    rw [List.pairwise_map]
    have hnd : List.Nodup ((List.range 360).filter p) := List.Pairwise.filter _ List.nodup_range
    refine List.Pairwise.imp_of_mem ?_ hnd
    intro x y hx hy hne
    have h1 := List.mem_range.1 (List.mem_filter.1 hx).1
    have h2 := List.mem_range.1 (List.mem_filter.1 hy).1
    omega
  · intro x hx
    obtain ⟨h, hh, rfl⟩ := List.mem_map.1 hx
    obtain ⟨h1, h2⟩ := List.mem_filter.1 hh
    have h3 := List.mem_range.1 h1
    have h4 := hp h h3 h2
    unfold far at h4
    omega
end Go.Proofs.YtkinlkmmelkdnaaDoor.Q7HueFacts

/- Draws of shades on tapes: each gives something small. (Q7Draws) No condition but those of each theorem. -/
namespace Go.Proofs.YtkinlkmmelkdnaaDoor.Q7Draws
set_option linter.unusedVariables false
set_option linter.unusedSimpArgs false
open Go.RowKit
open Go.Proofs.YtkinlkmmelkdnaaDoor.GoP Go.Proofs.YtkinlkmmelkdnaaDoor.PlainStamp Go.Proofs.YtkinlkmmelkdnaaDoor.QBase Go.Proofs.YtkinlkmmelkdnaaDoor.QDraw Go.Proofs.YtkinlkmmelkdnaaDoor.QUp Go.Proofs.YtkinlkmmelkdnaaDoor.QAll Go.Proofs.YtkinlkmmelkdnaaDoor.QLoop Go.Proofs.YtkinlkmmelkdnaaDoor.PShade

def sm (x : Shade) : Prop := x.name.size ≤ 20 ∧ (-1000 ≤ x.hue ∧ x.hue ≤ 1000) ∧ (-1000 ≤ x.width ∧ x.width ≤ 1000) ∧ (-1000 ≤ x.dark ∧ x.dark ≤ 1000) ∧ (-1000 ≤ x.light ∧ x.light ≤ 1000)
theorem wf_small {n : Int} (h : -1000 ≤ n ∧ n ≤ 1000) : (Lit.int .i64 n).wf = true := by
  simp only [Lit.wf, Bool.and_eq_true, decide_eq_true_eq]
  exact ⟨Int.le_trans (by decide) h.1, Int.le_trans h.2 (by decide)⟩
theorem fits_sm {x : Shade} (h : sm x) : x.fits := ⟨by have := h.1; unfold maxLen; omega, wf_small h.2.1, wf_small h.2.2.1, wf_small h.2.2.2.1, wf_small h.2.2.2.2⟩
theorem of_ok {t : GoC.Tape} {m : Nat} {l : List ByteArray} (h : good t (m + 2)) (h0 : 0 < l.length) : ∃ x t', GsL1CurOf.P t l = some (x, t') ∧ x ∈ l ∧ good t' m := by
  obtain ⟨x, t', e, hx0, hx, _, hg⟩ := pick_ok (n := (l.length : Int)) h
  simp only [GsL1CurOf.P, e, bind2_some]
  obtain ⟨y, hy, hyi⟩ := at_lt (l := l) (k := x.toNat) (by omega)
  rw [show ((x.toNat : Nat) : Int) = x by omega] at hyi
  exact ⟨y, t', by rw [hyi]; rfl, List.mem_of_getElem? hy, hg⟩
theorem shade7_ok {t : GoC.Tape} {m : Nat} (name : ByteArray) (hn : name.size ≤ 20) (h : good t (m + 12)) : ∃ x t', GsL1CurShade7.P t name = some (x, t') ∧ sm x ∧ good t' m := by
  obtain ⟨a, t1, e1, m1, h1⟩ := among_ok (l := [0, 5, 20, 180, 350, 359]) (m := m + 10) h (by simp)
  obtain ⟨b, t2, e2, m2, h2⟩ := among_ok (l := [0, 5, 10, 15, 90, 179]) (m := m + 8) h1 (by simp)
  obtain ⟨c, t3, e3, m3, h3⟩ := among_ok (l := [0, 30, 50]) (m := m + 6) h2 (by simp)
  obtain ⟨d, t4, e4, m4, h4⟩ := among_ok (l := [50, 70, 100]) (m := m + 4) h3 (by simp)
  obtain ⟨p, t5, e5, _, _, _, h5⟩ := pick_ok (n := 90) (m := m + 2) h4
  simp only [List.mem_cons, List.not_mem_nil, or_false] at m1 m2 m3 m4
  have ba : -1000 ≤ a ∧ a ≤ 1000 := by omega
  have bb : -1000 ≤ b ∧ b ≤ 1000 := by omega
  have bc : -1000 ≤ c ∧ c ≤ 1000 := by omega
  have bd : -1000 ≤ d ∧ d ≤ 999 := by omega
  have bd' : -1000 ≤ d ∧ d ≤ 1000 := by omega
  simp only [GsL1CurShade7.P, letK, e1, e2, e3, e4, e5, bind2_some, iteK_if]
  rw [wrap_in (x := d + 1) (by omega) (by omega)]
  by_cases p0 : p = 0
  · obtain ⟨y, t6, e6, m6, h6⟩ := of_ok (l := [(⟨#[]⟩ : ByteArray), (⟨#[82, 101, 100]⟩ : ByteArray), (⟨#[97, 98, 99, 100, 101, 102, 103, 104, 105, 106, 107]⟩ : ByteArray)]) (m := m) h5 (by simp)
    simp only [List.mem_cons, List.not_mem_nil, or_false] at m6
    refine ⟨⟨y, a, b, c, d⟩, t6, by simp [p0, e6, bind2], ⟨?_, ba, bb, bc, bd'⟩, h6⟩
    rcases m6 with rfl | rfl | rfl
    · exact Nat.zero_le _
    · show 3 ≤ 20; omega
    · show 11 ≤ 20; omega
  · by_cases p1 : p = 1
    · obtain ⟨y, t6, e6, m6, h6⟩ := among_ok (l := [(-1), 360]) (m := m) h5 (by simp)
      simp only [List.mem_cons, List.not_mem_nil, or_false] at m6
      exact ⟨⟨name, y, b, c, d⟩, t6, by simp [p0, p1, e6, bind2], ⟨hn, by dsimp only; omega, bb, bc, bd'⟩, h6⟩
    · by_cases p2 : p = 2
      · obtain ⟨y, t6, e6, m6, h6⟩ := among_ok (l := [(-1), 180]) (m := m) h5 (by simp)
        simp only [List.mem_cons, List.not_mem_nil, or_false] at m6
        exact ⟨⟨name, a, y, c, d⟩, t6, by simp [p0, p1, p2, e6, bind2], ⟨hn, ba, by dsimp only; omega, bc, bd'⟩, h6⟩
      · by_cases p3 : p = 3
        · obtain ⟨y, t6, e6, m6, h6⟩ := among_ok (l := [(-1), d + 1]) (m := m) h5 (by simp)
          simp only [List.mem_cons, List.not_mem_nil, or_false] at m6
          exact ⟨⟨name, a, b, y, d⟩, t6, by simp [p0, p1, p2, p3, e6, bind2], ⟨hn, ba, bb, by dsimp only; omega, bd'⟩, h6⟩
        · by_cases p4 : p = 4
          · exact ⟨⟨name, a, b, c, 101⟩, t5, by simp [p0, p1, p2, p3, p4], ⟨hn, ba, bb, bc, by dsimp only; omega⟩, good_less h5 (by omega)⟩
          · exact ⟨⟨name, a, b, c, d⟩, t5, by simp [p0, p1, p2, p3, p4], ⟨hn, ba, bb, bc, bd'⟩, good_less h5 (by omega)⟩
end Go.Proofs.YtkinlkmmelkdnaaDoor.Q7Draws

/- Draws of shades on tapes: each gives something small. (Q7Draws2) No condition but those of each theorem. -/
namespace Go.Proofs.YtkinlkmmelkdnaaDoor.Q7Draws2
set_option linter.unusedVariables false
set_option linter.unusedSimpArgs false
open Go.RowKit
open Go.Proofs.YtkinlkmmelkdnaaDoor.GoP Go.Proofs.YtkinlkmmelkdnaaDoor.PlainStamp Go.Proofs.YtkinlkmmelkdnaaDoor.QBase Go.Proofs.YtkinlkmmelkdnaaDoor.Q7Draws Go.Proofs.YtkinlkmmelkdnaaDoor.QDraw Go.Proofs.YtkinlkmmelkdnaaDoor.QUp Go.Proofs.YtkinlkmmelkdnaaDoor.QAll Go.Proofs.YtkinlkmmelkdnaaDoor.QLoop Go.Proofs.YtkinlkmmelkdnaaDoor.PShade

theorem more7_ok {t : GoC.Tape} {m : Nat} (fuel : Nat) (hf : 1048577 ≤ fuel) (h : good t (m + 40)) : ∃ r : List Shade × GoC.Tape, loopK GsL1CurShades7.l1 fuel (([] : List Shade), 0, t) GsL1CurShades7.e1 = some r ∧ (r.1.length ≤ 20 ∧ (∀ x ∈ r.1, sm x) ∧ good r.2 m) := by
  refine lp_ex (n := 13) (fun k (s : List Shade × Int × GoC.Tape) => s.1.length = k ∧ s.2.1 = (k : Int) ∧ (∀ x ∈ s.1, sm x) ∧ good s.2.2 (m + 40 - 2 * k)) ?_ ?_ fuel 0 _ (by omega) (by omega) ⟨rfl, rfl, by simp, h⟩
  · rintro k ⟨o, n, c⟩ nx hk ⟨h1, h2, h3, h4⟩ hn
    dsimp only at h1 h2 h3 h4
    obtain ⟨x, c1, e, hx0, hx, _, hg⟩ := pick_ok (n := 2) (m := m + 38 - 2 * k) (good_less h4 (by omega))
    simp only [GsL1CurShades7.l1, unp3, e, bind2_some, letK, iteK_if]
    rw [wrap_in (x := 12 + x) (by omega) (by omega)]
    by_cases hc : n < 12 + x
    · have hsz : (⟨#[97, 98, 99, 100, 101, 102, 103, 104, 105, 106, 107, 108, 109]⟩ : ByteArray).size = 13 := rfl
      have htm : Int.tmod n 12 = n % 12 := Int.tmod_eq_emod_of_nonneg (by omega)
      rw [if_pos (by simpa using hc), wrap_in (x := n + 1) (by omega) (by omega), hsz, guardK_pos (by omega), htm, wrap_in (x := 30 * (n % 12)) (by omega) (by omega), guardK_pos (by omega)]
      refine hn _ ⟨by simp [h1], by dsimp only; omega, ?_, good_less hg (by omega)⟩
      intro y hy
      rcases List.mem_append.1 hy with hy | hy
      · exact h3 y hy
      · obtain rfl := List.mem_singleton.1 hy
        refine ⟨?_, ?_, by dsimp only; omega, by dsimp only; omega, by dsimp only; omega⟩
        · dsimp only
          rw [ByteArray.size_extract, hsz]; omega
        · dsimp only; omega
    · rw [if_neg (by simpa using hc)]
      exact ⟨_, rfl, by dsimp only; omega, h3, good_less hg (by omega)⟩
  · rintro ⟨o, n, c⟩ nx ⟨h1, h2, h3, h4⟩
    dsimp only at h1 h2 h3 h4
    obtain ⟨x, c1, e, hx0, hx, _, hg⟩ := pick_ok (n := 2) (m := m) (good_less h4 (by omega))
    simp only [GsL1CurShades7.l1, unp3, e, bind2_some, letK, iteK_if]
    rw [wrap_in (x := 12 + x) (by omega) (by omega), if_neg (by simp; omega)]
    exact ⟨_, rfl, by dsimp only; omega, h3, hg⟩
theorem shades7_ok {t : GoC.Tape} {m : Nat} (fuel : Nat) (hf : 1048577 ≤ fuel) (h : good t (m + 150)) : ∃ l t', GsL1CurShades7.P fuel t = some (l, t') ∧ l.length ≤ 20 ∧ (∀ x ∈ l, sm x) ∧ good t' m := by
  obtain ⟨⟨l, t'⟩, e, h1, h2, h3⟩ : ∃ r, GsL1CurShades7.P fuel t = some r ∧ (r.1.length ≤ 20 ∧ (∀ x ∈ r.1, sm x) ∧ good r.2 m) := by
    simp only [GsL1CurShades7.P, letK]
    refine cnt_ex (n := 6) (Q := fun r : List Shade × GoC.Tape => r.1.length ≤ 20 ∧ (∀ x ∈ r.1, sm x) ∧ good r.2 m) (fun k (s : List Shade × GoC.Tape) => s.1.length ≤ k ∧ (∀ x ∈ s.1, sm x) ∧ good s.2 (m + 150 - 14 * k)) ?_ ?_ 6 0 _ (by omega) ⟨by simp, by simp, h⟩
    · rintro k ⟨o, c⟩ nx hk ⟨g1, g2, g3⟩ hn
      dsimp only at g1 g2 g3
      obtain ⟨b, d1, f1, k1⟩ := one_ok (n := 2) (m := m + 148 - 14 * k) (good_less g3 (by omega))
      simp only [GsL1CurShades7.l0, unp2, f1, bind2_some, iteK_if]
      cases b with
      | false => rw [if_neg (by simp)]; exact hn _ ⟨by dsimp only; omega, g2, good_less k1 (by omega)⟩
      | true =>
        rw [if_pos rfl]
        obtain ⟨nm, hnm, hni⟩ := at_lt (l := [(⟨#[98, 114, 105, 99, 107]⟩ : ByteArray), (⟨#[108, 97, 107, 101]⟩ : ByteArray), (⟨#[108, 105, 108, 97, 99]⟩ : ByteArray), (⟨#[111, 114, 97, 110, 103, 101]⟩ : ByteArray), (⟨#[114, 101, 100]⟩ : ByteArray), (⟨#[114, 111, 115, 101]⟩ : ByteArray)]) (k := k) hk
        have hsz : nm.size ≤ 20 := by
          have := List.mem_of_getElem? hnm
          simp only [List.mem_cons, List.not_mem_nil, or_false] at this
          rcases this with rfl | rfl | rfl | rfl | rfl | rfl <;> decide
        obtain ⟨⟨a, b, c', d, e⟩, d2, f2, s2, k2⟩ := shade7_ok (m := m + 136 - 14 * k) nm hsz (good_less k1 (by omega))
        simp only [hni, Option.bind_some, f2, bind2_some, unShade, letK, appK]
        rw [guardK_pos (by omega)]
        refine hn _ ⟨by simp; omega, ?_, good_less k2 (by omega)⟩
        intro y hy
        rcases List.mem_append.1 hy with hy | hy
        · exact g2 y hy
        · obtain rfl := List.mem_singleton.1 hy; exact s2
    · rintro ⟨o, c⟩ ⟨g1, g2, g3⟩
      dsimp only at g1 g2 g3
      obtain ⟨p, d1, f1, _, _, _, k1⟩ := pick_ok (n := 40) (m := m + 60) (good_less g3 (by omega))
      simp only [GsL1CurShades7.e0, unp2, f1, bind2_some, letK, iteK_if]
      by_cases p0 : p = 0
      · rw [if_pos (by simpa using p0)]
        exact more7_ok fuel hf (good_less k1 (by omega))
      · rw [if_neg (by simpa using p0)]
        by_cases p1 : p = 1
        · rw [if_pos (by simpa using p1)]
          by_cases hl : (1 : Int) < (o.length : Int)
          · obtain ⟨x, hx, hxi⟩ := at_lt (l := o) (k := 0) (by omega)
            have hxi' : idx o 0 = some x := hxi
            rw [if_pos (by simpa using hl), guardK_pos (by omega), guardK_pos (by simp; omega)]
            simp only [hxi', Option.bind_some, unShade]
            rw [guardK_pos (by simp; omega)]
            refine ⟨_, rfl, by simp; omega, ?_, good_less k1 (by omega)⟩
            intro y hy
            rcases List.mem_append.1 hy with hy | hy
            · rw [List.nil_append] at hy
              exact g2 y (List.mem_of_mem_drop hy)
            · obtain rfl := List.mem_singleton.1 hy
              exact g2 x (List.mem_of_getElem? hx)
          · rw [if_neg (by simpa using hl)]
            exact ⟨_, rfl, by dsimp only; omega, g2, good_less k1 (by omega)⟩
        · rw [if_neg (by simpa using p1)]
          exact ⟨_, rfl, by dsimp only; omega, g2, good_less k1 (by omega)⟩
  exact ⟨l, t', e, h1, h2, h3⟩
end Go.Proofs.YtkinlkmmelkdnaaDoor.Q7Draws2

/- Draws of shades on tapes: each gives something small. (Q7DrawsH) No condition but those of each theorem. -/
namespace Go.Proofs.YtkinlkmmelkdnaaDoor.Q7DrawsH
set_option linter.unusedVariables false
set_option linter.unusedSimpArgs false
open Go.RowKit
open Go.Proofs.YtkinlkmmelkdnaaDoor.GoP Go.Proofs.YtkinlkmmelkdnaaDoor.PlainStamp Go.Proofs.YtkinlkmmelkdnaaDoor.QBase Go.Proofs.YtkinlkmmelkdnaaDoor.Q7Draws2 Go.Proofs.YtkinlkmmelkdnaaDoor.Q7Draws Go.Proofs.YtkinlkmmelkdnaaDoor.QDraw Go.Proofs.YtkinlkmmelkdnaaDoor.QUp Go.Proofs.YtkinlkmmelkdnaaDoor.QAll Go.Proofs.YtkinlkmmelkdnaaDoor.QLoop Go.Proofs.YtkinlkmmelkdnaaDoor.PShade

theorem hue7_ok {t : GoC.Tape} {m : Nat} (h : good t (m + 4)) : ∃ x t', GsL1CurHue7.P t = some (x, t') ∧ good t' m := by
  obtain ⟨p, t1, e1, hp0, hp, _, h1⟩ := pick_ok (n := 24) (m := m + 2) h
  have hd : Int.tdiv p 11 = p / 11 := Int.tdiv_eq_ediv_of_nonneg hp0
  simp only [GsL1CurHue7.P, letK, e1, bind2_some, hd]
  rw [wrap_in (x := p / 11) (by omega) (by omega), wrap_in (x := 11 + p / 11) (by omega) (by omega), guardK_pos (by simp; omega)]
  obtain ⟨x, t2, e2, _, h2⟩ := among_ok (l := List.take (Int.toNat (11 + p / 11)) [0, 1, 10, 20, 90, 179, 180, 181, 270, 350, 359, (-1), 360]) (m := m) h1 (by rw [List.length_take]; simp; omega)
  exact ⟨x, t2, by rw [e2]; rfl, h2⟩
theorem light7_ok {t : GoC.Tape} {m : Nat} (h : good t (m + 4)) : ∃ x t', GsL1CurLight7.P t = some (x, t') ∧ good t' m := by
  obtain ⟨p, t1, e1, hp0, hp, _, h1⟩ := pick_ok (n := 24) (m := m + 2) h
  have hd : Int.tdiv p 11 = p / 11 := Int.tdiv_eq_ediv_of_nonneg hp0
  simp only [GsL1CurLight7.P, letK, e1, bind2_some, hd]
  rw [wrap_in (x := p / 11) (by omega) (by omega), wrap_in (x := 7 + p / 11) (by omega) (by omega), guardK_pos (by simp; omega)]
  obtain ⟨x, t2, e2, _, h2⟩ := among_ok (l := List.take (Int.toNat (7 + p / 11)) [0, 30, 49, 50, 51, 70, 100, (-1), 101]) (m := m) h1 (by rw [List.length_take]; simp; omega)
  exact ⟨x, t2, by rw [e2]; rfl, h2⟩
end Go.Proofs.YtkinlkmmelkdnaaDoor.Q7DrawsH

/- The named law of hues: what it draws, the distances, the blended hue, certain hues, and the law answers true. (Q7DrawsF) No condition but those of each theorem. -/
namespace Go.Proofs.YtkinlkmmelkdnaaDoor.Q7DrawsF
set_option linter.unusedVariables false
set_option linter.unusedSimpArgs false
open Go.RowKit
open Go.Proofs.YtkinlkmmelkdnaaDoor.GoP Go.Proofs.YtkinlkmmelkdnaaDoor.PlainStamp Go.Proofs.YtkinlkmmelkdnaaDoor.QBase Go.Proofs.YtkinlkmmelkdnaaDoor.Q7DrawsH Go.Proofs.YtkinlkmmelkdnaaDoor.Q7Draws2 Go.Proofs.YtkinlkmmelkdnaaDoor.Q7Draws Go.Proofs.YtkinlkmmelkdnaaDoor.QDraw Go.Proofs.YtkinlkmmelkdnaaDoor.QUp Go.Proofs.YtkinlkmmelkdnaaDoor.QAll Go.Proofs.YtkinlkmmelkdnaaDoor.QLoop Go.Proofs.YtkinlkmmelkdnaaDoor.PShade

theorem drawHue_ok {tapes : List Int → GoC.Tape} (ht : GoC.Tells tapes) (code : List Int) : ∃ a b, GsDrawHueDistance.P tapes code = some (a, b) := by
  obtain ⟨a, c0, e0, h0⟩ := hue7_ok (m := 40) (good_of ht code (by omega))
  obtain ⟨b, c1, e1, h1⟩ := hue7_ok (m := 36) h0
  exact ⟨a, b, by simp only [GsDrawHueDistance.P, letK, e0, e1, bind2_some]⟩
theorem drawFree_ok {tapes : List Int → GoC.Tape} (ht : GoC.Tells tapes) (code : List Int) (fuel : Nat) (hf : 1048577 ≤ fuel) : ∃ l g, GsDrawFreeColors.P fuel tapes code = some (l, g) ∧ l.length ≤ 20 ∧ ∀ x ∈ l, sm x := by
  obtain ⟨l, c0, e0, hl, hs, h0⟩ := shades7_ok fuel hf (m := 40) (good_of ht code (by omega))
  obtain ⟨g, c2, e2, h2⟩ := light7_ok (m := 36) h0
  exact ⟨l, g, by simp only [GsDrawFreeColors.P, letK, e0, e2, bind2_some], hl, hs⟩
theorem drawColors_ok {tapes : List Int → GoC.Tape} (ht : GoC.Tells tapes) (code : List Int) : ∃ x, GsDrawColorsIn.P tapes code = some x ∧ sm x := by
  obtain ⟨x, c0, e0, s0, h0⟩ := shade7_ok (m := 40) (⟨#[114, 111, 115, 101]⟩ : ByteArray) (by decide) (good_of ht code (by omega))
  exact ⟨x, by simp only [GsDrawColorsIn.P, GsDrawIsShade.P, letK, e0, bind2_some, unShade, Option.bind_some], s0⟩
theorem drawCert_ok {tapes : List Int → GoC.Tape} (ht : GoC.Tells tapes) (code : List Int) (fuel : Nat) (hf : 1048577 ≤ fuel) : ∃ l n g, GsDrawCertainHues.P fuel tapes code = some (l, n, g) ∧ l.length ≤ 20 ∧ ∀ x ∈ l, sm x := by
  obtain ⟨l, c0, e0, hl, hs, h0⟩ := shades7_ok fuel hf (m := 60) (good_of ht code (by omega))
  obtain ⟨nm, c1, e1, _, h1⟩ := of_ok (m := 50) (l := [(⟨#[114, 101, 100]⟩ : ByteArray), (⟨#[122, 105, 110, 99]⟩ : ByteArray), (⟨#[]⟩ : ByteArray)]) (good_less h0 (by omega)) (by simp)
  have hj : ∀ (n : ByteArray) (c : GoC.Tape) (m : Nat), good c (m + 4) → ∃ g, GsDrawCertainHues.j0 l (n, c) = some (l, n, g) := by
    intro n c m h
    obtain ⟨g, c2, e2, _⟩ := light7_ok (m := m) h
    exact ⟨g, by simp only [GsDrawCertainHues.j0, unp2, e2, bind2_some]⟩
  by_cases hpos : (0 : Int) < (l.length : Int)
  · obtain ⟨b, c2, e2, h2⟩ := one_ok (n := 10) (m := 40) (good_less h1 (by omega))
    cases b with
    | true =>
      obtain ⟨g, hg⟩ := hj nm c2 30 (good_less h2 (by omega))
      exact ⟨l, nm, g, by simp only [GsDrawCertainHues.P, letK, e0, e1, e2, bind2_some, decide_eq_true hpos, iteK_if, if_true, joinK, appK, unp2, Bool.not_true, Bool.false_eq_true, if_false, hg], hl, hs⟩
    | false =>
      obtain ⟨k, c3, e3, hk0, hk, _, h3⟩ := pick_ok (n := (l.length : Int)) (m := 38) (good_less h2 (by omega))
      obtain ⟨y, hy, hyi⟩ := at_lt (l := l) (k := k.toNat) (by omega)
      rw [show ((k.toNat : Nat) : Int) = k by omega] at hyi
      obtain ⟨g, hg⟩ := hj y.name c3 30 (good_less h3 (by omega))
      exact ⟨l, y.name, g, by simp only [GsDrawCertainHues.P, letK, e0, e1, e2, e3, bind2_some, decide_eq_true hpos, iteK_if, if_true, joinK, appK, unp2, Bool.not_false, hyi, Option.bind_some, unShade, hg], hl, hs⟩
  · obtain ⟨g, hg⟩ := hj nm c1 30 (good_less h1 (by omega))
    exact ⟨l, nm, g, by simp only [GsDrawCertainHues.P, letK, e0, e1, bind2_some, decide_eq_false hpos, iteK_if, Bool.false_eq_true, if_false, joinK, appK, unp2, hg], hl, hs⟩
end Go.Proofs.YtkinlkmmelkdnaaDoor.Q7DrawsF

/- Words: the tests of a word of the program and of the reference as plain functions. (QWord) No condition but those of each theorem. -/
namespace Go.Proofs.YtkinlkmmelkdnaaDoor.QWord
set_option linter.unusedVariables false
set_option linter.unusedSimpArgs false
open Go.RowKit
open Go.Proofs.YtkinlkmmelkdnaaDoor.GoP Go.Proofs.YtkinlkmmelkdnaaDoor.PlainStamp Go.Proofs.YtkinlkmmelkdnaaDoor.QBase Go.Proofs.YtkinlkmmelkdnaaDoor.QLoop

def small (b : UInt8) : Bool := decide (97 ≤ b.toNat ∧ b.toNat ≤ 122)
def wordB (s : ByteArray) : Bool := inB (s.size : Int) 1 10 && s.toList.all small
theorem size_list (s : ByteArray) : s.toList.length = s.size := by rw [Lib.toList_data]; rfl
theorem isLetter_eq (b : UInt8) : GiIsLetter.P (b.toNat : Int) = some (small b) := by
  simp only [GiIsLetter.P, letK, joinK, appK, iteK_if]
  unfold small
  by_cases h1 : 97 ≤ b.toNat
  · by_cases h2 : b.toNat ≤ 122
    · simp [h1, h2, show (97 : Int) ≤ b.toNat by omega, show (b.toNat : Int) ≤ 122 by omega]
    · simp [h1, h2, show (97 : Int) ≤ b.toNat by omega, show ¬ (b.toNat : Int) ≤ 122 by omega]
  · simp [h1, show ¬ (97 : Int) ≤ b.toNat by omega]
theorem isWord_eq (s : ByteArray) : GiIsWord.P s = some (wordB s) := by
  cases hb : inB (s.size : Int) 1 10 with
  | false => simp only [GiIsWord.P, within_eq, hb, Option.bind_some, letK, iteK_if, wordB]; rfl
  | true =>
    have h := inB_of hb
    simp only [GiIsWord.P, within_eq, hb, Option.bind_some, letK, iteK_if]
    rw [if_neg (by simp), guardK_pos (by omega)]
    refine cnt_is _ (fun k _ => (s.toList.take k).all small = true) ?_ ?_ () rfl
    · intro k u nx hk hI hn
      obtain ⟨y, hy, hi⟩ := at_lt (l := s.toList) (k := k) (by rw [size_list]; exact hk)
      simp only [GiIsWord.l0, hi, Option.bind_some, letK, joinK, appK, iteK_if, isLetter_eq]
      cases hs : small y with
      | false =>
        have : wordB s = false := by unfold wordB; rw [not_all hy hs, Bool.and_false]
        simp [this]
      | true => exact hn () (by rw [all_next hy, hI, hs]; rfl)
    · intro u hI
      rw [List.take_of_length_le (by rw [size_list]; exact Nat.le_refl _)] at hI
      simp [GiIsWord.e0, wordB, hb, hI]
theorem l2Word_eq (s : ByteArray) (hz : s.size ≤ 9223372036854775807) : GsL2Word.P s = some (wordB s) := by
  simp only [GsL2Word.P]
  rw [guardK_pos hz]
  refine cnt_is _ (fun k _ => (s.toList.take k).all small = true) ?_ ?_ () rfl
  · intro k u nx hk hI hn
    obtain ⟨y, hy, hi⟩ := at_lt (l := s.toList) (k := k) (by rw [size_list]; exact hk)
    simp only [GsL2Word.l0, hi, Option.bind_some, letK, joinK, appK, iteK_if]
    by_cases h1 : (y.toNat : Int) < 97
    · have : wordB s = false := by unfold wordB; rw [not_all hy (by unfold small; simp; omega), Bool.and_false]
      simp [h1, this]
    · by_cases h2 : (122 : Int) < (y.toNat : Int)
      · have : wordB s = false := by unfold wordB; rw [not_all hy (by unfold small; simp; omega), Bool.and_false]
        simp [h1, h2, this]
      · simp [h1, h2]
        exact hn () (by rw [all_next hy, hI]; unfold small; simp; omega)
  · intro u hI
    rw [List.take_of_length_le (by rw [size_list]; exact Nat.le_refl _)] at hI
    simp [GsL2Word.e0, wordB, l1In_eq, hI]
theorem word_len {s : ByteArray} (h : wordB s = true) : 1 ≤ s.size ∧ s.size ≤ 10 := by
  unfold wordB at h
  simp only [Bool.and_eq_true] at h
  have := inB_of h.1; omega
end Go.Proofs.YtkinlkmmelkdnaaDoor.QWord

/- Chapter 7: hues and shades: the plain functions of the program and of the reference agree, and the laws answer true. (Q7Shade) No condition but those of each theorem. -/
namespace Go.Proofs.YtkinlkmmelkdnaaDoor.Q7Shade
set_option linter.unusedVariables false
set_option linter.unusedSimpArgs false
open Go.RowKit
open Go.Proofs.YtkinlkmmelkdnaaDoor.GoP Go.Proofs.YtkinlkmmelkdnaaDoor.PlainStamp Go.Proofs.YtkinlkmmelkdnaaDoor.QBase Go.Proofs.YtkinlkmmelkdnaaDoor.Q7Hue Go.Proofs.YtkinlkmmelkdnaaDoor.QWord Go.Proofs.YtkinlkmmelkdnaaDoor.QOrd Go.Proofs.YtkinlkmmelkdnaaDoor.QLoop Go.Proofs.YtkinlkmmelkdnaaDoor.PShade

theorem isLight_eq (h : Int) : GiIsLightness.P h = some (inB h 0 100) := by simp only [GiIsLightness.P, within_eq, Option.bind_some]
def okSh (x : Shade) : Bool := wordB x.name && inB x.hue 0 359 && inB x.width 0 179 && inB x.dark 0 100 && inB x.light 0 100 && decide (x.dark ≤ x.light)
theorem fits_name {x : Shade} (h : x.fits) : x.name.size ≤ 9223372036854775807 := h.1
theorem isShade_eq (x : Shade) : GiIsShade.P x = some (okSh x) := by
  obtain ⟨a, b, c, d, e⟩ := x
  simp only [GiIsShade.P, unShade, isWord_eq, isHue_eq, isLight_eq, within_eq, Option.bind_some, letK, joinK, appK, iteK_if, okSh]
  cases wordB a <;> cases inB b 0 359 <;> cases inB c 0 179 <;> cases inB d 0 100 <;> cases inB e 0 100 <;> simp
theorem l7One_eq (x : Shade) (h : x.fits) : GsL7One.P x = some (okSh x) := by
  have hz := fits_name h
  obtain ⟨a, b, c, d, e⟩ := x
  have hx : (inB e 0 100 && inB d 0 e) = (inB d 0 100 && inB e 0 100 && decide (d ≤ e)) := by unfold inB; rw [Bool.eq_iff_iff]; simp; omega
  simp only [GsL7One.P, unShade, l2Word_eq a hz, l7Hue_eq, l1In_eq, Option.bind_some, letK, joinK, appK, iteK_if, okSh]
  have hy : (wordB a && inB b 0 359 && inB c 0 179 && inB d 0 100 && inB e 0 100 && decide (d ≤ e)) = (wordB a && inB b 0 359 && inB c 0 179 && (inB e 0 100 && inB d 0 e)) := by rw [hx]; simp [Bool.and_assoc]
  rw [hy]
  cases wordB a <;> cases inB b 0 359 <;> cases inB c 0 179 <;> cases inB e 0 100 <;> simp
theorem okSh_of {x : Shade} (h : okSh x = true) : (0 ≤ x.hue ∧ x.hue ≤ 359) ∧ (0 ≤ x.width ∧ x.width ≤ 179) ∧ (0 ≤ x.dark ∧ x.dark ≤ 100) ∧ (0 ≤ x.light ∧ x.light ≤ 100) ∧ x.dark ≤ x.light ∧ wordB x.name = true := by
  unfold okSh at h
  simp only [Bool.and_eq_true, decide_eq_true_eq] at h
  exact ⟨inB_of h.1.1.1.1.2, inB_of h.1.1.1.2, inB_of h.1.1.2, inB_of h.1.2, h.2, h.1.1.1.1.1⟩
end Go.Proofs.YtkinlkmmelkdnaaDoor.Q7Shade

/- Chapter 7: hues and shades: the plain functions of the program and of the reference agree, and the laws answer true. (Q7List) No condition but those of each theorem. -/
namespace Go.Proofs.YtkinlkmmelkdnaaDoor.Q7List
set_option linter.unusedVariables false
set_option linter.unusedSimpArgs false
open Go.RowKit
open Go.Proofs.YtkinlkmmelkdnaaDoor.GoP Go.Proofs.YtkinlkmmelkdnaaDoor.PlainStamp Go.Proofs.YtkinlkmmelkdnaaDoor.QBase Go.Proofs.YtkinlkmmelkdnaaDoor.Q7Shade Go.Proofs.YtkinlkmmelkdnaaDoor.QOrd Go.Proofs.YtkinlkmmelkdnaaDoor.QLoop Go.Proofs.YtkinlkmmelkdnaaDoor.PShade

def nameLt (r s : Shade) : Bool := bl r.name s.name
def okShs (l : List Shade) : Bool := riseL 12 okSh nameLt l
theorem areShades_eq (l : List Shade) (hl : l.length ≤ 9223372036854775807) : GiAreShades.P l = some (okShs l) := by
  simp only [GiAreShades.P, GiAreByKeyShadeStringiIsShadeiNameOfShade.P, letK, iteK_if]
  by_cases h12 : l.length ≤ 12
  · rw [if_neg (by simp; omega), rise_loop (ok := okSh) (lt := nameLt) (no := false)]
    · unfold okShs riseL; cases riseTo okSh nameLt l l.length <;> simp [h12, GiAreByKeyShadeStringiIsShadeiNameOfShade.e0]
    · intro k nx s hs
      have hi : idx l (k : Int) = some s := by rw [idx_nat, hs]
      have hk : k < l.length := (List.getElem?_eq_some_iff.1 hs).1
      simp only [GiAreByKeyShadeStringiIsShadeiNameOfShade.l0, hi, Option.bind_some, unShade, isShade_eq, GiNameOfShade.P, letK, joinK, appK, iteK_if, bl_le]
      refine ⟨fun h => by simp [h], fun h => ⟨fun h0 => by subst h0; simp [h], fun h0 r hr => ?_⟩⟩
      rw [idx_pred h0 (by omega) hr]
      have hk0 : (0 : Int) < (k : Int) := by omega
      have hk1 : ¬ k = 0 := by omega
      exact ⟨fun hlt => by (have hc : bl r.name s.name = true := hlt); simp [h, hk0, hk1, hc], fun hge => by (have hc : bl r.name s.name = false := hge); simp [h, hk0, hk1, hc]⟩
  · rw [if_pos (by simp; omega)]; unfold okShs riseL; simp [h12]
theorem l7Good_eq (l : List Shade) (hf : ∀ s ∈ l, s.fits) (hl : l.length ≤ 9223372036854775807) : GsL7Good.P l = some (okShs l) := by
  simp only [GsL7Good.P]
  rw [rise_loop (ok := okSh) (lt := nameLt) (no := false)]
  · unfold okShs riseL; cases riseTo okSh nameLt l l.length <;> simp [GsL7Good.e0, letK]; omega
  · intro k nx s hs
    have hi : idx l (k : Int) = some s := by rw [idx_nat, hs]
    have hk : k < l.length := (List.getElem?_eq_some_iff.1 hs).1
    have hm := hf s (List.mem_of_getElem? hs)
    have h1 := l7One_eq s hm
    simp only [GsL7Good.l0, hi, Option.bind_some, unShade, h1, letK, joinK, appK, iteK_if, bl_lt]
    refine ⟨fun h => by simp [h], fun h => ⟨fun h0 => by subst h0; simp [h], fun h0 r hr => ?_⟩⟩
    rw [idx_pred h0 (by omega) hr]
    have hk0 : (0 : Int) < (k : Int) := by omega
    have hk1 : ¬ k = 0 := by omega
    exact ⟨fun hlt => by (have hc : bl r.name s.name = true := hlt); simp [h, hk0, hk1, hc], fun hge => by (have hc : bl r.name s.name = false := hge); simp [h, hk0, hk1, hc]⟩
theorem shs_mem {l : List Shade} (h : okShs l = true) {x : Shade} (hx : x ∈ l) : okSh x = true := riseL_mem h hx
end Go.Proofs.YtkinlkmmelkdnaaDoor.Q7List

/- Chapter 7: hues and shades: the plain functions of the program and of the reference agree, and the laws answer true. (Q7Takes) No condition but those of each theorem. -/
namespace Go.Proofs.YtkinlkmmelkdnaaDoor.Q7Takes
set_option linter.unusedVariables false
set_option linter.unusedSimpArgs false
open Go.RowKit
open Go.Proofs.YtkinlkmmelkdnaaDoor.GoP Go.Proofs.YtkinlkmmelkdnaaDoor.PlainStamp Go.Proofs.YtkinlkmmelkdnaaDoor.QBase Go.Proofs.YtkinlkmmelkdnaaDoor.Q7List Go.Proofs.YtkinlkmmelkdnaaDoor.Q7Shade Go.Proofs.YtkinlkmmelkdnaaDoor.Q7Hue Go.Proofs.YtkinlkmmelkdnaaDoor.QLoop Go.Proofs.YtkinlkmmelkdnaaDoor.PShade

def takesB (x : Shade) (hue light : Int) : Bool := decide (far x.hue hue ≤ x.width) && inB light x.dark x.light
theorem takesIn_eq {x : Shade} {hue : Int} (light : Int) (hx : okSh x = true) (hh : 0 ≤ hue ∧ hue ≤ 359) : GiTakesIn.P x hue light = some (takesB x hue light) := by
  have h1 := okSh_of hx
  obtain ⟨a, b, c, d, e⟩ := x
  dsimp only at h1
  simp only [GiTakesIn.P, unShade, dist_eq h1.1 hh, within_eq, Option.bind_some, letK, joinK, appK, iteK_if, takesB]
  by_cases h : far b hue ≤ c <;> simp [h]
theorem l7Takes_eq {x : Shade} {hue : Int} (light : Int) (hx : okSh x = true) (hh : 0 ≤ hue ∧ hue ≤ 359) : GsL7Takes.P x hue light = some (takesB x hue light) := by
  have h1 := okSh_of hx
  obtain ⟨a, b, c, d, e⟩ := x
  dsimp only at h1
  simp only [GsL7Takes.P, unShade, l7Far_eq h1.1 hh, l1In_eq, Option.bind_some, letK, joinK, appK, iteK_if, takesB]
  by_cases h : far b hue ≤ c <;> simp [h]
end Go.Proofs.YtkinlkmmelkdnaaDoor.Q7Takes

/- Chapter 7: hues and shades: the plain functions of the program and of the reference agree, and the laws answer true. (Q7Free) No condition but those of each theorem. -/
namespace Go.Proofs.YtkinlkmmelkdnaaDoor.Q7Free
set_option linter.unusedVariables false
set_option linter.unusedSimpArgs false
open Go.RowKit
open Go.Proofs.YtkinlkmmelkdnaaDoor.GoP Go.Proofs.YtkinlkmmelkdnaaDoor.PlainStamp Go.Proofs.YtkinlkmmelkdnaaDoor.QBase Go.Proofs.YtkinlkmmelkdnaaDoor.QCount Go.Proofs.YtkinlkmmelkdnaaDoor.Q7Takes Go.Proofs.YtkinlkmmelkdnaaDoor.Q7List Go.Proofs.YtkinlkmmelkdnaaDoor.Q7Shade Go.Proofs.YtkinlkmmelkdnaaDoor.Q7Hue Go.Proofs.YtkinlkmmelkdnaaDoor.QLoop Go.Proofs.YtkinlkmmelkdnaaDoor.PShade

theorem isFree_eq {l : List Shade} (hok : ∀ x ∈ l, okSh x = true) {hue : Int} (light : Int) (hh : 0 ≤ hue ∧ hue ≤ 359) : GiIsFree.P l hue light = some (!(l.any fun x => takesB x hue light)) := by
  simp only [GiIsFree.P, GxSlicesContainsFuncLoopExampleG01062ImplShadeLoopExampleG01062ImplShadeiIsFree1.P, GxSlicesIndexFuncLoopExampleG01062ImplShadeLoopExampleG01062ImplShadeiIsFree1.P]
  rw [find_loop (p := fun x => takesB x hue light) (yes := fun i => some (i : Int))]
  · rw [← any_find]
    unfold firstI
    cases l.findIdx? fun x => takesB x hue light <;> rfl
  · intro k nx x hx
    have hi : idx l (k : Int) = some x := by rw [idx_nat, hx]
    have ht := takesIn_eq light (hok x (List.mem_of_getElem? hx)) hh
    simp only [GxSlicesIndexFuncLoopExampleG01062ImplShadeLoopExampleG01062ImplShadeiIsFree1.l0, hi, Option.bind_some, unShade, GiIsFree1.P, ht, appK, iteK_if]
theorem l7Count_eq {l : List Shade} (hc : okShs l = true) (h12 : l.length ≤ 12) {hue : Int} (light : Int) (hh : 0 ≤ hue ∧ hue ≤ 359) : GsL7Count.P l hue light = some ((l.filter fun x => takesB x hue light).length : Int) := by
  simp only [GsL7Count.P]
  rw [count_list (p := fun x => takesB x hue light)]
  · rfl
  · intro k nx x s hx hs
    have hi : idx l (k : Int) = some x := by rw [idx_nat, hx]
    have hok := shs_mem hc (List.mem_of_getElem? hx)
    have ht := l7Takes_eq light hok hh
    have hk := (List.getElem?_eq_some_iff.1 hx).1
    simp only [GsL7Count.l0, letK, hi, Option.bind_some, unShade, ht, appK, iteK_if]
    rw [wrap_in (by omega) (by omega)]
    cases takesB x hue light <;> simp
end Go.Proofs.YtkinlkmmelkdnaaDoor.Q7Free

/- Chapter 7: hues and shades: the plain functions of the program and of the reference agree, and the laws answer true. (Q7Certain) No condition but those of each theorem. -/
namespace Go.Proofs.YtkinlkmmelkdnaaDoor.Q7Certain
set_option linter.unusedVariables false
set_option linter.unusedSimpArgs false
open Go.RowKit
open Go.Proofs.YtkinlkmmelkdnaaDoor.GoP Go.Proofs.YtkinlkmmelkdnaaDoor.PlainStamp Go.Proofs.YtkinlkmmelkdnaaDoor.QBase Go.Proofs.YtkinlkmmelkdnaaDoor.QOrd Go.Proofs.YtkinlkmmelkdnaaDoor.QCount Go.Proofs.YtkinlkmmelkdnaaDoor.Q7Free Go.Proofs.YtkinlkmmelkdnaaDoor.Q7Takes Go.Proofs.YtkinlkmmelkdnaaDoor.Q7List Go.Proofs.YtkinlkmmelkdnaaDoor.Q7Shade Go.Proofs.YtkinlkmmelkdnaaDoor.Q7Hue Go.Proofs.YtkinlkmmelkdnaaDoor.QLoop Go.Proofs.YtkinlkmmelkdnaaDoor.PShade

def others (l : List Shade) (q : Nat) : List Shade := l.take q ++ l.drop (q + 1)
def certB (l : List Shade) (q : Nat) (light : Int) (h : Nat) : Bool := match l[q]? with | none => false | some x => takesB x (h : Int) light && !((others l q).any fun y => takesB y (h : Int) light)
def isN (name : ByteArray) (x : Shade) : Bool := decide (x.name = name)
def certRes (l : List Shade) (name : ByteArray) (light : Int) : Int × Bool := if (okShs l && inB light 0 100) = true then (match l.findIdx? (isN name) with | none => (0, false) | some q => ((((List.range 360).filter (certB l q light)).length : Int), true)) else (0, false)
theorem cert_impl (l : List Shade) (name : ByteArray) (light : Int) (hl : l.length ≤ 9223372036854775807) : GiCertainHues.P l name light = some (certRes l name light) := by
  simp only [GiCertainHues.P, areShades_eq l hl, isLight_eq, Option.bind_some, letK, joinK, appK, iteK_if, certRes]
  cases hc : okShs l with
  | false => simp
  | true =>
    cases hb : inB light 0 100 with
    | false => simp
    | true =>
      have h12 := riseL_len hc
      have hok : ∀ x ∈ l, okSh x = true := fun x hx => shs_mem hc hx
      simp only [Bool.not_true, Bool.and_true, Bool.false_eq_true, if_false, if_true, GxSlicesIndexFuncLoopExampleG01062ImplShadeLoopExampleG01062ImplShadeiCertainHues1.P]
      rw [find_loop (p := isN name) (yes := fun i => some (i : Int))]
      · cases hq : l.findIdx? (isN name) with
        | none => simp [GxSlicesIndexFuncLoopExampleG01062ImplShadeLoopExampleG01062ImplShadeiCertainHues1.e0]
        | some q =>
          rw [List.findIdx?_eq_some_iff_getElem] at hq
          obtain ⟨hql, hqp, hqb⟩ := hq
          have hcl : GxSlicesCloneLoopExampleG01062ImplShadeLoopExampleG01062ImplShade.P l = some l := by
            simp only [GxSlicesCloneLoopExampleG01062ImplShadeLoopExampleG01062ImplShade.P, Go.Proofs.YtkinlkmmelkdnaaDoor.GoK.nilK, iteK_if, letK]
            rw [if_neg (by simp), guardK_pos (by simp; omega)]; simp
          have hdel : GxSlicesDeleteLoopExampleG01062ImplShadeLoopExampleG01062ImplShade.P l (q : Int) ((q : Int) + 1) = some (others l q) := by
            simp only [GxSlicesDeleteLoopExampleG01062ImplShadeLoopExampleG01062ImplShade.P]
            rw [guardK_pos (by omega), show Int.toNat ((q : Int) + 1) = q + 1 by omega]; rfl
          have hat : l[q]? = some l[q] := List.getElem?_eq_getElem hql
          have hx := hok l[q] (List.getElem_mem hql)
          have hoth : ∀ x ∈ others l q, okSh x = true := by
            intro x hx
            rcases List.mem_append.1 hx with h | h
            · exact hok x (List.mem_of_mem_take h)
            · exact hok x (List.mem_of_mem_drop h)
          simp only [Option.bind_some]
          rw [if_neg (by simp), wrap_in (by omega) (by omega)]
          simp only [hcl, hdel, Option.bind_some, GiCountHuesiCertainHues2.P]
          rw [count_up (p := certB l q light)]
          · rfl
          · intro k nx s hk hs
            have hidx : idx l (q : Int) = some l[q] := by rw [idx_nat, hat]
            have ht := takesIn_eq light hx (hue := (k : Int)) ⟨by omega, by omega⟩
            have hfr := isFree_eq hoth light (hue := (k : Int)) ⟨by omega, by omega⟩
            have hcb : certB l q light k = (takesB l[q] (k : Int) light && !((others l q).any fun y => takesB y (k : Int) light)) := by unfold certB; rw [hat]
            rw [hcb]
            simp only [GiCountHuesiCertainHues2.l0, letK, GiCertainHues2.P, hidx, Option.bind_some, unShade, ht, hfr, joinK, appK, iteK_if]
            cases takesB l[q] (k : Int) light with
            | false => simp
            | true =>
              rw [wrap_in (by omega) (by omega)]
              cases (others l q).any fun y => takesB y (k : Int) light <;> simp
      · intro k nx x hx
        have hi : idx l (k : Int) = some x := by rw [idx_nat, hx]
        simp only [GxSlicesIndexFuncLoopExampleG01062ImplShadeLoopExampleG01062ImplShadeiCertainHues1.l0, hi, Option.bind_some, unShade, GiCertainHues1.P, letK, appK, iteK_if, eq_list]
        rfl
theorem one_count {l : List Shade} {q : Nat} (hql : q < l.length) (p : Shade → Bool) (hp : p l[q] = true) : (((l.filter p).length : Int) == 1) = !((others l q).any p) := by
  have hat : l[q]? = some l[q] := List.getElem?_eq_getElem hql
  have hsp : l = l.take q ++ l[q] :: l.drop (q + 1) := by rw [← List.drop_eq_getElem_cons hql, List.take_append_drop]
  have e : (l.filter p).length = ((others l q).filter p).length + 1 := by
    conv => lhs; rw [hsp]
    unfold others
    rw [List.filter_append, List.filter_append, List.length_append, List.length_append, List.filter_cons, if_pos hp, List.length_cons]
    omega
  rw [← filter_zero, e, Bool.eq_iff_iff]
  simp only [beq_iff_eq]
  omega
theorem cert_spec (l : List Shade) (name : ByteArray) (light : Int) (hf : ∀ s ∈ l, s.fits) (hl : l.length ≤ 9223372036854775807) : GsCertainHues.P l name light = some (certRes l name light) := by
  simp only [GsCertainHues.P]
  refine cnt_is _ (fun k s => (s = -1 ∧ ∀ (i : Nat) x, i < k → l[i]? = some x → x.name ≠ name) ∨ ∃ (i : Nat) (x : Shade), s = (i : Int) ∧ l[i]? = some x ∧ x.name = name) ?_ ?_ (-1) (Or.inl ⟨rfl, fun i x hi _ => by omega⟩)
  · intro k s nx hk hI hn
    obtain ⟨x, hx, hxi⟩ := at_lt (l := l) (k := k) hk
    simp only [GsCertainHues.l0, letK, hxi, Option.bind_some, unShade, eq_list, iteK_if, appK]
    by_cases he : x.name = name
    · rw [if_pos (by simpa using he)]
      exact hn _ (Or.inr ⟨k, x, rfl, hx, he⟩)
    · rw [if_neg (by simpa using he)]
      refine hn _ ?_
      rcases hI with ⟨h1, h2⟩ | h
      · refine Or.inl ⟨h1, fun i y hi hy => ?_⟩
        by_cases hik : i = k
        · subst hik; rw [hx] at hy; obtain rfl := Option.some.inj hy; exact he
        · exact h2 i y (by omega) hy
      · exact Or.inr h
  · intro s hI
    simp only [GsCertainHues.e0, letK, l7Good_eq l hf hl, l1In_eq, Option.bind_some, joinK, appK, iteK_if, certRes]
    cases hc : okShs l with
    | false => simp
    | true =>
      have h12 := riseL_len hc
      rcases hI with ⟨h1, h2⟩ | ⟨i, x, h1, h2, h3⟩
      · have hno : l.findIdx? (isN name) = none := by
          rw [List.findIdx?_eq_none_iff]
          intro x hx
          obtain ⟨i, hi⟩ := List.getElem?_of_mem hx
          have := h2 i x (List.getElem?_eq_some_iff.1 hi).1 hi
          unfold isN; simpa using this
        subst h1
        simp [hno]
      · subst h1
        obtain ⟨hil, hie⟩ := List.getElem?_eq_some_iff.1 h2
        have hyes : l.findIdx? (isN name) = some i := by
          rw [List.findIdx?_eq_some_iff_getElem]
          refine ⟨hil, by unfold isN; rw [hie]; simpa using h3, fun j hj => ?_⟩
          have hlt := riseL_lt (lt := nameLt) (fun a b c h1 h2 => bl_trans h1 h2) hc (i := j) (j := i) hj (List.getElem?_eq_getElem (by omega)) h2
          have hne := bl_ne hlt
          unfold isN
          rw [h3] at hne
          simpa using hne
        cases hb : inB light 0 100 with
        | false => simp
        | true =>
          have hneg : ¬ ((i : Int) < 0) := by omega
          simp only [hneg, decide_false, Bool.not_true, Bool.and_true, Bool.false_eq_true, if_false, if_true, hyes]
          rw [count_up (p := certB l i light)]
          · rfl
          · intro k nx s hk hs
            have hidx : idx l (i : Int) = some x := by rw [idx_nat, h2]
            have hx := shs_mem hc (List.mem_of_getElem? h2)
            have ht := l7Takes_eq light hx (hue := (k : Int)) ⟨by omega, by omega⟩
            have hcn := l7Count_eq hc h12 light (hue := (k : Int)) ⟨by omega, by omega⟩
            have hcb : certB l i light k = (takesB x (k : Int) light && !((others l i).any fun y => takesB y (k : Int) light)) := by unfold certB; rw [h2]
            rw [hcb]
            simp only [GsCertainHues.l1, letK, hidx, Option.bind_some, unShade, ht, hcn, joinK, appK, iteK_if]
            cases htk : takesB x (k : Int) light with
            | false => simp
            | true =>
              have h1c := one_count hil (fun y => takesB y (k : Int) light) (by rw [hie]; exact htk)
              rw [wrap_in (by omega) (by omega), h1c]
              cases (others l i).any fun y => takesB y (k : Int) light <;> simp
end Go.Proofs.YtkinlkmmelkdnaaDoor.Q7Certain

/- Chapter 7: hues and shades: the plain functions of the program and of the reference agree, and the laws answer true. (Q7FreeCol) No condition but those of each theorem. -/
namespace Go.Proofs.YtkinlkmmelkdnaaDoor.Q7FreeCol
set_option linter.unusedVariables false
set_option linter.unusedSimpArgs false
open Go.RowKit
open Go.Proofs.YtkinlkmmelkdnaaDoor.GoP Go.Proofs.YtkinlkmmelkdnaaDoor.PlainStamp Go.Proofs.YtkinlkmmelkdnaaDoor.QBase Go.Proofs.YtkinlkmmelkdnaaDoor.QOrd Go.Proofs.YtkinlkmmelkdnaaDoor.QCount Go.Proofs.YtkinlkmmelkdnaaDoor.Q7Free Go.Proofs.YtkinlkmmelkdnaaDoor.Q7Takes Go.Proofs.YtkinlkmmelkdnaaDoor.Q7List Go.Proofs.YtkinlkmmelkdnaaDoor.Q7Shade Go.Proofs.YtkinlkmmelkdnaaDoor.Q7Hue Go.Proofs.YtkinlkmmelkdnaaDoor.QLoop Go.Proofs.YtkinlkmmelkdnaaDoor.PShade

def freeRes (l : List Shade) (light : Int) : Int × Bool := if (okShs l && inB light 0 100) = true then (((List.range 360).filter fun h : Nat => !(l.any fun x => takesB x (h : Int) light)).length, true) else (0, false)
theorem free_impl (l : List Shade) (light : Int) (hl : l.length ≤ 9223372036854775807) : GiFreeColors.P l light = some (freeRes l light) := by
  simp only [GiFreeColors.P, areShades_eq l hl, isLight_eq, Option.bind_some, letK, joinK, appK, iteK_if, freeRes]
  cases hc : okShs l with
  | false => simp
  | true =>
    cases hb : inB light 0 100 with
    | false => simp
    | true =>
      simp only [Bool.not_true, Bool.and_true, Bool.false_eq_true, if_false, if_true, GiCountHuesiFreeColors1.P]
      rw [count_up (p := fun h : Nat => !(l.any fun x => takesB x (h : Int) light))]
      · rfl
      · intro k nx s hk hs
        simp only [GiCountHuesiFreeColors1.l0, letK, GiFreeColors1.P, isFree_eq (fun x hx => shs_mem hc hx) light (hue := (k : Int)) ⟨by omega, by omega⟩, Option.bind_some, appK, iteK_if]
        rw [wrap_in (by omega) (by omega)]
        cases l.any fun x => takesB x (k : Int) light <;> simp
theorem free_spec (l : List Shade) (light : Int) (hf : ∀ s ∈ l, s.fits) (hl : l.length ≤ 9223372036854775807) : GsFreeColors.P l light = some (freeRes l light) := by
  simp only [GsFreeColors.P, l7Good_eq l hf hl, l1In_eq, Option.bind_some, letK, joinK, appK, iteK_if, freeRes]
  cases hc : okShs l with
  | false => simp
  | true =>
    have h12 := riseL_len hc
    cases hb : inB light 0 100 with
    | false => simp
    | true =>
      simp only [Bool.not_true, Bool.and_true, Bool.false_eq_true, if_false, if_true]
      rw [count_up (p := fun h : Nat => !(l.any fun x => takesB x (h : Int) light))]
      · rfl
      · intro k nx s hk hs
        simp only [GsFreeColors.l0, letK, l7Count_eq hc h12 light (hue := (k : Int)) ⟨by omega, by omega⟩, Option.bind_some, appK, iteK_if, filter_zero]
        rw [wrap_in (by omega) (by omega)]
        cases l.any fun x => takesB x (k : Int) light <;> simp
end Go.Proofs.YtkinlkmmelkdnaaDoor.Q7FreeCol

/- Plain facts on decimal numerals: what a row of digits is worth, and that a numeral read back is its number. No condition. -/
namespace Go.Proofs.YtkinlkmmelkdnaaDoor.PlainNum

def step (a : Nat) (c : UInt8) : Nat := 10 * a + (c.toNat - 48)
def dv (l : List UInt8) : Nat := l.foldl step 0
def Digs (l : List UInt8) : Prop := ∀ c ∈ l, 48 ≤ c.toNat ∧ c.toNat ≤ 57

theorem dv_snoc (l : List UInt8) (c : UInt8) : dv (l ++ [c]) = 10 * dv l + (c.toNat - 48) := by
  unfold dv; rw [List.foldl_append]; rfl

theorem fold_lt (l : List UInt8) : ∀ a, Digs l → l.foldl step a < (a + 1) * 10 ^ l.length := by
  induction l with
  | nil => intro a _; simp
  | cons c r ih =>
    intro a h
    have hc := h c (by simp)
    have h1 := ih (step a c) (fun x hx => h x (by simp [hx]))
    have h2 : (step a c + 1) * 10 ^ r.length ≤ (10 * (a + 1)) * 10 ^ r.length := Nat.mul_le_mul_right _ (by unfold step; omega)
    have h3 : (10 * (a + 1)) * 10 ^ r.length = (a + 1) * 10 ^ (r.length + 1) := by rw [Nat.pow_succ, Nat.mul_comm 10 (a + 1), Nat.mul_assoc, Nat.mul_comm 10]
    rw [List.foldl_cons, List.length_cons]
    omega

theorem dv_lt (l : List UInt8) (h : Digs l) : dv l < 10 ^ l.length := by
  have := fold_lt l 0 h
  unfold dv; omega

theorem dv_lt6 (l : List UInt8) (h : Digs l) (hl : l.length ≤ 6) : dv l < 1000000 := by
  have h1 := dv_lt l h
  have h2 : 10 ^ l.length ≤ 10 ^ 6 := Nat.pow_le_pow_right (by omega) hl
  omega

theorem digit_toNat (i : Nat) (h : i < 10) : (UInt8.ofNat (48 + i)).toNat = 48 + i := by
  rw [UInt8.toNat_ofNat']; omega

theorem digs_dec (u : Nat) : Digs (Lib.decDigits u) := by
  induction u using Nat.strongRecOn with
  | _ u ih =>
    rw [Lib.decDigits]
    by_cases h : u < 10
    · rw [dif_pos h]
      intro c hc
      obtain rfl : c = UInt8.ofNat (48 + u) := by simpa using hc
      rw [digit_toNat u h]; omega
    · rw [dif_neg h]
      intro c hc
      rcases List.mem_append.1 hc with h1 | h1
      · exact ih (u / 10) (by omega) c h1
      · obtain rfl : c = UInt8.ofNat (48 + u % 10) := by simpa using h1
        rw [digit_toNat _ (by omega)]; omega

theorem dv_dec (u : Nat) : dv (Lib.decDigits u) = u := by
  induction u using Nat.strongRecOn with
  | _ u ih =>
    rw [Lib.decDigits]
    by_cases h : u < 10
    · rw [dif_pos h]
      show step 0 (UInt8.ofNat (48 + u)) = u
      unfold step; rw [digit_toNat u h]; omega
    · rw [dif_neg h, dv_snoc, ih (u / 10) (by omega), digit_toNat _ (by omega)]; omega

theorem nd_le (k : Nat) : ∀ u, u < 10 ^ (k + 1) → Lib.nDigits u ≤ k + 1 := by
  induction k with
  | zero => intro u h; rw [Lib.nDigits_small (by omega)]; omega
  | succ k ih =>
    intro u h
    by_cases h10 : u < 10
    · rw [Lib.nDigits_small h10]; omega
    · rw [Lib.nDigits_big h10]
      have := ih (u / 10) (by rw [Nat.pow_succ] at h; omega)
      omega

theorem len_dec (u : Nat) (h : u ≤ 999999) : 1 ≤ (Lib.decDigits u).length ∧ (Lib.decDigits u).length ≤ 6 := by
  rw [Lib.decDigits_length]
  exact ⟨Lib.nDigits_pos u, nd_le 5 u (by omega)⟩

theorem decFrom_dv (l : List UInt8) : ∀ a, Digs l → Lib.decFrom a l = some (l.foldl step a) := by
  induction l with
  | nil => intro a _; rfl
  | cons c r ih =>
    intro a h
    have hc := h c (by simp)
    have e : Lib.digitVal c = some (c.toNat - 48) := by unfold Lib.digitVal; rw [if_pos hc]
    rw [Lib.decFrom, e]
    show Lib.decFrom (a * 10 + (c.toNat - 48)) r = _
    rw [ih _ (fun x hx => h x (by simp [hx])), Nat.mul_comm a 10]
    rfl

theorem decNat_dec (u : Nat) (h : u ≤ 999999) : Lib.decNat (Lib.decDigits u) = some u := by
  have hl := (len_dec u h).1
  unfold Lib.decNat
  rw [if_neg (by intro e; rw [List.isEmpty_iff] at e; rw [e] at hl; simp at hl), decFrom_dv _ 0 (digs_dec u)]
  exact congrArg some (dv_dec u)

/-- l is the numeral of n -/
def Inv (l : List UInt8) (n : Int) : Prop := -999999 ≤ n ∧ n ≤ 999999 ∧ Lib.itoa n = l

theorem itoa_cases (n : Int) : (n < 0 ∧ Lib.itoa n = 45 :: Lib.decDigits n.natAbs) ∨ (0 ≤ n ∧ Lib.itoa n = Lib.decDigits n.natAbs) := by
  by_cases h : n < 0
  · left; refine ⟨h, ?_⟩; unfold Lib.itoa; rw [if_pos h]
  · right; refine ⟨by omega, ?_⟩; unfold Lib.itoa; rw [if_neg h]; congr 1; omega

theorem itoa_len (n : Int) (h1 : -999999 ≤ n) (h2 : n ≤ 999999) : 1 ≤ (Lib.itoa n).length ∧ (Lib.itoa n).length ≤ 7 := by
  have := len_dec n.natAbs (by omega)
  rcases itoa_cases n with ⟨_, e⟩ | ⟨_, e⟩
  · rw [e, List.length_cons]; omega
  · rw [e]; omega

theorem atoi_itoa (n : Int) (h1 : -999999 ≤ n) (h2 : n ≤ 999999) : Lib.atoiAll (Lib.itoa n) = .ok n := by
  rw [Lib.atoiAll_short _ (by have := itoa_len n h1 h2; omega)]
  have hd := decNat_dec n.natAbs (by omega)
  rcases itoa_cases n with ⟨hn, e⟩ | ⟨hn, e⟩
  · rw [e]
    show Lib.NumEnd.ofOption ((Lib.decNat (Lib.decDigits n.natAbs)).map fun (m : Nat) => -(m : Int)) = _
    rw [hd]
    show Lib.NumEnd.ok (-((n.natAbs : Nat) : Int)) = _
    congr 1; omega
  · rw [e]
    have hl := len_dec n.natAbs (by omega)
    have hg := digs_dec n.natAbs
    cases hx : Lib.decDigits n.natAbs with
    | nil => rw [hx] at hl; simp at hl
    | cons b r =>
      rw [hx] at hg hd
      have hb := hg b (by simp)
      have e1 : (b == 45) = false := by
        rw [beq_eq_false_iff_ne]; rintro rfl; have : (45 : UInt8).toNat = 45 := rfl; omega
      have e2 : (b == 43) = false := by
        rw [beq_eq_false_iff_ne]; rintro rfl; have : (43 : UInt8).toNat = 43 := rfl; omega
      unfold Lib.atoi
      simp only [e1, e2, Bool.false_eq_true, if_false, hd]
      show Lib.NumEnd.ok ((n.natAbs : Nat) : Int) = _
      congr 1; omega

theorem Inv.uniq {l : List UInt8} {n m : Int} (h : Inv l n) (k : Inv l m) : n = m := by
  have e1 := atoi_itoa n h.1 h.2.1
  have e2 := atoi_itoa m k.1 k.2.1
  rw [h.2.2] at e1
  rw [k.2.2] at e2
  rw [e1] at e2
  injection e2

/-- how a numeral's reading ends: the number and true; else 0 and false -/
def Rd (l : List UInt8) (v : Int) (b : Bool) : Prop := (b = true ∧ Inv l v) ∨ (b = false ∧ v = 0 ∧ ∀ n, ¬ Inv l n)

theorem Rd.uniq {l : List UInt8} {v v' : Int} {b b' : Bool} (h : Rd l v b) (k : Rd l v' b') : v = v' ∧ b = b' := by
  rcases h with ⟨rfl, h⟩ | ⟨rfl, rfl, h⟩ <;> rcases k with ⟨rfl, k⟩ | ⟨rfl, rfl, k⟩
  · exact ⟨h.uniq k, rfl⟩
  · exact absurd h (k _)
  · exact absurd k (h _)
  · exact ⟨rfl, rfl⟩

theorem Rd.no {l : List UInt8} (h : ∀ n, ¬ Inv l n) : Rd l 0 false := .inr ⟨rfl, rfl, h⟩
theorem Rd.yes {l : List UInt8} {n : Int} (h : Inv l n) : Rd l n true := .inl ⟨rfl, h⟩

theorem neg_head {r : List UInt8} {n : Int} (h : Inv (45 :: r) n) : n < 0 ∧ r = Lib.decDigits n.natAbs := by
  obtain ⟨h1, h2, h3⟩ := h
  rcases itoa_cases n with ⟨hn, e⟩ | ⟨hn, e⟩
  · rw [e] at h3; injection h3 with _ h3; exact ⟨hn, h3.symm⟩
  · rw [e] at h3
    have := digs_dec n.natAbs 45 (by rw [h3]; simp)
    have e45 : (45 : UInt8).toNat = 45 := rfl
    omega

theorem pos_head {l : List UInt8} {n : Int} (h : Inv l n) (h45 : l.head? ≠ some 45) : 0 ≤ n ∧ l = Lib.decDigits n.natAbs := by
  obtain ⟨h1, h2, h3⟩ := h
  rcases itoa_cases n with ⟨hn, e⟩ | ⟨hn, e⟩
  · rw [e] at h3; subst h3; simp at h45
  · exact ⟨hn, by rw [← h3, e]⟩

/-- the numeral behind the sign -/
theorem no_minus {r : List UInt8} (h : r.length = 0 ∨ 6 < r.length ∨ ¬ Digs r) (n : Int) : ¬ Inv (45 :: r) n := by
  intro k
  obtain ⟨hn, rfl⟩ := neg_head k
  have hl := len_dec n.natAbs (by have := k.1; omega)
  have hd := digs_dec n.natAbs
  rcases h with h | h | h
  · omega
  · omega
  · exact h hd

theorem no_plain {l : List UInt8} (h45 : l.head? ≠ some 45) (h : l.length = 0 ∨ 6 < l.length ∨ ¬ Digs l) (n : Int) : ¬ Inv l n := by
  intro k
  obtain ⟨hn, rfl⟩ := pos_head k h45
  have hl := len_dec n.natAbs (by have := k.2.1; omega)
  have hd := digs_dec n.natAbs
  rcases h with h | h | h
  · omega
  · omega
  · exact h hd

theorem val_minus {r : List UInt8} {n : Int} (k : Inv (45 :: r) n) : n = -(dv r : Int) := by
  obtain ⟨hn, rfl⟩ := neg_head k
  rw [dv_dec]; omega
theorem val_plain {l : List UInt8} {n : Int} (h45 : l.head? ≠ some 45) (k : Inv l n) : n = (dv l : Int) := by
  obtain ⟨hn, rfl⟩ := pos_head k h45
  rw [dv_dec]; omega

/-- the end: the numeral of what was read is the text, or the text is no numeral -/
theorem end_minus {r : List UInt8} (hg : Digs r) (hl : r.length ≤ 6) : (Lib.itoa (-(dv r : Int)) = 45 :: r → Rd (45 :: r) (-(dv r : Int)) true) ∧ (Lib.itoa (-(dv r : Int)) ≠ 45 :: r → Rd (45 :: r) 0 false) := by
  have hb := dv_lt6 r hg hl
  exact ⟨fun e => .yes ⟨by omega, by omega, e⟩, fun e => .no fun n k => e (by rw [← val_minus k]; exact k.2.2)⟩
theorem end_plain {l : List UInt8} (h45 : l.head? ≠ some 45) (hg : Digs l) (hl : l.length ≤ 6) : (Lib.itoa (dv l : Int) = l → Rd l (dv l : Int) true) ∧ (Lib.itoa (dv l : Int) ≠ l → Rd l 0 false) := by
  have hb := dv_lt6 l hg hl
  exact ⟨fun e => .yes ⟨by omega, by omega, e⟩, fun e => .no fun n k => e (by rw [← val_plain h45 k]; exact k.2.2)⟩

theorem one_minus {l : List UInt8} (hp : ¬ (1 < l.length ∧ l.head? = some 45)) (h : l.head? = some 45) : l = [45] := by
  match l, hp, h with
  | [c], _, h => simpa using h
  | c :: d :: r, hp, h => exact absurd ⟨by simp, h⟩ hp

theorem no_plain' {l : List UInt8} (hp : ¬ (1 < l.length ∧ l.head? = some 45)) (h : l.length = 0 ∨ 6 < l.length ∨ ¬ Digs l) (n : Int) : ¬ Inv l n := by
  by_cases h45 : l.head? = some 45
  · rw [one_minus hp h45]; exact no_minus (.inl rfl) n
  · exact no_plain h45 h n

theorem end_plain' {l : List UInt8} (hg : Digs l) (hl : l.length ≤ 6) : (Lib.itoa (dv l : Int) = l → Rd l (dv l : Int) true) ∧ (Lib.itoa (dv l : Int) ≠ l → Rd l 0 false) := by
  refine end_plain (fun h => ?_) hg hl
  cases l with
  | nil => simp at h
  | cons c r =>
    obtain rfl : c = 45 := by simpa using h
    have := hg 45 (by simp)
    have e45 : (45 : UInt8).toNat = 45 := rfl
    omega

end Go.Proofs.YtkinlkmmelkdnaaDoor.PlainNum

/- Plain words on the text of a face, and on short decimal texts. No condition. -/
namespace Go.Proofs.YtkinlkmmelkdnaaDoor.PlainFace
set_option linter.unusedVariables false
open Go.Proofs.YtkinlkmmelkdnaaDoor.PlainNum

def dig (d : Int) : UInt8 := UInt8.ofNat (48 + d.toNat)
theorem itoa_nn {n : Int} (h : 0 ≤ n) : Lib.itoa n = Lib.decDigits n.toNat := by
  rcases itoa_cases n with ⟨h1, _⟩ | ⟨_, e⟩
  · omega
  · rw [e]; congr 1; omega
theorem itoa_dig {d : Int} (h0 : 0 ≤ d) (h : d < 10) : Lib.itoa d = [dig d] := by
  rw [itoa_nn h0, Lib.decDigits_one (by omega)]
  rfl
theorem dec_step (n : Nat) (h : 10 ≤ n) : Lib.decDigits n = Lib.decDigits (n / 10) ++ [UInt8.ofNat (48 + n % 10)] := by
  rw [Lib.decDigits, dif_neg (by omega)]
theorem itoa_hund {r : Int} (h0 : 0 ≤ r) (h : r < 100) : Lib.itoa (100 + r) = [49, dig (r / 10), dig (r % 10)] := by
  rw [itoa_nn (by omega), dec_step _ (by omega), dec_step _ (by omega), Lib.decDigits_one (by omega)]
  unfold dig
  rw [show (100 + r).toNat / 10 / 10 = 1 by omega, show (100 + r).toNat / 10 % 10 = (r / 10).toNat by omega, show (100 + r).toNat % 10 = (r % 10).toNat by omega]
  rfl
theorem itoa_hund' {n : Int} (h0 : 0 ≤ n) : Lib.itoa (100 + n % 100) = [49, dig (n % 100 / 10), dig (n % 10)] := by
  rw [itoa_hund (by omega) (by omega), show n % 100 % 10 = n % 10 by omega]
theorem itoa_short {n : Int} (h1 : -999999 ≤ n) (h2 : n ≤ 999999) : (Lib.itoa n).length ≤ 7 := (itoa_len n h1 h2).2
/-- the text of a face -/
def faceL (n : Int) : List UInt8 := Lib.itoa (n / 100) ++ [46] ++ Lib.itoa (n / 10 % 10) ++ Lib.itoa (n % 10)
theorem faceL_len {n : Int} (h0 : 0 ≤ n) (h : n ≤ 9999) : (faceL n).length ≤ 30 := by
  unfold faceL
  have a := itoa_short (n := n / 100) (by omega) (by omega)
  have b := itoa_short (n := n / 10 % 10) (by omega) (by omega)
  have c := itoa_short (n := n % 10) (by omega) (by omega)
  simp only [List.length_append, List.length_cons, List.length_nil]
  omega
theorem faceL_hund {n : Int} (h0 : 0 ≤ n) (h : n ≤ 9999) : faceL n = Lib.itoa (n / 100) ++ [46] ++ [dig (n % 100 / 10), dig (n % 10)] := by
  unfold faceL
  rw [itoa_dig (d := n / 10 % 10) (by omega) (by omega), itoa_dig (d := n % 10) (by omega) (by omega), show n % 100 / 10 = n / 10 % 10 by omega, List.append_assoc]
  rfl
def str (l : List UInt8) : ByteArray := ⟨l.toArray⟩
def faceRes (n : Int) : ByteArray × Bool := if 0 ≤ n ∧ n ≤ 9999 then (str (faceL n), true) else (⟨#[]⟩, false)
theorem faceRes_yes {n : Int} (h0 : 0 ≤ n) (h : n ≤ 9999) : faceRes n = (str (faceL n), true) := by unfold faceRes; rw [if_pos ⟨h0, h⟩]
theorem faceRes_no {n : Int} (h : n < 0 ∨ 9999 < n) : faceRes n = (⟨#[]⟩, false) := by unfold faceRes; rw [if_neg (by omega)]
end Go.Proofs.YtkinlkmmelkdnaaDoor.PlainFace

/- Decimal texts as plain functions: Itoa and l1Num, for short numbers. No condition. -/
namespace Go.Proofs.YtkinlkmmelkdnaaDoor.QNum
set_option linter.unusedVariables false
set_option linter.unusedSimpArgs false
open Go.RowKit
open Go.Proofs.YtkinlkmmelkdnaaDoor.GoP Go.Proofs.YtkinlkmmelkdnaaDoor.QBase

def itoaB (n : Int) : ByteArray := ⟨(Lib.itoa n).toArray⟩
theorem itoa_eq {n : Int} (h1 : -999999 ≤ n) (h2 : n ≤ 999999) : GxStrconvItoa.P n = some (itoaB n) := by unfold GxStrconvItoa.P; rw [if_pos (by omega)]; rfl
theorem num_eq {n : Int} (h1 : -999999 ≤ n) (h2 : n ≤ 999999) : GsL1Num.P n = some (itoaB n) := by unfold GsL1Num.P; rw [if_pos (by omega)]; rfl
theorem itoaB_size {n : Int} (h1 : -999999 ≤ n) (h2 : n ≤ 999999) : (itoaB n).size ≤ 7 := by
  show (Lib.itoa n).toArray.size ≤ 7
  rw [List.size_toArray]; exact (PlainNum.itoa_len n h1 h2).2
theorem wrap_short {x : Int} (h1 : -9223372036854775808 ≤ x) (h2 : x ≤ 9223372036854775807) : IntKind.i64.wrap x = x := IntWalk.i64_in _ (by omega)
theorem fits_cat {a b : ByteArray} (h : a.size + b.size ≤ 9223372036854775807) {ρ : Type} {x : Option ρ} : guardK (a.size + b.size ≤ maxLen) x = x := guardK_pos (by unfold maxLen; exact h)
end Go.Proofs.YtkinlkmmelkdnaaDoor.QNum

/- Chapter 7: a shade's text: the plain functions of the program and of the reference agree, and the law answers true. (Q7Text) No condition but those of each theorem. -/
namespace Go.Proofs.YtkinlkmmelkdnaaDoor.Q7Text
set_option linter.unusedVariables false
set_option linter.unusedSimpArgs false
open Go.RowKit
open Go.Proofs.YtkinlkmmelkdnaaDoor.GoP Go.Proofs.YtkinlkmmelkdnaaDoor.PlainStamp Go.Proofs.YtkinlkmmelkdnaaDoor.QBase Go.Proofs.YtkinlkmmelkdnaaDoor.Q7Shade Go.Proofs.YtkinlkmmelkdnaaDoor.QWord Go.Proofs.YtkinlkmmelkdnaaDoor.QNum Go.Proofs.YtkinlkmmelkdnaaDoor.QLoop Go.Proofs.YtkinlkmmelkdnaaDoor.PShade

theorem text_same (x : Shade) (h : x.fits) : GiShadeText.P x = GsShadeText.P x ∧ ∃ a b, GsShadeText.P x = some (a, b) := by
  have h3 := l7One_eq x h
  have h4 := isShade_eq x
  have hof := fun hc => okSh_of (x := x) hc
  obtain ⟨a, b, c, d, e⟩ := x
  simp only [GiShadeText.P, GsShadeText.P, unShade, h3, h4, Option.bind_some, letK, iteK_if]
  cases hc : okSh ⟨a, b, c, d, e⟩ with
  | false => exact ⟨by simp, _, _, by simp; exact ⟨rfl, rfl⟩⟩
  | true =>
    obtain ⟨hb, hcw, hd, he, hde, hw⟩ := hof hc
    dsimp only at hb hcw hd he hde hw
    have hwl := word_len hw
    have s1 := itoaB_size (n := b) (by omega) (by omega)
    have s2 := itoaB_size (n := c) (by omega) (by omega)
    have s3 := itoaB_size (n := d) (by omega) (by omega)
    have s4 := itoaB_size (n := e) (by omega) (by omega)
    simp only [itoa_eq (n := b) (by omega) (by omega), itoa_eq (n := c) (by omega) (by omega), itoa_eq (n := d) (by omega) (by omega), itoa_eq (n := e) (by omega) (by omega), num_eq (n := b) (by omega) (by omega), num_eq (n := c) (by omega) (by omega), num_eq (n := d) (by omega) (by omega), num_eq (n := e) (by omega) (by omega), Option.bind_some]
    refine ⟨by first | rfl | trivial, ?_⟩
    have e1 : (⟨#[32]⟩ : ByteArray).size = 1 := rfl
    have e2 : (⟨#[43, 45]⟩ : ByteArray).size = 2 := rfl
    have e3 : (⟨#[46, 46]⟩ : ByteArray).size = 2 := rfl
    simp only [Bool.not_true, Bool.false_eq_true, if_false]
    rw [guardK_pos (by unfold maxLen; omega), guardK_pos (by simp only [ByteArray.size_append]; unfold maxLen; omega), guardK_pos (by simp only [ByteArray.size_append]; unfold maxLen; omega), guardK_pos (by simp only [ByteArray.size_append]; unfold maxLen; omega), guardK_pos (by simp only [ByteArray.size_append]; unfold maxLen; omega), guardK_pos (by simp only [ByteArray.size_append]; unfold maxLen; omega), guardK_pos (by simp only [ByteArray.size_append]; unfold maxLen; omega), guardK_pos (by simp only [ByteArray.size_append]; unfold maxLen; omega)]
    exact ⟨_, _, rfl⟩
end Go.Proofs.YtkinlkmmelkdnaaDoor.Q7Text

/- The named law of hues: what it draws, the distances, the blended hue, certain hues, and the law answers true. (QL7FnHues) No condition but those of each theorem. -/
namespace Go.Proofs.YtkinlkmmelkdnaaDoor.QL7FnHues
set_option linter.unusedVariables false
set_option linter.unusedSimpArgs false
open Go.RowKit
open Go.Proofs.YtkinlkmmelkdnaaDoor.GoP Go.Proofs.YtkinlkmmelkdnaaDoor.PlainStamp Go.Proofs.YtkinlkmmelkdnaaDoor.QBase Go.Proofs.YtkinlkmmelkdnaaDoor.QOrd Go.Proofs.YtkinlkmmelkdnaaDoor.QCount Go.Proofs.YtkinlkmmelkdnaaDoor.QUp Go.Proofs.YtkinlkmmelkdnaaDoor.QAll Go.Proofs.YtkinlkmmelkdnaaDoor.QDraw Go.Proofs.YtkinlkmmelkdnaaDoor.Q7HueFacts Go.Proofs.YtkinlkmmelkdnaaDoor.Q7DrawsF Go.Proofs.YtkinlkmmelkdnaaDoor.Q7Draws Go.Proofs.YtkinlkmmelkdnaaDoor.Q7Certain Go.Proofs.YtkinlkmmelkdnaaDoor.Q7FreeCol Go.Proofs.YtkinlkmmelkdnaaDoor.Q7Text Go.Proofs.YtkinlkmmelkdnaaDoor.Q7Blend Go.Proofs.YtkinlkmmelkdnaaDoor.Q7Takes Go.Proofs.YtkinlkmmelkdnaaDoor.Q7List Go.Proofs.YtkinlkmmelkdnaaDoor.Q7Shade Go.Proofs.YtkinlkmmelkdnaaDoor.Q7Hue Go.Proofs.YtkinlkmmelkdnaaDoor.QLoop Go.Proofs.YtkinlkmmelkdnaaDoor.PShade

theorem colors_same (x : Shade) (h : x.fits) : ∃ a b, GiColorsIn.P x = some (a, b) ∧ GsColorsIn.P x = some (a, b) := by
  have h3 := l7One_eq x h
  have h4 := isShade_eq x
  obtain ⟨a, b, c, d, e⟩ := x
  simp only [GiColorsIn.P, GsColorsIn.P, unShade, h3, h4, Option.bind_some, letK, iteK_if]
  cases okSh ⟨a, b, c, d, e⟩
  · exact ⟨0, false, by simp⟩
  · exact ⟨_, true, by simp; rfl, by simp⟩
theorem name_uniq {l : List Shade} (hc : okShs l = true) {x y : Shade} (hx : x ∈ l) (hy : y ∈ l) (e : x.name = y.name) : x = y := by
  obtain ⟨i, hi⟩ := List.getElem?_of_mem hx
  obtain ⟨j, hj⟩ := List.getElem?_of_mem hy
  have tr : ∀ a b c : Shade, nameLt a b = true → nameLt b c = true → nameLt a c = true := fun a b c h1 h2 => bl_trans h1 h2
  rcases Nat.lt_trichotomy i j with h | h | h
  · exact absurd e (bl_ne (riseL_lt tr hc h hi hj))
  · subst h; exact Option.some.inj (hi.symm.trans hj)
  · exact absurd e.symm (bl_ne (riseL_lt tr hc h hj hi))
/-- certain hues are no more than those of the shade -/
theorem cert_le {l : List Shade} {name : ByteArray} {light : Int} {n : Int} (h : certRes l name light = (n, true)) {x : Shade} (hx : x ∈ l) (hn : x.name = name) : n ≤ 2 * x.width + 1 ∧ 0 ≤ x.width ∧ x.width ≤ 179 := by
  unfold certRes at h
  split at h
  · rename_i hc
    simp only [Bool.and_eq_true] at hc
    cases hf : l.findIdx? (isN name) with
    | none => rw [hf] at h; simp at h
    | some q =>
      rw [hf] at h
      simp only [Prod.mk.injEq, and_true] at h
      rw [List.findIdx?_eq_some_iff_getElem] at hf
      obtain ⟨hq, hp, _⟩ := hf
      have hmem := List.getElem_mem hq
      have hname : l[q].name = name := by simpa [isN] using hp
      have he : x = l[q] := name_uniq hc.1 hx hmem (by rw [hn, hname])
      have hok := okSh_of (shs_mem hc.1 hx)
      refine ⟨?_, hok.2.1⟩
      rw [← h]
      refine within_count hok.1 hok.2.1 _ (fun k hk hb => ?_)
      unfold certB at hb
      rw [List.getElem?_eq_getElem hq, ← he] at hb
      simp only [Bool.and_eq_true] at hb
      have := hb.1
      unfold takesB at this
      simp only [Bool.and_eq_true, decide_eq_true_eq] at this
      exact this.1
  · simp at h
theorem e0_yes {tapes : List Int → GoC.Tape} (ht : GoC.Tells tapes) (code : List Int) (fuel : Nat) (hf : 1048577 ≤ fuel) (s : Int) : GlFnHues.e0 code fuel tapes s = some true := by
  obtain ⟨l, g, e, hl, hs⟩ := drawFree_ok ht code fuel hf
  obtain ⟨x, ex, sx⟩ := drawColors_ok ht code
  have hfit : ∀ x ∈ l, x.fits := fun x hx => fits_sm (hs x hx)
  obtain ⟨p, q, c1, c2⟩ := colors_same x (fits_sm sx)
  obtain ⟨t1, a, b, t2⟩ := text_same x (fits_sm sx)
  rw [t2] at t1
  obtain ⟨⟨u, v⟩, hr⟩ : ∃ z, z = freeRes l g := ⟨_, rfl⟩
  have hxe : Shade.mk x.name x.hue x.width x.dark x.light = x := rfl
  simp [GlFnHues.e0, letK, e, ex, free_impl l g (by omega), free_spec l g hfit (by omega), ← hr, bind2, unShade, hxe, c1, c2, t1, t2, joinK, appK, iteK_if]
theorem j0_yes {tapes : List Int → GoC.Tape} (ht : GoC.Tells tapes) (code : List Int) (fuel : Nat) (hf : 1048577 ≤ fuel) : GlFnHues.j0 code fuel tapes () = some true := by
  obtain ⟨l, n, g, e, hl, hs⟩ := drawCert_ok ht code fuel hf
  have hfit : ∀ x ∈ l, x.fits := fun x hx => fits_sm (hs x hx)
  obtain ⟨⟨u, v⟩, hr⟩ : ∃ z, certRes l n g = z := ⟨_, rfl⟩
  have loop : loopK (GlFnHues.l0 l n u v) fuel 0 (GlFnHues.e0 code fuel tapes) = some true := by
    cases v with
    | false =>
      obtain ⟨f2, rfl⟩ : ∃ f2, fuel = f2 + 1 := ⟨fuel - 1, by omega⟩
      show GlFnHues.l0 l n u false 0 (fun s' => loopK (GlFnHues.l0 l n u false) f2 s' (GlFnHues.e0 code (f2 + 1) tapes)) (GlFnHues.e0 code (f2 + 1) tapes) = some true
      simp only [GlFnHues.l0, letK, joinK, appK, iteK_if, Bool.false_eq_true, if_false, e0_yes ht code (f2 + 1) hf]
      split <;> rfl
    | true =>
      refine lp_is (n := l.length) true (fun k (s : Int) => s = (k : Int)) ?_ ?_ fuel 0 _ (by omega) (by omega) rfl
      · rintro k s nx hk rfl hn
        obtain ⟨x, hx, hi⟩ := at_lt (l := l) (k := k) hk
        have hlt : ((k : Int) < (l.length : Int)) := by omega
        have hw : IntKind.i64.wrap ((k : Int) + 1) = ((k + 1 : Nat) : Int) := by rw [wrap_in (by omega) (by omega)]; omega
        have hmem := List.mem_of_getElem? hx
        simp only [GlFnHues.l0, letK, joinK, appK, iteK_if, decide_eq_true hlt, if_true, hi, Option.bind_some, unShade, eq_list, hw]
        by_cases hnm : x.name = n
        · obtain ⟨h1, h2, h3⟩ := cert_le hr hmem hnm
          rw [wrap_in (x := 2 * x.width) (by omega) (by omega), wrap_in (x := 2 * x.width + 1) (by omega) (by omega)]
          have : ¬ (2 * x.width + 1 < u) := by omega
          simp only [hnm, decide_true, if_true, decide_eq_false this, Bool.false_eq_true, if_false]
          exact hn _ rfl
        · simp only [hnm, decide_false, Bool.false_eq_true, if_false]
          exact hn _ rfl
      · rintro s nx rfl
        have hlt : ¬ (((l.length : Nat) : Int) < (l.length : Int)) := by omega
        simp only [GlFnHues.l0, letK, joinK, appK, iteK_if, decide_eq_false hlt, Bool.false_eq_true, if_false, e0_yes ht code fuel hf]
  simp [GlFnHues.j0, e, bind3, cert_impl l n g (by omega), cert_spec l n g hfit (by omega), hr, bind2, letK, joinK, appK, iteK_if, loop]
theorem law_hues {tapes : List Int → GoC.Tape} (ht : GoC.Tells tapes) (code : List Int) {fuel : Nat} (hf : 1048577 ≤ fuel) : GlFnHues.P fuel tapes code = some true := by
  obtain ⟨a, b, e⟩ := drawHue_ok ht code
  have hj := j0_yes ht code fuel hf
  have hs : hueRes b a = hueRes a b := hueRes_symm b a
  simp only [GlFnHues.P, GlRBig.P, Option.bind_some, letK, iteK_if]
  by_cases hbig : (65536 : Int) < (code.length : Int)
  · simp [hbig]
  · have hb0 : decide ((65536 : Int) < (code.length : Int)) = false := decide_eq_false hbig
    simp only [hb0, Bool.false_eq_true, if_false, e, bind2_some, hue_impl, hue_spec, blend_impl, blend_spec, hs]
    cases h1 : inB a 0 359 && inB b 0 359 with
    | false =>
      have e1 : hueRes a b = (0, false) := by unfold hueRes; rw [h1]; rfl
      have e2 : blendRes a b = (0, false) := by unfold blendRes; rw [h1]; rfl
      simp [e1, e2, bind2, joinK, appK, hj]
    | true =>
      have e1 : hueRes a b = (far a b, true) := by unfold hueRes; rw [h1]; rfl
      simp only [Bool.and_eq_true] at h1
      have ha := inB_of h1.1
      have hb := inB_of h1.2
      obtain ⟨m, e2, hm, k1, k2, k3⟩ := blend_between ha hb
      have hmB : inB m 0 359 = true := by unfold inB; simpa using hm
      have e3 : hueRes a m = (far a m, true) := by unfold hueRes; rw [h1.1, hmB]; rfl
      have e4 : hueRes m b = (far m b, true) := by unfold hueRes; rw [hmB, h1.2]; rfl
      have f1 := far_le ha hb
      have f2 := far_le ha hm
      have f3 := far_le hm hb
      have w1 : IntKind.i64.wrap (far a m + far m b) = far a b := by rw [wrap_in (by omega) (by omega)]; exact k1
      have w2 : IntKind.i64.wrap (far m b - far a m) = far m b - far a m := wrap_in (by omega) (by omega)
      have d1 : ¬ (180 < far a b) := by omega
      have d2 : ¬ (1 < far m b - far a m) := by omega
      have d3 : ¬ (far m b < far a m) := by omega
      simp [e1, e2, e3, e4, bind2, joinK, appK, w1, w2, d1, d2, d3, hj]
end Go.Proofs.YtkinlkmmelkdnaaDoor.QL7FnHues

