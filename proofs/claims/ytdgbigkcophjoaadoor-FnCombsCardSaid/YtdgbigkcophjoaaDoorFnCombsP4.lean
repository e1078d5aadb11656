/- The texts on which the proof of FnCombs stands, one behind the other (4 of 5). No condition of their own. -/
import Derived.Test.YtdgbigkcophjoaaDoorChecked
import Derived.Test.YtdgbigkcophjoaaDoorFnCombsP1
import Derived.Test.YtdgbigkcophjoaaDoorFnCombsP2
import Derived.Test.YtdgbigkcophjoaaDoorFnCombsP3
import Derived.WalkKit
import Derived.WalkSpells
import Derived.WalkLawsBesides
import Derived.BigQuiet
import Derived.OwnWalk
import Derived.Deep.LoopGhost
import Derived.Deep.QuietTactic
import Derived.IntWalk
import Derived.Lib.QuietBelow
import Derived.Test.YtdgbigkcophjoaaDoorRows
import Derived.LaidSub
import Derived.Lib.LaidTab
import Derived.Lib.ItoaNum
import Derived.KernelRfl
import Derived.Lib.ItoaLen
import Derived.Lib.AtoiTie
import Derived.Lib.ItoaMem
/- loop.example/g01062/laws.FnCombs as a plain function, and the contract of the program's: where the plain one has an answer, the program has it. Conditions: slices read as lists. -/
namespace Go.Proofs.YtdgbigkcophjoaaDoor.GlFnCombs
set_option linter.unusedVariables false
set_option linter.unusedSimpArgs false
open Go.RowKit
open Go.Proofs.YtdgbigkcophjoaaDoor.Rowed Go.Proofs.YtdgbigkcophjoaaDoor.Turn Go.Proofs.YtdgbigkcophjoaaDoor.Aid Go.Proofs.YtdgbigkcophjoaaDoor.GoP Go.Proofs.YtdgbigkcophjoaaDoor.GoM Go.Proofs.YtdgbigkcophjoaaDoor.Tab

def l0 (t_5a : (List Go.Proofs.YtdgbigkcophjoaaDoor.PComb.Comb)) (t_19a : (List Int)) (t_19b : Bool) (t_49a : (List Int)) (t_84a : (List Int)) (s : Int) (nx0 bk0 : Int → Option (Bool)) : Option (Bool) :=
  letK s fun i_17l0 =>
  letK (decide (i_17l0 < (t_5a.length : Int))) fun (t_98 : Bool) =>
  joinK (fun (t_101 : Bool) =>
  iteK t_101
  (Option.bind (idx t_5a i_17l0) fun (yt_104 : Go.Proofs.YtdgbigkcophjoaaDoor.PComb.Comb) =>
  unComb yt_104 fun (t_104_id : Int) (t_104_wide : Int) (t_104_high : Int) (t_104_line : Bool) =>
  Option.bind (Go.Proofs.YtdgbigkcophjoaaDoor.GlRHas.P t_49a t_104_id) fun (t_110 : Bool) =>
  Option.bind (Go.Proofs.YtdgbigkcophjoaaDoor.GlRHas.P t_84a t_104_id) fun (t_113 : Bool) =>
  joinK (fun (t_119 : Bool) =>
  letK (!(t_110 == t_119)) fun (t_120 : Bool) =>
  iteK t_120
  (some false)
  (letK (IntKind.i64.wrap (i_17l0 + 1)) fun (t_123 : Int) =>
  appK nx0 (t_123))) fun jt_119 => iteK t_113 (Option.bind (Go.Proofs.YtdgbigkcophjoaaDoor.GlRHas.P t_19a t_104_id) fun (t_117 : Bool) =>
  letK (!t_117) fun (t_118 : Bool) =>
  appK jt_119 t_118) (appK jt_119 false))
  (appK bk0 (i_17l0))) fun jt_101 => iteK t_98 (appK jt_101 t_19b) (appK jt_101 false)

def l1 (t_126a : (List (List Int))) (k1 : Nat) (s : Int) (nx1 bk1 : Int → Option (Bool)) : Option (Bool) :=
  letK s fun sum_23l1 =>
  Option.bind (idx t_126a (k1 : Int)) fun (yt_158 : (List Int)) =>
  letK (IntKind.i64.wrap (sum_23l1 + (yt_158.length : Int))) fun (t_161 : Int) =>
  appK nx1 (t_161)

def e1 (code : (List Int)) (tapes : List Int → Go.Proofs.YtdgbigkcophjoaaDoor.GoC.Tape) (t_5a : (List Go.Proofs.YtdgbigkcophjoaaDoor.PComb.Comb)) (t_126b : Bool) (s : Int) : Option (Bool) :=
  letK s fun sum_23l1 =>
  joinK (fun (t_172 : Bool) =>
  iteK t_172
  (some false)
  (Option.bind (Go.Proofs.YtdgbigkcophjoaaDoor.GsDrawGaugeText.P tapes code) fun (t_175 : Int) =>
  bind2 (Go.Proofs.YtdgbigkcophjoaaDoor.GiGaugeText.P t_175) fun (t_178a : ByteArray) (t_178b : Bool) =>
  bind2 (Go.Proofs.YtdgbigkcophjoaaDoor.GsGaugeText.P t_175) fun (t_185a : ByteArray) (t_185b : Bool) =>
  Option.bind (Go.Proofs.YtdgbigkcophjoaaDoor.GsDrawCombText.P tapes code) fun (t_192 : Go.Proofs.YtdgbigkcophjoaaDoor.PComb.Comb) =>
  unComb t_192 fun (t_192_id : Int) (t_192_wide : Int) (t_192_high : Int) (t_192_line : Bool) =>
  bind2 (Go.Proofs.YtdgbigkcophjoaaDoor.GiCombText.P (Go.Proofs.YtdgbigkcophjoaaDoor.PComb.Comb.mk t_192_id t_192_wide t_192_high t_192_line)) fun (t_196a : ByteArray) (t_196b : Bool) =>
  bind2 (Go.Proofs.YtdgbigkcophjoaaDoor.GsCombText.P (Go.Proofs.YtdgbigkcophjoaaDoor.PComb.Comb.mk t_192_id t_192_wide t_192_high t_192_line)) fun (t_203a : ByteArray) (t_203b : Bool) =>
  letK (t_178a.toList == t_185a.toList) fun (t_211 : Bool) =>
  joinK (fun (t_216 : Bool) =>
  joinK (fun (t_221 : Bool) =>
  joinK (fun (t_226 : Bool) =>
  joinK (fun (t_233 : Bool) =>
  some t_233) fun jt_233 => iteK t_226 (Option.bind (Go.Proofs.YtdgbigkcophjoaaDoor.GiAreCombs.P t_5a) fun (t_229 : Bool) =>
  Option.bind (Go.Proofs.YtdgbigkcophjoaaDoor.GsAreCombs.P t_5a) fun (t_231 : Bool) =>
  letK (t_229 == t_231) fun (t_232 : Bool) =>
  appK jt_233 t_232) (appK jt_233 false)) fun jt_226 => iteK t_221 (letK (t_196b == t_203b) fun (t_225 : Bool) =>
  appK jt_226 t_225) (appK jt_226 false)) fun jt_221 => iteK t_216 (letK (t_196a.toList == t_203a.toList) fun (t_220 : Bool) =>
  appK jt_221 t_220) (appK jt_221 false)) fun jt_216 => iteK t_211 (letK (t_178b == t_185b) fun (t_215 : Bool) =>
  appK jt_216 t_215) (appK jt_216 false))) fun jt_172 => iteK t_126b (letK (sum_23l1 != (t_5a.length : Int)) fun (t_171 : Bool) =>
  appK jt_172 t_171) (appK jt_172 false)

def e0 (code : (List Int)) (tapes : List Int → Go.Proofs.YtdgbigkcophjoaaDoor.GoC.Tape) (t_5a : (List Go.Proofs.YtdgbigkcophjoaaDoor.PComb.Comb)) (s : Int) : Option (Bool) :=
  letK s fun i_17l0 =>
  bind2 (Go.Proofs.YtdgbigkcophjoaaDoor.GiSameGauges.P t_5a) fun (t_126a : (List (List Int))) (t_126b : Bool) =>
  bind2 (Go.Proofs.YtdgbigkcophjoaaDoor.GsSameGauges.P t_5a) fun (t_133a : (List (List Int))) (t_133b : Bool) =>
  letK (!(t_126b == t_133b)) fun (t_141 : Bool) =>
  joinK (fun (t_147 : Bool) =>
  iteK t_147
  (some false)
  (cntK (l1 t_126a) (t_126a.length) 0 (0) (e1 code tapes t_5a t_126b))) fun jt_147 => iteK t_141 (appK jt_147 true) (Option.bind (Go.Proofs.YtdgbigkcophjoaaDoor.GlRTable.P t_126a t_133a) fun (t_145 : Bool) =>
  letK (!t_145) fun (t_146 : Bool) =>
  appK jt_147 t_146)

def P (fuel : Nat) (tapes : List Int → Go.Proofs.YtdgbigkcophjoaaDoor.GoC.Tape) (code : (List Int)) : Option (Bool) :=
  Option.bind (Go.Proofs.YtdgbigkcophjoaaDoor.GlRBig.P code) fun (t_2 : Bool) =>
  iteK t_2
  (some true)
  (bind4 (Go.Proofs.YtdgbigkcophjoaaDoor.GsDrawMatchCombs.P fuel tapes code) fun (t_5a : (List Go.Proofs.YtdgbigkcophjoaaDoor.PComb.Comb)) (t_5b : Int) (t_5c : Int) (t_5d : Int) =>
  bind2 (Go.Proofs.YtdgbigkcophjoaaDoor.GiMatchCombs.P t_5a t_5b t_5c t_5d) fun (t_19a : (List Int)) (t_19b : Bool) =>
  bind2 (Go.Proofs.YtdgbigkcophjoaaDoor.GsMatchCombs.P t_5a t_5b t_5c t_5d) fun (t_29a : (List Int)) (t_29b : Bool) =>
  letK (!(t_19b == t_29b)) fun (t_37 : Bool) =>
  joinK (fun (t_43 : Bool) =>
  iteK t_43
  (some false)
  (bind2 (Go.Proofs.YtdgbigkcophjoaaDoor.GiTurnedCombs.P t_5a t_5b t_5c t_5d) fun (t_49a : (List Int)) (t_49b : Bool) =>
  bind2 (Go.Proofs.YtdgbigkcophjoaaDoor.GsTurnedCombs.P t_5a t_5b t_5c t_5d) fun (t_59a : (List Int)) (t_59b : Bool) =>
  letK (!(t_49b == t_59b)) fun (t_67 : Bool) =>
  joinK (fun (t_72 : Bool) =>
  joinK (fun (t_78 : Bool) =>
  iteK t_78
  (some false)
  (bind2 (Go.Proofs.YtdgbigkcophjoaaDoor.GiMatchCombs.P t_5a t_5c t_5b t_5d) fun (t_84a : (List Int)) (t_84b : Bool) =>
  letK (!(t_84b == t_19b)) fun (t_92 : Bool) =>
  iteK t_92
  (some false)
  (loopK (l0 t_5a t_19a t_19b t_49a t_84a) fuel (0) (e0 code tapes t_5a)))) fun jt_78 => iteK t_72 (appK jt_78 true) (Option.bind (Go.Proofs.YtdgbigkcophjoaaDoor.GlRInts.P t_49a t_59a) fun (t_76 : Bool) =>
  letK (!t_76) fun (t_77 : Bool) =>
  appK jt_78 t_77)) fun jt_72 => iteK t_67 (appK jt_72 true) (letK (!(t_49b == t_19b)) fun (t_71 : Bool) =>
  appK jt_72 t_71))) fun jt_43 => iteK t_37 (appK jt_43 true) (Option.bind (Go.Proofs.YtdgbigkcophjoaaDoor.GlRInts.P t_19a t_29a) fun (t_41 : Bool) =>
  letK (!t_41) fun (t_42 : Bool) =>
  appK jt_43 t_42))

set_option maxRecDepth 100000 in
set_option maxHeartbeats 2000000 in
theorem C (fuel : Nat) (tapes : List Int → Go.Proofs.YtdgbigkcophjoaaDoor.GoC.Tape) (code : (List Int)) (A0 : Option Addr) (c0 : Nat)  (w : World) (HT : Hid (Tab w)) (HE : Hid (Go.Proofs.YtdgbigkcophjoaaDoor.GoC.Tells tapes)) (M0 : Hid (Cells w 1 A0 code.length (Go.Proofs.YtdgbigkcophjoaaDoor.GoC.u8s code))) (N0 : Hid (code.length ≤ 9223372036854775807)) (V0 : Hid (∀ z ∈ code, 0 ≤ z ∧ z ≤ 255))  {r : Bool} (H : Hid (P fuel tapes code = some r)) :
    Calls Tryd.prog 3 #[.slice A0 code.length c0] w (Gives (.bool r) w) := by
  have HB := Lib.hid (Below.refl w.heap.size w)
  unfold P at H
  have N0o := N0.out
  go_enter Tryd.func3, Tryd.ntmps3
  replace H := bind_hid H
  obtain ⟨t_2, qt_2, H⟩ := H
  go_wp2_with fail
  go_at_call 4
  refine (Go.Proofs.YtdgbigkcophjoaaDoor.GlRBig.C (code) A0 c0 _   (Lib.hid (Cells.below M0.out HB.out)) N0 V0 qt_2).mono ?_
  rintro e_t_2 wt_2 ⟨rfl, bt_2⟩
  have HBwt_2 := Lib.hid (Below.step HB.out bt_2)
  clear bt_2
  cases t_2 with
  | false =>
    replace H := ite_f H
    replace H := bind4_hid H
    obtain ⟨t_5a, t_5b, t_5c, t_5d, qt_5, H⟩ := H
    go_wp2_with fail
    go_at_call 5
    refine (Go.Proofs.YtdgbigkcophjoaaDoor.GsDrawMatchCombs.C fuel tapes (code) A0 c0 _  HE (Lib.hid (Cells.below M0.out HBwt_2.out)) N0 V0 qt_5).mono ?_
    rintro e_t_5 wt_5 ⟨At_5a, ct_5a, rfl, ot_5a, bt_5⟩
    have Ot_5a := Lib.hid (own_lower ot_5a HBwt_2.out.size)
    clear ot_5a
    have HBwt_5 := Lib.hid (Below.step HBwt_2.out bt_5)
    clear bt_5
    replace H := bind2_hid H
    obtain ⟨t_19a, t_19b, qt_19, H⟩ := H
    go_wp2_with fail
    go_at_call 6
    refine (Go.Proofs.YtdgbigkcophjoaaDoor.GiMatchCombs.C (t_5a) (t_5b) (t_5c) (t_5d) At_5a ct_5a _   (Lib.hid (own_cells Ot_5a.out)) (Lib.hid (own_max Ot_5a.out)) qt_19).mono ?_
    rintro e_t_19 wt_19 ⟨At_19a, ct_19a, rfl, ot_19a, bt_19⟩
    have Dt_19a_t_5a := Lib.hid (apart_call ot_19a Ot_5a.out)
    have Ot_19a := Lib.hid (own_lower ot_19a HBwt_5.out.size)
    clear ot_19a
    have HBwt_19 := Lib.hid (Below.step HBwt_5.out bt_19)
    replace Ot_5a := Lib.hid (own_below Ot_5a.out bt_19)
    clear bt_19
    replace H := bind2_hid H
    obtain ⟨t_29a, t_29b, qt_29, H⟩ := H
    go_wp2_with fail
    go_at_call 7
    refine (Go.Proofs.YtdgbigkcophjoaaDoor.GsMatchCombs.C (t_5a) (t_5b) (t_5c) (t_5d) At_5a ct_5a _   (Lib.hid (own_cells Ot_5a.out)) (Lib.hid (own_max Ot_5a.out)) qt_29).mono ?_
    rintro e_t_29 wt_29 ⟨At_29a, ct_29a, rfl, ot_29a, bt_29⟩
    have Dt_29a_t_5a := Lib.hid (apart_call ot_29a Ot_5a.out)
    have Dt_29a_t_19a := Lib.hid (apart_call ot_29a Ot_19a.out)
    have Ot_29a := Lib.hid (own_lower ot_29a HBwt_19.out.size)
    clear ot_29a
    have HBwt_29 := Lib.hid (Below.step HBwt_19.out bt_29)
    replace Ot_5a := Lib.hid (own_below Ot_5a.out bt_29)
    replace Ot_19a := Lib.hid (own_below Ot_19a.out bt_29)
    clear bt_29
    replace H := let_hid H
    obtain ⟨t_37, ht_37, H⟩ := H
    replace H := join_hid H
    cases t_37 with
    | false =>
      replace H := ite_f H
      replace H := bind_hid H
      obtain ⟨t_41, qt_41, H⟩ := H
      go_wp2_with fail
      go_at_call 8
      refine (Go.Proofs.YtdgbigkcophjoaaDoor.GlRInts.C (t_19a) (t_29a) At_19a ct_19a At_29a ct_29a _   (Lib.hid (own_cells Ot_19a.out)) (Lib.hid (own_max Ot_19a.out)) (Lib.hid (own_cells Ot_29a.out)) (Lib.hid (own_max Ot_29a.out)) qt_41).mono ?_
      rintro e_t_41 wt_41 ⟨rfl, bt_41⟩
      have HBwt_41 := Lib.hid (Below.step HBwt_29.out bt_41)
      replace Ot_5a := Lib.hid (own_below Ot_5a.out bt_41)
      replace Ot_19a := Lib.hid (own_below Ot_19a.out bt_41)
      replace Ot_29a := Lib.hid (own_below Ot_29a.out bt_41)
      clear bt_41
      cases t_41 with
      | false =>
        replace H := let_hid H
        obtain ⟨t_42, ht_42, H⟩ := H
        obtain rfl : t_42 = true := ht_42.symm
        replace H := app_hid H
        replace H := ite_t H
        obtain rfl := ret_hid H
        go_wp2_with fail
        go_ret
        exact ⟨rfl, HBwt_41.out⟩
      | true =>
        replace H := let_hid H
        obtain ⟨t_42, ht_42, H⟩ := H
        obtain rfl : t_42 = false := ht_42.symm
        replace H := app_hid H
        replace H := ite_f H
        replace H := bind2_hid H
        obtain ⟨t_49a, t_49b, qt_49, H⟩ := H
        go_wp2_with fail
        go_at_call 9
        refine (Go.Proofs.YtdgbigkcophjoaaDoor.GiTurnedCombs.C (t_5a) (t_5b) (t_5c) (t_5d) At_5a ct_5a _   (Lib.hid (own_cells Ot_5a.out)) (Lib.hid (own_max Ot_5a.out)) qt_49).mono ?_
        rintro e_t_49 wt_49 ⟨At_49a, ct_49a, rfl, ot_49a, bt_49⟩
        have Dt_49a_t_5a := Lib.hid (apart_call ot_49a Ot_5a.out)
        have Dt_49a_t_19a := Lib.hid (apart_call ot_49a Ot_19a.out)
        have Dt_49a_t_29a := Lib.hid (apart_call ot_49a Ot_29a.out)
        have Ot_49a := Lib.hid (own_lower ot_49a HBwt_41.out.size)
        clear ot_49a
        have HBwt_49 := Lib.hid (Below.step HBwt_41.out bt_49)
        replace Ot_5a := Lib.hid (own_below Ot_5a.out bt_49)
        replace Ot_19a := Lib.hid (own_below Ot_19a.out bt_49)
        replace Ot_29a := Lib.hid (own_below Ot_29a.out bt_49)
        clear bt_49
        replace H := bind2_hid H
        obtain ⟨t_59a, t_59b, qt_59, H⟩ := H
        go_wp2_with fail
        go_at_call 10
        refine (Go.Proofs.YtdgbigkcophjoaaDoor.GsTurnedCombs.C (t_5a) (t_5b) (t_5c) (t_5d) At_5a ct_5a _   (Lib.hid (own_cells Ot_5a.out)) (Lib.hid (own_max Ot_5a.out)) qt_59).mono ?_
        rintro e_t_59 wt_59 ⟨At_59a, ct_59a, rfl, ot_59a, bt_59⟩
        have Dt_59a_t_5a := Lib.hid (apart_call ot_59a Ot_5a.out)
        have Dt_59a_t_19a := Lib.hid (apart_call ot_59a Ot_19a.out)
        have Dt_59a_t_29a := Lib.hid (apart_call ot_59a Ot_29a.out)
        have Dt_59a_t_49a := Lib.hid (apart_call ot_59a Ot_49a.out)
        have Ot_59a := Lib.hid (own_lower ot_59a HBwt_49.out.size)
        clear ot_59a
        have HBwt_59 := Lib.hid (Below.step HBwt_49.out bt_59)
        replace Ot_5a := Lib.hid (own_below Ot_5a.out bt_59)
        replace Ot_19a := Lib.hid (own_below Ot_19a.out bt_59)
        replace Ot_29a := Lib.hid (own_below Ot_29a.out bt_59)
        replace Ot_49a := Lib.hid (own_below Ot_49a.out bt_59)
        clear bt_59
        replace H := let_hid H
        obtain ⟨t_67, ht_67, H⟩ := H
        replace H := join_hid H
        cases t_67 with
        | false =>
          replace H := ite_f H
          replace H := let_hid H
          obtain ⟨t_71, ht_71, H⟩ := H
          replace H := app_hid H
          replace H := join_hid H
          cases t_71 with
          | false =>
            replace H := ite_f H
            replace H := bind_hid H
            obtain ⟨t_76, qt_76, H⟩ := H
            go_wp2_with fail
            go_at_call 8
            refine (Go.Proofs.YtdgbigkcophjoaaDoor.GlRInts.C (t_49a) (t_59a) At_49a ct_49a At_59a ct_59a _   (Lib.hid (own_cells Ot_49a.out)) (Lib.hid (own_max Ot_49a.out)) (Lib.hid (own_cells Ot_59a.out)) (Lib.hid (own_max Ot_59a.out)) qt_76).mono ?_
            rintro e_t_76 wt_76 ⟨rfl, bt_76⟩
            have HBwt_76 := Lib.hid (Below.step HBwt_59.out bt_76)
            replace Ot_5a := Lib.hid (own_below Ot_5a.out bt_76)
            replace Ot_19a := Lib.hid (own_below Ot_19a.out bt_76)
            replace Ot_29a := Lib.hid (own_below Ot_29a.out bt_76)
            replace Ot_49a := Lib.hid (own_below Ot_49a.out bt_76)
            replace Ot_59a := Lib.hid (own_below Ot_59a.out bt_76)
            clear bt_76
            cases t_76 with
            | false =>
              replace H := let_hid H
              obtain ⟨t_77, ht_77, H⟩ := H
              obtain rfl : t_77 = true := ht_77.symm
              replace H := app_hid H
              replace H := ite_t H
              obtain rfl := ret_hid H
              go_wp2_with fail
              go_ret
              exact ⟨rfl, HBwt_76.out⟩
            | true =>
              replace H := let_hid H
              obtain ⟨t_77, ht_77, H⟩ := H
              obtain rfl : t_77 = false := ht_77.symm
              replace H := app_hid H
              replace H := ite_f H
              replace H := bind2_hid H
              obtain ⟨t_84a, t_84b, qt_84, H⟩ := H
              go_wp2_with fail
              go_at_call 6
              refine (Go.Proofs.YtdgbigkcophjoaaDoor.GiMatchCombs.C (t_5a) (t_5c) (t_5b) (t_5d) At_5a ct_5a _   (Lib.hid (own_cells Ot_5a.out)) (Lib.hid (own_max Ot_5a.out)) qt_84).mono ?_
              rintro e_t_84 wt_84 ⟨At_84a, ct_84a, rfl, ot_84a, bt_84⟩
              have Dt_84a_t_5a := Lib.hid (apart_call ot_84a Ot_5a.out)
              have Dt_84a_t_19a := Lib.hid (apart_call ot_84a Ot_19a.out)
              have Dt_84a_t_29a := Lib.hid (apart_call ot_84a Ot_29a.out)
              have Dt_84a_t_49a := Lib.hid (apart_call ot_84a Ot_49a.out)
              have Dt_84a_t_59a := Lib.hid (apart_call ot_84a Ot_59a.out)
              have Ot_84a := Lib.hid (own_lower ot_84a HBwt_76.out.size)
              clear ot_84a
              have HBwt_84 := Lib.hid (Below.step HBwt_76.out bt_84)
              replace Ot_5a := Lib.hid (own_below Ot_5a.out bt_84)
              replace Ot_19a := Lib.hid (own_below Ot_19a.out bt_84)
              replace Ot_29a := Lib.hid (own_below Ot_29a.out bt_84)
              replace Ot_49a := Lib.hid (own_below Ot_49a.out bt_84)
              replace Ot_59a := Lib.hid (own_below Ot_59a.out bt_84)
              clear bt_84
              replace H := let_hid H
              obtain ⟨t_92, ht_92, H⟩ := H
              cases t_92 with
              | false =>
                replace H := ite_f H
                go_wp2_with fail
                go_loopg [17] (fuel) (fun m_ v17_ wr => ∃ (i_17l0 : Int), v17_ = .int .i64 i_17l0 ∧ Hid (loopK (l0 t_5a t_19a t_19b t_49a t_84a) m_ (i_17l0) (e0 code tapes t_5a) = some r) ∧ Hid (Below w.heap.size w wr) ∧ Hid (wr.ownsRow w.heap.size 32 4 (.slice At_5a t_5a.length ct_5a) t_5a.length (Go.Proofs.YtdgbigkcophjoaaDoor.PComb.flat t_5a)) ∧ Hid (wr.ownsRow w.heap.size 3 1 (.slice At_19a t_19a.length ct_19a) t_19a.length (Go.Proofs.YtdgbigkcophjoaaDoor.HelpInt.iv t_19a)) ∧ Hid (wr.ownsRow w.heap.size 3 1 (.slice At_29a t_29a.length ct_29a) t_29a.length (Go.Proofs.YtdgbigkcophjoaaDoor.HelpInt.iv t_29a)) ∧ Hid (wr.ownsRow w.heap.size 3 1 (.slice At_49a t_49a.length ct_49a) t_49a.length (Go.Proofs.YtdgbigkcophjoaaDoor.HelpInt.iv t_49a)) ∧ Hid (wr.ownsRow w.heap.size 3 1 (.slice At_59a t_59a.length ct_59a) t_59a.length (Go.Proofs.YtdgbigkcophjoaaDoor.HelpInt.iv t_59a)) ∧ Hid (wr.ownsRow w.heap.size 3 1 (.slice At_84a t_84a.length ct_84a) t_84a.length (Go.Proofs.YtdgbigkcophjoaaDoor.HelpInt.iv t_84a)))
                case atStart => exact ⟨_, rfl, H, HBwt_84, Ot_5a, Ot_19a, Ot_29a, Ot_49a, Ot_59a, Ot_84a⟩
                case round =>
                  obtain ⟨i_17l0, rfl, H, HBwr0, Ot_5a, Ot_19a, Ot_29a, Ot_49a, Ot_59a, Ot_84a⟩ := hrel
                  rename World => wr0
                  cases gk with
                  | zero => exact (loop_zero H).elim
                  | succ m0 =>
                    replace H := loop_succ H
                    unfold l0 at H
                    replace H := let_hid H
                    obtain ⟨_, rfl, H⟩ := H
                    replace H := let_hid H
                    obtain ⟨t_98, ht_98, H⟩ := H
                    replace H := join_hid H
                    cases t_98 with
                    | false =>
                      replace H := ite_f H
                      replace H := app_hid H
                      replace H := ite_f H
                      replace H := app_hid H
                      unfold e0 at H
                      replace H := let_hid H
                      obtain ⟨_, rfl, H⟩ := H
                      replace H := bind2_hid H
                      obtain ⟨t_126a, t_126b, qt_126, H⟩ := H
                      go_wp2_with fail
                      go_at_call 12
                      refine (Go.Proofs.YtdgbigkcophjoaaDoor.GiSameGauges.C (t_5a) At_5a ct_5a _   (Lib.hid (own_cells Ot_5a.out)) (Lib.hid (own_max Ot_5a.out)) (Lib.hid (own_room Ot_5a.out)) qt_126).mono ?_
                      rintro e_t_126 wt_126 ⟨At_126a, ct_126a, rfl, ⟨Bt_126a, ot_126a⟩, bt_126⟩
                      have Dt_126a_t_5a := Lib.hid (Go.Proofs.YtdgbigkcophjoaaDoor.GoN.nest_callrow ot_126a Ot_5a.out)
                      have Dt_126a_t_19a := Lib.hid (Go.Proofs.YtdgbigkcophjoaaDoor.GoN.nest_callrow ot_126a Ot_19a.out)
                      have Dt_126a_t_29a := Lib.hid (Go.Proofs.YtdgbigkcophjoaaDoor.GoN.nest_callrow ot_126a Ot_29a.out)
                      have Dt_126a_t_49a := Lib.hid (Go.Proofs.YtdgbigkcophjoaaDoor.GoN.nest_callrow ot_126a Ot_49a.out)
                      have Dt_126a_t_59a := Lib.hid (Go.Proofs.YtdgbigkcophjoaaDoor.GoN.nest_callrow ot_126a Ot_59a.out)
                      have Dt_126a_t_84a := Lib.hid (Go.Proofs.YtdgbigkcophjoaaDoor.GoN.nest_callrow ot_126a Ot_84a.out)
                      have Ot_126a := Lib.hid (Go.Proofs.YtdgbigkcophjoaaDoor.GoN.nest_lower ot_126a HBwr0.out.size)
                      clear ot_126a
                      have HBwt_126 := Lib.hid (Below.step HBwr0.out bt_126)
                      replace Ot_5a := Lib.hid (own_below Ot_5a.out bt_126)
                      replace Ot_19a := Lib.hid (own_below Ot_19a.out bt_126)
                      replace Ot_29a := Lib.hid (own_below Ot_29a.out bt_126)
                      replace Ot_49a := Lib.hid (own_below Ot_49a.out bt_126)
                      replace Ot_59a := Lib.hid (own_below Ot_59a.out bt_126)
                      replace Ot_84a := Lib.hid (own_below Ot_84a.out bt_126)
                      clear bt_126
                      replace H := bind2_hid H
                      obtain ⟨t_133a, t_133b, qt_133, H⟩ := H
                      go_wp2_with fail
                      go_at_call 13
                      refine (Go.Proofs.YtdgbigkcophjoaaDoor.GsSameGauges.C (t_5a) At_5a ct_5a _   (Lib.hid (own_cells Ot_5a.out)) (Lib.hid (own_max Ot_5a.out)) qt_133).mono ?_
                      rintro e_t_133 wt_133 ⟨At_133a, ct_133a, rfl, ⟨Bt_133a, ot_133a⟩, bt_133⟩
                      have Dt_133a_t_5a := Lib.hid (Go.Proofs.YtdgbigkcophjoaaDoor.GoN.nest_callrow ot_133a Ot_5a.out)
                      have Dt_133a_t_19a := Lib.hid (Go.Proofs.YtdgbigkcophjoaaDoor.GoN.nest_callrow ot_133a Ot_19a.out)
                      have Dt_133a_t_29a := Lib.hid (Go.Proofs.YtdgbigkcophjoaaDoor.GoN.nest_callrow ot_133a Ot_29a.out)
                      have Dt_133a_t_49a := Lib.hid (Go.Proofs.YtdgbigkcophjoaaDoor.GoN.nest_callrow ot_133a Ot_49a.out)
                      have Dt_133a_t_59a := Lib.hid (Go.Proofs.YtdgbigkcophjoaaDoor.GoN.nest_callrow ot_133a Ot_59a.out)
                      have Dt_133a_t_84a := Lib.hid (Go.Proofs.YtdgbigkcophjoaaDoor.GoN.nest_callrow ot_133a Ot_84a.out)
                      have Dt_133a_t_126a := Lib.hid (Go.Proofs.YtdgbigkcophjoaaDoor.GoN.nest_callnest ot_133a Ot_126a.out)
                      have Ot_133a := Lib.hid (Go.Proofs.YtdgbigkcophjoaaDoor.GoN.nest_lower ot_133a HBwt_126.out.size)
                      clear ot_133a
                      have HBwt_133 := Lib.hid (Below.step HBwt_126.out bt_133)
                      replace Ot_5a := Lib.hid (own_below Ot_5a.out bt_133)
                      replace Ot_19a := Lib.hid (own_below Ot_19a.out bt_133)
                      replace Ot_29a := Lib.hid (own_below Ot_29a.out bt_133)
                      replace Ot_49a := Lib.hid (own_below Ot_49a.out bt_133)
                      replace Ot_59a := Lib.hid (own_below Ot_59a.out bt_133)
                      replace Ot_84a := Lib.hid (own_below Ot_84a.out bt_133)
                      replace Ot_126a := Lib.hid (Go.Proofs.YtdgbigkcophjoaaDoor.GoN.nest_below Ot_126a.out bt_133)
                      clear bt_133
                      replace H := let_hid H
                      obtain ⟨t_141, ht_141, H⟩ := H
                      replace H := join_hid H
                      cases t_141 with
                      | false =>
                        replace H := ite_f H
                        replace H := bind_hid H
                        obtain ⟨t_145, qt_145, H⟩ := H
                        go_wp2_with fail
                        go_at_call 14
                        refine (Go.Proofs.YtdgbigkcophjoaaDoor.GlRTable.C (t_126a) (t_133a) At_126a ct_126a At_133a ct_133a _   (Lib.hid (Go.Proofs.YtdgbigkcophjoaaDoor.GoN.nest_read Ot_126a.out)) (Lib.hid (Go.Proofs.YtdgbigkcophjoaaDoor.GoN.nest_max Ot_126a.out)) (Lib.hid (Go.Proofs.YtdgbigkcophjoaaDoor.GoN.nest_read Ot_133a.out)) (Lib.hid (Go.Proofs.YtdgbigkcophjoaaDoor.GoN.nest_max Ot_133a.out)) qt_145).mono ?_
                        rintro e_t_145 wt_145 ⟨rfl, bt_145⟩
                        have HBwt_145 := Lib.hid (Below.step HBwt_133.out bt_145)
                        replace Ot_5a := Lib.hid (own_below Ot_5a.out bt_145)
                        replace Ot_19a := Lib.hid (own_below Ot_19a.out bt_145)
                        replace Ot_29a := Lib.hid (own_below Ot_29a.out bt_145)
                        replace Ot_49a := Lib.hid (own_below Ot_49a.out bt_145)
                        replace Ot_59a := Lib.hid (own_below Ot_59a.out bt_145)
                        replace Ot_84a := Lib.hid (own_below Ot_84a.out bt_145)
                        replace Ot_126a := Lib.hid (Go.Proofs.YtdgbigkcophjoaaDoor.GoN.nest_below Ot_126a.out bt_145)
                        replace Ot_133a := Lib.hid (Go.Proofs.YtdgbigkcophjoaaDoor.GoN.nest_below Ot_133a.out bt_145)
                        clear bt_145
                        cases t_145 with
                        | false =>
                          replace H := let_hid H
                          obtain ⟨t_146, ht_146, H⟩ := H
                          obtain rfl : t_146 = true := ht_146.symm
                          replace H := app_hid H
                          replace H := ite_t H
                          obtain rfl := ret_hid H
                          go_wp2_with fail
                          go_ret
                          exact ⟨rfl, HBwt_145.out⟩
                        | true =>
                          replace H := let_hid H
                          obtain ⟨t_146, ht_146, H⟩ := H
                          obtain rfl : t_146 = false := ht_146.symm
                          replace H := app_hid H
                          replace H := ite_f H
                          have hb_1 : t_126a.length ≤ 9223372036854775807 := Go.Proofs.YtdgbigkcophjoaaDoor.GoN.nest_max Ot_126a.out
                          go_wp2_with fail
                          go_loopg [24, 23] (t_126a.length) (fun m_ v24_ v23_ wr => ∃ (k1 : Nat) (sum_23l1 : Int), k1 + m_ = t_126a.length ∧ v24_ = .int .i64 (k1 : Int) ∧ v23_ = .int .i64 sum_23l1 ∧ Hid (cntK (l1 t_126a) m_ k1 (sum_23l1) (e1 code tapes t_5a t_126b) = some r) ∧ Hid (Below w.heap.size w wr) ∧ Hid (wr.ownsRow w.heap.size 32 4 (.slice At_5a t_5a.length ct_5a) t_5a.length (Go.Proofs.YtdgbigkcophjoaaDoor.PComb.flat t_5a)) ∧ Hid (wr.ownsRow w.heap.size 3 1 (.slice At_19a t_19a.length ct_19a) t_19a.length (Go.Proofs.YtdgbigkcophjoaaDoor.HelpInt.iv t_19a)) ∧ Hid (wr.ownsRow w.heap.size 3 1 (.slice At_29a t_29a.length ct_29a) t_29a.length (Go.Proofs.YtdgbigkcophjoaaDoor.HelpInt.iv t_29a)) ∧ Hid (wr.ownsRow w.heap.size 3 1 (.slice At_49a t_49a.length ct_49a) t_49a.length (Go.Proofs.YtdgbigkcophjoaaDoor.HelpInt.iv t_49a)) ∧ Hid (wr.ownsRow w.heap.size 3 1 (.slice At_59a t_59a.length ct_59a) t_59a.length (Go.Proofs.YtdgbigkcophjoaaDoor.HelpInt.iv t_59a)) ∧ Hid (wr.ownsRow w.heap.size 3 1 (.slice At_84a t_84a.length ct_84a) t_84a.length (Go.Proofs.YtdgbigkcophjoaaDoor.HelpInt.iv t_84a)) ∧ Hid (Go.Proofs.YtdgbigkcophjoaaDoor.GoN.OwnNest wr (w.heap.size) 27 3 1 Go.Proofs.YtdgbigkcophjoaaDoor.HelpInt.iv At_126a ct_126a t_126a Bt_126a) ∧ Hid (Go.Proofs.YtdgbigkcophjoaaDoor.GoN.OwnNest wr (w.heap.size) 27 3 1 Go.Proofs.YtdgbigkcophjoaaDoor.HelpInt.iv At_133a ct_133a t_133a Bt_133a))
                          case atStart => exact ⟨0, _, by omega, rfl, rfl, H, HBwt_145, Ot_5a, Ot_19a, Ot_29a, Ot_49a, Ot_59a, Ot_84a, Ot_126a, Ot_133a⟩
                          case round =>
                            obtain ⟨k1, sum_23l1, hkm1, rfl, rfl, H, HBwr1, Ot_5a, Ot_19a, Ot_29a, Ot_49a, Ot_59a, Ot_84a, Ot_126a, Ot_133a⟩ := hrel
                            rename World => wr1
                            cases gk with
                            | zero =>
                              obtain rfl : k1 = t_126a.length := by omega
                              have hc1 : decide (((t_126a.length : Nat) : Int) < ((t_126a.length : Nat) : Int)) = false := by simp
                              replace H := cnt_zero H
                              unfold e1 at H
                              replace H := let_hid H
                              obtain ⟨_, rfl, H⟩ := H
                              replace H := join_hid H
                              cases t_126b with
                              | false =>
                                obtain rfl : t_133b = false := by revert ht_141; cases t_133b <;> simp
                                replace H := ite_f H
                                replace H := app_hid H
                                replace H := ite_f H
                                replace H := bind_hid H
                                obtain ⟨t_175, qt_175, H⟩ := H
                                go_wp2_with fail
                                go_at_call 15
                                refine (Go.Proofs.YtdgbigkcophjoaaDoor.GsDrawGaugeText.C tapes (code) A0 c0 _  HE (Lib.hid (Cells.below M0.out HBwr1.out)) N0 V0 qt_175).mono ?_
                                rintro e_t_175 wt_175 ⟨rfl, bt_175⟩
                                have HBwt_175 := Lib.hid (Below.step HBwr1.out bt_175)
                                replace Ot_5a := Lib.hid (own_below Ot_5a.out bt_175)
                                replace Ot_19a := Lib.hid (own_below Ot_19a.out bt_175)
                                replace Ot_29a := Lib.hid (own_below Ot_29a.out bt_175)
                                replace Ot_49a := Lib.hid (own_below Ot_49a.out bt_175)
                                replace Ot_59a := Lib.hid (own_below Ot_59a.out bt_175)
                                replace Ot_84a := Lib.hid (own_below Ot_84a.out bt_175)
                                replace Ot_126a := Lib.hid (Go.Proofs.YtdgbigkcophjoaaDoor.GoN.nest_below Ot_126a.out bt_175)
                                replace Ot_133a := Lib.hid (Go.Proofs.YtdgbigkcophjoaaDoor.GoN.nest_below Ot_133a.out bt_175)
                                clear bt_175
                                replace H := bind2_hid H
                                obtain ⟨t_178a, t_178b, qt_178, H⟩ := H
                                go_wp2_with fail
                                go_at_call 16
                                refine (Go.Proofs.YtdgbigkcophjoaaDoor.GiGaugeText.C (t_175)  _ (tab_below HBwt_175.out HT)   qt_178).mono ?_
                                rintro e_t_178 wt_178 ⟨rfl, bt_178⟩
                                have HBwt_178 := Lib.hid (Below.step HBwt_175.out bt_178)
                                replace Ot_5a := Lib.hid (own_below Ot_5a.out bt_178)
                                replace Ot_19a := Lib.hid (own_below Ot_19a.out bt_178)
                                replace Ot_29a := Lib.hid (own_below Ot_29a.out bt_178)
                                replace Ot_49a := Lib.hid (own_below Ot_49a.out bt_178)
                                replace Ot_59a := Lib.hid (own_below Ot_59a.out bt_178)
                                replace Ot_84a := Lib.hid (own_below Ot_84a.out bt_178)
                                replace Ot_126a := Lib.hid (Go.Proofs.YtdgbigkcophjoaaDoor.GoN.nest_below Ot_126a.out bt_178)
                                replace Ot_133a := Lib.hid (Go.Proofs.YtdgbigkcophjoaaDoor.GoN.nest_below Ot_133a.out bt_178)
                                clear bt_178
                                replace H := bind2_hid H
                                obtain ⟨t_185a, t_185b, qt_185, H⟩ := H
                                go_wp2_with fail
                                go_at_call 17
                                refine (Go.Proofs.YtdgbigkcophjoaaDoor.GsGaugeText.C (t_175)  _    qt_185).mono ?_
                                rintro e_t_185 wt_185 ⟨rfl, bt_185⟩
                                have HBwt_185 := Lib.hid (Below.step HBwt_178.out bt_185)
                                replace Ot_5a := Lib.hid (own_below Ot_5a.out bt_185)
                                replace Ot_19a := Lib.hid (own_below Ot_19a.out bt_185)
                                replace Ot_29a := Lib.hid (own_below Ot_29a.out bt_185)
                                replace Ot_49a := Lib.hid (own_below Ot_49a.out bt_185)
                                replace Ot_59a := Lib.hid (own_below Ot_59a.out bt_185)
                                replace Ot_84a := Lib.hid (own_below Ot_84a.out bt_185)
                                replace Ot_126a := Lib.hid (Go.Proofs.YtdgbigkcophjoaaDoor.GoN.nest_below Ot_126a.out bt_185)
                                replace Ot_133a := Lib.hid (Go.Proofs.YtdgbigkcophjoaaDoor.GoN.nest_below Ot_133a.out bt_185)
                                clear bt_185
                                replace H := bind_hid H
                                obtain ⟨t_192, qt_192, H⟩ := H
                                obtain ⟨t_192_id, t_192_wide, t_192_high, t_192_line⟩ := t_192
                                replace H := unComb_hid H
                                go_wp2_with fail
                                go_at_call 18
                                refine (Go.Proofs.YtdgbigkcophjoaaDoor.GsDrawCombText.C tapes (code) A0 c0 _  HE (Lib.hid (Cells.below M0.out HBwt_185.out)) N0 V0 qt_192).mono ?_
                                rintro e_t_192 wt_192 ⟨rfl, bt_192⟩
                                unfold Go.Proofs.YtdgbigkcophjoaaDoor.PComb.Comb.val
                                have HBwt_192 := Lib.hid (Below.step HBwt_185.out bt_192)
                                replace Ot_5a := Lib.hid (own_below Ot_5a.out bt_192)
                                replace Ot_19a := Lib.hid (own_below Ot_19a.out bt_192)
                                replace Ot_29a := Lib.hid (own_below Ot_29a.out bt_192)
                                replace Ot_49a := Lib.hid (own_below Ot_49a.out bt_192)
                                replace Ot_59a := Lib.hid (own_below Ot_59a.out bt_192)
                                replace Ot_84a := Lib.hid (own_below Ot_84a.out bt_192)
                                replace Ot_126a := Lib.hid (Go.Proofs.YtdgbigkcophjoaaDoor.GoN.nest_below Ot_126a.out bt_192)
                                replace Ot_133a := Lib.hid (Go.Proofs.YtdgbigkcophjoaaDoor.GoN.nest_below Ot_133a.out bt_192)
                                clear bt_192
                                obtain ⟨w_x_193, hw_x_193⟩ : ∃ x, wt_192.alloc (.cells #[.int .i64 t_192_id, .int .i64 t_192_wide, .int .i64 t_192_high, .bool t_192_line] 32) = x := ⟨_, rfl⟩
                                have bw_x_193 : Below wt_192.heap.size wt_192 w_x_193 := by rw [← hw_x_193]; exact (Below.refl _ _).alloc (Nat.le_refl _) _
                                have Dx_193_t_5a := Lib.hid (apart_fresh Ot_5a.out)
                                have Dx_193_t_19a := Lib.hid (apart_fresh Ot_19a.out)
                                have Dx_193_t_29a := Lib.hid (apart_fresh Ot_29a.out)
                                have Dx_193_t_49a := Lib.hid (apart_fresh Ot_49a.out)
                                have Dx_193_t_59a := Lib.hid (apart_fresh Ot_59a.out)
                                have Dx_193_t_84a := Lib.hid (apart_fresh Ot_84a.out)
                                have Dx_193_t_126a := Lib.hid (Go.Proofs.YtdgbigkcophjoaaDoor.GoN.nest_fresh Ot_126a.out)
                                have Dx_193_t_133a := Lib.hid (Go.Proofs.YtdgbigkcophjoaaDoor.GoN.nest_fresh Ot_133a.out)
                                have HBw_x_193 := Lib.hid (Below.step HBwt_192.out bw_x_193)
                                replace Ot_5a := Lib.hid (own_below Ot_5a.out bw_x_193)
                                replace Ot_19a := Lib.hid (own_below Ot_19a.out bw_x_193)
                                replace Ot_29a := Lib.hid (own_below Ot_29a.out bw_x_193)
                                replace Ot_49a := Lib.hid (own_below Ot_49a.out bw_x_193)
                                replace Ot_59a := Lib.hid (own_below Ot_59a.out bw_x_193)
                                replace Ot_84a := Lib.hid (own_below Ot_84a.out bw_x_193)
                                replace Ot_126a := Lib.hid (Go.Proofs.YtdgbigkcophjoaaDoor.GoN.nest_below Ot_126a.out bw_x_193)
                                replace Ot_133a := Lib.hid (Go.Proofs.YtdgbigkcophjoaaDoor.GoN.nest_below Ot_133a.out bw_x_193)
                                clear bw_x_193
                                have kx_193_0 : w_x_193.cell? ⟨wt_192.heap.size, 0, none⟩ = some (.int .i64 t_192_id) := by rw [← hw_x_193]; exact box_new _ _ _ 0 _ rfl
                                have kx_193_1 : w_x_193.cell? ⟨wt_192.heap.size, 1, none⟩ = some (.int .i64 t_192_wide) := by rw [← hw_x_193]; exact box_new _ _ _ 1 _ rfl
                                have kx_193_2 : w_x_193.cell? ⟨wt_192.heap.size, 2, none⟩ = some (.int .i64 t_192_high) := by rw [← hw_x_193]; exact box_new _ _ _ 2 _ rfl
                                have kx_193_3 : w_x_193.cell? ⟨wt_192.heap.size, 3, none⟩ = some (.bool t_192_line) := by rw [← hw_x_193]; exact box_new _ _ _ 3 _ rfl
                                replace H := bind2_hid H
                                obtain ⟨t_196a, t_196b, qt_196, H⟩ := H
                                go_wp2_with fail
                                go_at_call 19
                                refine (Go.Proofs.YtdgbigkcophjoaaDoor.GiCombText.C ((Go.Proofs.YtdgbigkcophjoaaDoor.PComb.Comb.mk t_192_id t_192_wide t_192_high t_192_line))  _ (tab_below HBw_x_193.out HT)   qt_196).mono ?_
                                rintro e_t_196 wt_196 ⟨rfl, bt_196⟩
                                have HBwt_196 := Lib.hid (Below.step HBw_x_193.out bt_196)
                                replace kx_193_0 := cell_below bt_196 kx_193_0
                                replace kx_193_1 := cell_below bt_196 kx_193_1
                                replace kx_193_2 := cell_below bt_196 kx_193_2
                                replace kx_193_3 := cell_below bt_196 kx_193_3
                                replace Ot_5a := Lib.hid (own_below Ot_5a.out bt_196)
                                replace Ot_19a := Lib.hid (own_below Ot_19a.out bt_196)
                                replace Ot_29a := Lib.hid (own_below Ot_29a.out bt_196)
                                replace Ot_49a := Lib.hid (own_below Ot_49a.out bt_196)
                                replace Ot_59a := Lib.hid (own_below Ot_59a.out bt_196)
                                replace Ot_84a := Lib.hid (own_below Ot_84a.out bt_196)
                                replace Ot_126a := Lib.hid (Go.Proofs.YtdgbigkcophjoaaDoor.GoN.nest_below Ot_126a.out bt_196)
                                replace Ot_133a := Lib.hid (Go.Proofs.YtdgbigkcophjoaaDoor.GoN.nest_below Ot_133a.out bt_196)
                                clear bt_196
                                replace H := bind2_hid H
                                obtain ⟨t_203a, t_203b, qt_203, H⟩ := H
                                go_wp2_with fail
                                go_at_call 20
                                refine (Go.Proofs.YtdgbigkcophjoaaDoor.GsCombText.C ((Go.Proofs.YtdgbigkcophjoaaDoor.PComb.Comb.mk t_192_id t_192_wide t_192_high t_192_line))  _    qt_203).mono ?_
                                rintro e_t_203 wt_203 ⟨rfl, bt_203⟩
                                have HBwt_203 := Lib.hid (Below.step HBwt_196.out bt_203)
                                replace kx_193_0 := cell_below bt_203 kx_193_0
                                replace kx_193_1 := cell_below bt_203 kx_193_1
                                replace kx_193_2 := cell_below bt_203 kx_193_2
                                replace kx_193_3 := cell_below bt_203 kx_193_3
                                replace Ot_5a := Lib.hid (own_below Ot_5a.out bt_203)
                                replace Ot_19a := Lib.hid (own_below Ot_19a.out bt_203)
                                replace Ot_29a := Lib.hid (own_below Ot_29a.out bt_203)
                                replace Ot_49a := Lib.hid (own_below Ot_49a.out bt_203)
                                replace Ot_59a := Lib.hid (own_below Ot_59a.out bt_203)
                                replace Ot_84a := Lib.hid (own_below Ot_84a.out bt_203)
                                replace Ot_126a := Lib.hid (Go.Proofs.YtdgbigkcophjoaaDoor.GoN.nest_below Ot_126a.out bt_203)
                                replace Ot_133a := Lib.hid (Go.Proofs.YtdgbigkcophjoaaDoor.GoN.nest_below Ot_133a.out bt_203)
                                clear bt_203
                                replace H := let_hid H
                                obtain ⟨t_211, ht_211, H⟩ := H
                                replace H := join_hid H
                                cases t_211 with
                                | false =>
                                  replace H := ite_f H
                                  replace H := app_hid H
                                  replace H := join_hid H
                                  replace H := ite_f H
                                  replace H := app_hid H
                                  replace H := join_hid H
                                  replace H := ite_f H
                                  replace H := app_hid H
                                  replace H := join_hid H
                                  replace H := ite_f H
                                  replace H := app_hid H
                                  obtain rfl := ret_hid H
                                  go_wp2_with fail
                                  go_ret
                                  exact ⟨rfl, HBwt_203.out⟩
                                | true =>
                                  replace H := ite_t H
                                  replace H := let_hid H
                                  obtain ⟨t_215, ht_215, H⟩ := H
                                  replace H := app_hid H
                                  replace H := join_hid H
                                  cases t_215 with
                                  | false =>
                                    replace H := ite_f H
                                    replace H := app_hid H
                                    replace H := join_hid H
                                    replace H := ite_f H
                                    replace H := app_hid H
                                    replace H := join_hid H
                                    replace H := ite_f H
                                    replace H := app_hid H
                                    obtain rfl := ret_hid H
                                    go_wp2_with fail
                                    go_ret
                                    exact ⟨rfl, HBwt_203.out⟩
                                  | true =>
                                    replace H := ite_t H
                                    replace H := let_hid H
                                    obtain ⟨t_220, ht_220, H⟩ := H
                                    replace H := app_hid H
                                    replace H := join_hid H
                                    cases t_220 with
                                    | false =>
                                      replace H := ite_f H
                                      replace H := app_hid H
                                      replace H := join_hid H
                                      replace H := ite_f H
                                      replace H := app_hid H
                                      obtain rfl := ret_hid H
                                      go_wp2_with fail
                                      go_ret
                                      exact ⟨rfl, HBwt_203.out⟩
                                    | true =>
                                      replace H := ite_t H
                                      replace H := let_hid H
                                      obtain ⟨t_225, ht_225, H⟩ := H
                                      replace H := app_hid H
                                      replace H := join_hid H
                                      cases t_225 with
                                      | false =>
                                        replace H := ite_f H
                                        replace H := app_hid H
                                        obtain rfl := ret_hid H
                                        go_wp2_with fail
                                        go_ret
                                        exact ⟨rfl, HBwt_203.out⟩
                                      | true =>
                                        replace H := ite_t H
                                        replace H := bind_hid H
                                        obtain ⟨t_229, qt_229, H⟩ := H
                                        go_wp2_with fail
                                        go_at_call 21
                                        refine (Go.Proofs.YtdgbigkcophjoaaDoor.GiAreCombs.C (t_5a) At_5a ct_5a _   (Lib.hid (own_cells Ot_5a.out)) (Lib.hid (own_max Ot_5a.out)) qt_229).mono ?_
                                        rintro e_t_229 wt_229 ⟨rfl, bt_229⟩
                                        have HBwt_229 := Lib.hid (Below.step HBwt_203.out bt_229)
                                        replace kx_193_0 := cell_below bt_229 kx_193_0
                                        replace kx_193_1 := cell_below bt_229 kx_193_1
                                        replace kx_193_2 := cell_below bt_229 kx_193_2
                                        replace kx_193_3 := cell_below bt_229 kx_193_3
                                        replace Ot_5a := Lib.hid (own_below Ot_5a.out bt_229)
                                        replace Ot_19a := Lib.hid (own_below Ot_19a.out bt_229)
                                        replace Ot_29a := Lib.hid (own_below Ot_29a.out bt_229)
                                        replace Ot_49a := Lib.hid (own_below Ot_49a.out bt_229)
                                        replace Ot_59a := Lib.hid (own_below Ot_59a.out bt_229)
                                        replace Ot_84a := Lib.hid (own_below Ot_84a.out bt_229)
                                        replace Ot_126a := Lib.hid (Go.Proofs.YtdgbigkcophjoaaDoor.GoN.nest_below Ot_126a.out bt_229)
                                        replace Ot_133a := Lib.hid (Go.Proofs.YtdgbigkcophjoaaDoor.GoN.nest_below Ot_133a.out bt_229)
                                        clear bt_229
                                        replace H := bind_hid H
                                        obtain ⟨t_231, qt_231, H⟩ := H
                                        go_wp2_with fail
                                        go_at_call 22
                                        refine (Go.Proofs.YtdgbigkcophjoaaDoor.GsAreCombs.C (t_5a) At_5a ct_5a _   (Lib.hid (own_cells Ot_5a.out)) (Lib.hid (own_max Ot_5a.out)) qt_231).mono ?_
                                        rintro e_t_231 wt_231 ⟨rfl, bt_231⟩
                                        have HBwt_231 := Lib.hid (Below.step HBwt_229.out bt_231)
                                        replace kx_193_0 := cell_below bt_231 kx_193_0
                                        replace kx_193_1 := cell_below bt_231 kx_193_1
                                        replace kx_193_2 := cell_below bt_231 kx_193_2
                                        replace kx_193_3 := cell_below bt_231 kx_193_3
                                        replace Ot_5a := Lib.hid (own_below Ot_5a.out bt_231)
                                        replace Ot_19a := Lib.hid (own_below Ot_19a.out bt_231)
                                        replace Ot_29a := Lib.hid (own_below Ot_29a.out bt_231)
                                        replace Ot_49a := Lib.hid (own_below Ot_49a.out bt_231)
                                        replace Ot_59a := Lib.hid (own_below Ot_59a.out bt_231)
                                        replace Ot_84a := Lib.hid (own_below Ot_84a.out bt_231)
                                        replace Ot_126a := Lib.hid (Go.Proofs.YtdgbigkcophjoaaDoor.GoN.nest_below Ot_126a.out bt_231)
                                        replace Ot_133a := Lib.hid (Go.Proofs.YtdgbigkcophjoaaDoor.GoN.nest_below Ot_133a.out bt_231)
                                        clear bt_231
                                        replace H := let_hid H
                                        obtain ⟨t_232, ht_232, H⟩ := H
                                        replace H := app_hid H
                                        obtain rfl := ret_hid H
                                        go_wp2_with fail
                                        go_ret
                                        exact ⟨rfl, HBwt_231.out⟩
                              | true =>
                                obtain rfl : t_133b = true := by revert ht_141; cases t_133b <;> simp
                                replace H := ite_t H
                                replace H := let_hid H
                                obtain ⟨t_171, ht_171, H⟩ := H
                                replace H := app_hid H
                                cases t_171 with
                                | false =>
                                  replace H := ite_f H
                                  replace H := bind_hid H
                                  obtain ⟨t_175, qt_175, H⟩ := H
                                  go_wp2_with fail
                                  go_at_call 15
                                  refine (Go.Proofs.YtdgbigkcophjoaaDoor.GsDrawGaugeText.C tapes (code) A0 c0 _  HE (Lib.hid (Cells.below M0.out HBwr1.out)) N0 V0 qt_175).mono ?_
                                  rintro e_t_175 wt_175 ⟨rfl, bt_175⟩
                                  have HBwt_175 := Lib.hid (Below.step HBwr1.out bt_175)
                                  replace Ot_5a := Lib.hid (own_below Ot_5a.out bt_175)
                                  replace Ot_19a := Lib.hid (own_below Ot_19a.out bt_175)
                                  replace Ot_29a := Lib.hid (own_below Ot_29a.out bt_175)
                                  replace Ot_49a := Lib.hid (own_below Ot_49a.out bt_175)
                                  replace Ot_59a := Lib.hid (own_below Ot_59a.out bt_175)
                                  replace Ot_84a := Lib.hid (own_below Ot_84a.out bt_175)
                                  replace Ot_126a := Lib.hid (Go.Proofs.YtdgbigkcophjoaaDoor.GoN.nest_below Ot_126a.out bt_175)
                                  replace Ot_133a := Lib.hid (Go.Proofs.YtdgbigkcophjoaaDoor.GoN.nest_below Ot_133a.out bt_175)
                                  clear bt_175
                                  replace H := bind2_hid H
                                  obtain ⟨t_178a, t_178b, qt_178, H⟩ := H
                                  go_wp2_with fail
                                  go_at_call 16
                                  refine (Go.Proofs.YtdgbigkcophjoaaDoor.GiGaugeText.C (t_175)  _ (tab_below HBwt_175.out HT)   qt_178).mono ?_
                                  rintro e_t_178 wt_178 ⟨rfl, bt_178⟩
                                  have HBwt_178 := Lib.hid (Below.step HBwt_175.out bt_178)
                                  replace Ot_5a := Lib.hid (own_below Ot_5a.out bt_178)
                                  replace Ot_19a := Lib.hid (own_below Ot_19a.out bt_178)
                                  replace Ot_29a := Lib.hid (own_below Ot_29a.out bt_178)
                                  replace Ot_49a := Lib.hid (own_below Ot_49a.out bt_178)
                                  replace Ot_59a := Lib.hid (own_below Ot_59a.out bt_178)
                                  replace Ot_84a := Lib.hid (own_below Ot_84a.out bt_178)
                                  replace Ot_126a := Lib.hid (Go.Proofs.YtdgbigkcophjoaaDoor.GoN.nest_below Ot_126a.out bt_178)
                                  replace Ot_133a := Lib.hid (Go.Proofs.YtdgbigkcophjoaaDoor.GoN.nest_below Ot_133a.out bt_178)
                                  clear bt_178
                                  replace H := bind2_hid H
                                  obtain ⟨t_185a, t_185b, qt_185, H⟩ := H
                                  go_wp2_with fail
                                  go_at_call 17
                                  refine (Go.Proofs.YtdgbigkcophjoaaDoor.GsGaugeText.C (t_175)  _    qt_185).mono ?_
                                  rintro e_t_185 wt_185 ⟨rfl, bt_185⟩
                                  have HBwt_185 := Lib.hid (Below.step HBwt_178.out bt_185)
                                  replace Ot_5a := Lib.hid (own_below Ot_5a.out bt_185)
                                  replace Ot_19a := Lib.hid (own_below Ot_19a.out bt_185)
                                  replace Ot_29a := Lib.hid (own_below Ot_29a.out bt_185)
                                  replace Ot_49a := Lib.hid (own_below Ot_49a.out bt_185)
                                  replace Ot_59a := Lib.hid (own_below Ot_59a.out bt_185)
                                  replace Ot_84a := Lib.hid (own_below Ot_84a.out bt_185)
                                  replace Ot_126a := Lib.hid (Go.Proofs.YtdgbigkcophjoaaDoor.GoN.nest_below Ot_126a.out bt_185)
                                  replace Ot_133a := Lib.hid (Go.Proofs.YtdgbigkcophjoaaDoor.GoN.nest_below Ot_133a.out bt_185)
                                  clear bt_185
                                  replace H := bind_hid H
                                  obtain ⟨t_192, qt_192, H⟩ := H
                                  obtain ⟨t_192_id, t_192_wide, t_192_high, t_192_line⟩ := t_192
                                  replace H := unComb_hid H
                                  go_wp2_with fail
                                  go_at_call 18
                                  refine (Go.Proofs.YtdgbigkcophjoaaDoor.GsDrawCombText.C tapes (code) A0 c0 _  HE (Lib.hid (Cells.below M0.out HBwt_185.out)) N0 V0 qt_192).mono ?_
                                  rintro e_t_192 wt_192 ⟨rfl, bt_192⟩
                                  unfold Go.Proofs.YtdgbigkcophjoaaDoor.PComb.Comb.val
                                  have HBwt_192 := Lib.hid (Below.step HBwt_185.out bt_192)
                                  replace Ot_5a := Lib.hid (own_below Ot_5a.out bt_192)
                                  replace Ot_19a := Lib.hid (own_below Ot_19a.out bt_192)
                                  replace Ot_29a := Lib.hid (own_below Ot_29a.out bt_192)
                                  replace Ot_49a := Lib.hid (own_below Ot_49a.out bt_192)
                                  replace Ot_59a := Lib.hid (own_below Ot_59a.out bt_192)
                                  replace Ot_84a := Lib.hid (own_below Ot_84a.out bt_192)
                                  replace Ot_126a := Lib.hid (Go.Proofs.YtdgbigkcophjoaaDoor.GoN.nest_below Ot_126a.out bt_192)
                                  replace Ot_133a := Lib.hid (Go.Proofs.YtdgbigkcophjoaaDoor.GoN.nest_below Ot_133a.out bt_192)
                                  clear bt_192
                                  obtain ⟨w_x_193, hw_x_193⟩ : ∃ x, wt_192.alloc (.cells #[.int .i64 t_192_id, .int .i64 t_192_wide, .int .i64 t_192_high, .bool t_192_line] 32) = x := ⟨_, rfl⟩
                                  have bw_x_193 : Below wt_192.heap.size wt_192 w_x_193 := by rw [← hw_x_193]; exact (Below.refl _ _).alloc (Nat.le_refl _) _
                                  have Dx_193_t_5a := Lib.hid (apart_fresh Ot_5a.out)
                                  have Dx_193_t_19a := Lib.hid (apart_fresh Ot_19a.out)
                                  have Dx_193_t_29a := Lib.hid (apart_fresh Ot_29a.out)
                                  have Dx_193_t_49a := Lib.hid (apart_fresh Ot_49a.out)
                                  have Dx_193_t_59a := Lib.hid (apart_fresh Ot_59a.out)
                                  have Dx_193_t_84a := Lib.hid (apart_fresh Ot_84a.out)
                                  have Dx_193_t_126a := Lib.hid (Go.Proofs.YtdgbigkcophjoaaDoor.GoN.nest_fresh Ot_126a.out)
                                  have Dx_193_t_133a := Lib.hid (Go.Proofs.YtdgbigkcophjoaaDoor.GoN.nest_fresh Ot_133a.out)
                                  have HBw_x_193 := Lib.hid (Below.step HBwt_192.out bw_x_193)
                                  replace Ot_5a := Lib.hid (own_below Ot_5a.out bw_x_193)
                                  replace Ot_19a := Lib.hid (own_below Ot_19a.out bw_x_193)
                                  replace Ot_29a := Lib.hid (own_below Ot_29a.out bw_x_193)
                                  replace Ot_49a := Lib.hid (own_below Ot_49a.out bw_x_193)
                                  replace Ot_59a := Lib.hid (own_below Ot_59a.out bw_x_193)
                                  replace Ot_84a := Lib.hid (own_below Ot_84a.out bw_x_193)
                                  replace Ot_126a := Lib.hid (Go.Proofs.YtdgbigkcophjoaaDoor.GoN.nest_below Ot_126a.out bw_x_193)
                                  replace Ot_133a := Lib.hid (Go.Proofs.YtdgbigkcophjoaaDoor.GoN.nest_below Ot_133a.out bw_x_193)
                                  clear bw_x_193
                                  have kx_193_0 : w_x_193.cell? ⟨wt_192.heap.size, 0, none⟩ = some (.int .i64 t_192_id) := by rw [← hw_x_193]; exact box_new _ _ _ 0 _ rfl
                                  have kx_193_1 : w_x_193.cell? ⟨wt_192.heap.size, 1, none⟩ = some (.int .i64 t_192_wide) := by rw [← hw_x_193]; exact box_new _ _ _ 1 _ rfl
                                  have kx_193_2 : w_x_193.cell? ⟨wt_192.heap.size, 2, none⟩ = some (.int .i64 t_192_high) := by rw [← hw_x_193]; exact box_new _ _ _ 2 _ rfl
                                  have kx_193_3 : w_x_193.cell? ⟨wt_192.heap.size, 3, none⟩ = some (.bool t_192_line) := by rw [← hw_x_193]; exact box_new _ _ _ 3 _ rfl
                                  replace H := bind2_hid H
                                  obtain ⟨t_196a, t_196b, qt_196, H⟩ := H
                                  go_wp2_with fail
                                  go_at_call 19
                                  refine (Go.Proofs.YtdgbigkcophjoaaDoor.GiCombText.C ((Go.Proofs.YtdgbigkcophjoaaDoor.PComb.Comb.mk t_192_id t_192_wide t_192_high t_192_line))  _ (tab_below HBw_x_193.out HT)   qt_196).mono ?_
                                  rintro e_t_196 wt_196 ⟨rfl, bt_196⟩
                                  have HBwt_196 := Lib.hid (Below.step HBw_x_193.out bt_196)
                                  replace kx_193_0 := cell_below bt_196 kx_193_0
                                  replace kx_193_1 := cell_below bt_196 kx_193_1
                                  replace kx_193_2 := cell_below bt_196 kx_193_2
                                  replace kx_193_3 := cell_below bt_196 kx_193_3
                                  replace Ot_5a := Lib.hid (own_below Ot_5a.out bt_196)
                                  replace Ot_19a := Lib.hid (own_below Ot_19a.out bt_196)
                                  replace Ot_29a := Lib.hid (own_below Ot_29a.out bt_196)
                                  replace Ot_49a := Lib.hid (own_below Ot_49a.out bt_196)
                                  replace Ot_59a := Lib.hid (own_below Ot_59a.out bt_196)
                                  replace Ot_84a := Lib.hid (own_below Ot_84a.out bt_196)
                                  replace Ot_126a := Lib.hid (Go.Proofs.YtdgbigkcophjoaaDoor.GoN.nest_below Ot_126a.out bt_196)
                                  replace Ot_133a := Lib.hid (Go.Proofs.YtdgbigkcophjoaaDoor.GoN.nest_below Ot_133a.out bt_196)
                                  clear bt_196
                                  replace H := bind2_hid H
                                  obtain ⟨t_203a, t_203b, qt_203, H⟩ := H
                                  go_wp2_with fail
                                  go_at_call 20
                                  refine (Go.Proofs.YtdgbigkcophjoaaDoor.GsCombText.C ((Go.Proofs.YtdgbigkcophjoaaDoor.PComb.Comb.mk t_192_id t_192_wide t_192_high t_192_line))  _    qt_203).mono ?_
                                  rintro e_t_203 wt_203 ⟨rfl, bt_203⟩
                                  have HBwt_203 := Lib.hid (Below.step HBwt_196.out bt_203)
                                  replace kx_193_0 := cell_below bt_203 kx_193_0
                                  replace kx_193_1 := cell_below bt_203 kx_193_1
                                  replace kx_193_2 := cell_below bt_203 kx_193_2
                                  replace kx_193_3 := cell_below bt_203 kx_193_3
                                  replace Ot_5a := Lib.hid (own_below Ot_5a.out bt_203)
                                  replace Ot_19a := Lib.hid (own_below Ot_19a.out bt_203)
                                  replace Ot_29a := Lib.hid (own_below Ot_29a.out bt_203)
                                  replace Ot_49a := Lib.hid (own_below Ot_49a.out bt_203)
                                  replace Ot_59a := Lib.hid (own_below Ot_59a.out bt_203)
                                  replace Ot_84a := Lib.hid (own_below Ot_84a.out bt_203)
                                  replace Ot_126a := Lib.hid (Go.Proofs.YtdgbigkcophjoaaDoor.GoN.nest_below Ot_126a.out bt_203)
                                  replace Ot_133a := Lib.hid (Go.Proofs.YtdgbigkcophjoaaDoor.GoN.nest_below Ot_133a.out bt_203)
                                  clear bt_203
                                  replace H := let_hid H
                                  obtain ⟨t_211, ht_211, H⟩ := H
                                  replace H := join_hid H
                                  cases t_211 with
                                  | false =>
                                    replace H := ite_f H
                                    replace H := app_hid H
                                    replace H := join_hid H
                                    replace H := ite_f H
                                    replace H := app_hid H
                                    replace H := join_hid H
                                    replace H := ite_f H
                                    replace H := app_hid H
                                    replace H := join_hid H
                                    replace H := ite_f H
                                    replace H := app_hid H
                                    obtain rfl := ret_hid H
                                    go_wp2_with fail
                                    go_ret
                                    exact ⟨rfl, HBwt_203.out⟩
                                  | true =>
                                    replace H := ite_t H
                                    replace H := let_hid H
                                    obtain ⟨t_215, ht_215, H⟩ := H
                                    replace H := app_hid H
                                    replace H := join_hid H
                                    cases t_215 with
                                    | false =>
                                      replace H := ite_f H
                                      replace H := app_hid H
                                      replace H := join_hid H
                                      replace H := ite_f H
                                      replace H := app_hid H
                                      replace H := join_hid H
                                      replace H := ite_f H
                                      replace H := app_hid H
                                      obtain rfl := ret_hid H
                                      go_wp2_with fail
                                      go_ret
                                      exact ⟨rfl, HBwt_203.out⟩
                                    | true =>
                                      replace H := ite_t H
                                      replace H := let_hid H
                                      obtain ⟨t_220, ht_220, H⟩ := H
                                      replace H := app_hid H
                                      replace H := join_hid H
                                      cases t_220 with
                                      | false =>
                                        replace H := ite_f H
                                        replace H := app_hid H
                                        replace H := join_hid H
                                        replace H := ite_f H
                                        replace H := app_hid H
                                        obtain rfl := ret_hid H
                                        go_wp2_with fail
                                        go_ret
                                        exact ⟨rfl, HBwt_203.out⟩
                                      | true =>
                                        replace H := ite_t H
                                        replace H := let_hid H
                                        obtain ⟨t_225, ht_225, H⟩ := H
                                        replace H := app_hid H
                                        replace H := join_hid H
                                        cases t_225 with
                                        | false =>
                                          replace H := ite_f H
                                          replace H := app_hid H
                                          obtain rfl := ret_hid H
                                          go_wp2_with fail
                                          go_ret
                                          exact ⟨rfl, HBwt_203.out⟩
                                        | true =>
                                          replace H := ite_t H
                                          replace H := bind_hid H
                                          obtain ⟨t_229, qt_229, H⟩ := H
                                          go_wp2_with fail
                                          go_at_call 21
                                          refine (Go.Proofs.YtdgbigkcophjoaaDoor.GiAreCombs.C (t_5a) At_5a ct_5a _   (Lib.hid (own_cells Ot_5a.out)) (Lib.hid (own_max Ot_5a.out)) qt_229).mono ?_
                                          rintro e_t_229 wt_229 ⟨rfl, bt_229⟩
                                          have HBwt_229 := Lib.hid (Below.step HBwt_203.out bt_229)
                                          replace kx_193_0 := cell_below bt_229 kx_193_0
                                          replace kx_193_1 := cell_below bt_229 kx_193_1
                                          replace kx_193_2 := cell_below bt_229 kx_193_2
                                          replace kx_193_3 := cell_below bt_229 kx_193_3
                                          replace Ot_5a := Lib.hid (own_below Ot_5a.out bt_229)
                                          replace Ot_19a := Lib.hid (own_below Ot_19a.out bt_229)
                                          replace Ot_29a := Lib.hid (own_below Ot_29a.out bt_229)
                                          replace Ot_49a := Lib.hid (own_below Ot_49a.out bt_229)
                                          replace Ot_59a := Lib.hid (own_below Ot_59a.out bt_229)
                                          replace Ot_84a := Lib.hid (own_below Ot_84a.out bt_229)
                                          replace Ot_126a := Lib.hid (Go.Proofs.YtdgbigkcophjoaaDoor.GoN.nest_below Ot_126a.out bt_229)
                                          replace Ot_133a := Lib.hid (Go.Proofs.YtdgbigkcophjoaaDoor.GoN.nest_below Ot_133a.out bt_229)
                                          clear bt_229
                                          replace H := bind_hid H
                                          obtain ⟨t_231, qt_231, H⟩ := H
                                          go_wp2_with fail
                                          go_at_call 22
                                          refine (Go.Proofs.YtdgbigkcophjoaaDoor.GsAreCombs.C (t_5a) At_5a ct_5a _   (Lib.hid (own_cells Ot_5a.out)) (Lib.hid (own_max Ot_5a.out)) qt_231).mono ?_
                                          rintro e_t_231 wt_231 ⟨rfl, bt_231⟩
                                          have HBwt_231 := Lib.hid (Below.step HBwt_229.out bt_231)
                                          replace kx_193_0 := cell_below bt_231 kx_193_0
                                          replace kx_193_1 := cell_below bt_231 kx_193_1
                                          replace kx_193_2 := cell_below bt_231 kx_193_2
                                          replace kx_193_3 := cell_below bt_231 kx_193_3
                                          replace Ot_5a := Lib.hid (own_below Ot_5a.out bt_231)
                                          replace Ot_19a := Lib.hid (own_below Ot_19a.out bt_231)
                                          replace Ot_29a := Lib.hid (own_below Ot_29a.out bt_231)
                                          replace Ot_49a := Lib.hid (own_below Ot_49a.out bt_231)
                                          replace Ot_59a := Lib.hid (own_below Ot_59a.out bt_231)
                                          replace Ot_84a := Lib.hid (own_below Ot_84a.out bt_231)
                                          replace Ot_126a := Lib.hid (Go.Proofs.YtdgbigkcophjoaaDoor.GoN.nest_below Ot_126a.out bt_231)
                                          replace Ot_133a := Lib.hid (Go.Proofs.YtdgbigkcophjoaaDoor.GoN.nest_below Ot_133a.out bt_231)
                                          clear bt_231
                                          replace H := let_hid H
                                          obtain ⟨t_232, ht_232, H⟩ := H
                                          replace H := app_hid H
                                          obtain rfl := ret_hid H
                                          go_wp2_with fail
                                          go_ret
                                          exact ⟨rfl, HBwt_231.out⟩
                                | true =>
                                  replace H := ite_t H
                                  obtain rfl := ret_hid H
                                  go_wp2_with fail
                                  go_ret
                                  exact ⟨rfl, HBwr1.out⟩
                            | succ m1 =>
                              have hlt1 : k1 < t_126a.length := by omega
                              have hc1 : decide ((k1 : Int) < ((t_126a.length : Nat) : Int)) = true := by simp; omega
                              replace H := cnt_succ H
                              unfold l1 at H
                              replace H := let_hid H
                              obtain ⟨_, rfl, H⟩ := H
                              replace H := idx_hid H
                              obtain ⟨nt_158, yt_158, et_158, lt_158, gt_158, H⟩ := H
                              obtain rfl : k1 = nt_158 := by omega
                              clear et_158
                              obtain ⟨gt_158_, zt_158, Art_158, crt_158, eAt_158, zzt_158, hct_158, hot_158, hmt_158, hat_158⟩ := Go.Proofs.YtdgbigkcophjoaaDoor.GoN.nest_own Ot_126a.out (k := k1) lt_158
                              obtain rfl := Option.some.inj (gt_158.out.symm.trans zzt_158)
                              clear zzt_158
                              subst eAt_158
                              have Ort_158 := Lib.hid hot_158
                              have mrt_158 := Lib.hid hmt_158
                              clear hot_158 hmt_158 hat_158
                              have b0t_158 : (0 : Int) ≤ (k1 : Int) := by omega
                              have b1t_158 : (k1 : Int) < ((t_126a.length : Nat) : Int) := by omega
                              have b2t_158 : ((k1 : Int)).toNat = k1 := by omega
                              replace H := let_hid H
                              obtain ⟨t_161, ht_161, H⟩ := H
                              replace H := app_hid H
                              go_wp2_with fail
                              go_roundg m1
                              case measure => omega
                              case rel => exact ⟨k1 + 1, _, by omega, by go_num, rfl, H, HBwr1, Ot_5a, Ot_19a, Ot_29a, Ot_49a, Ot_59a, Ot_84a, Ot_126a, Ot_133a⟩
                      | true =>
                        replace H := ite_t H
                        replace H := app_hid H
                        replace H := ite_t H
                        obtain rfl := ret_hid H
                        go_wp2_with fail
                        go_ret
                        exact ⟨rfl, HBwt_133.out⟩
                    | true =>
                      replace H := ite_t H
                      replace H := app_hid H
                      cases t_19b with
                      | false =>
                        obtain rfl : t_29b = false := by revert ht_37; cases t_29b <;> simp
                        obtain rfl : t_49b = false := by revert ht_71; cases t_49b <;> simp
                        obtain rfl : t_59b = false := by revert ht_67; cases t_59b <;> simp
                        obtain rfl : t_84b = false := by revert ht_92; cases t_84b <;> simp
                        replace H := ite_f H
                        replace H := app_hid H
                        unfold e0 at H
                        replace H := let_hid H
                        obtain ⟨_, rfl, H⟩ := H
                        replace H := bind2_hid H
                        obtain ⟨t_126a, t_126b, qt_126, H⟩ := H
                        go_wp2_with fail
                        go_at_call 12
                        refine (Go.Proofs.YtdgbigkcophjoaaDoor.GiSameGauges.C (t_5a) At_5a ct_5a _   (Lib.hid (own_cells Ot_5a.out)) (Lib.hid (own_max Ot_5a.out)) (Lib.hid (own_room Ot_5a.out)) qt_126).mono ?_
                        rintro e_t_126 wt_126 ⟨At_126a, ct_126a, rfl, ⟨Bt_126a, ot_126a⟩, bt_126⟩
                        have Dt_126a_t_5a := Lib.hid (Go.Proofs.YtdgbigkcophjoaaDoor.GoN.nest_callrow ot_126a Ot_5a.out)
                        have Dt_126a_t_19a := Lib.hid (Go.Proofs.YtdgbigkcophjoaaDoor.GoN.nest_callrow ot_126a Ot_19a.out)
                        have Dt_126a_t_29a := Lib.hid (Go.Proofs.YtdgbigkcophjoaaDoor.GoN.nest_callrow ot_126a Ot_29a.out)
                        have Dt_126a_t_49a := Lib.hid (Go.Proofs.YtdgbigkcophjoaaDoor.GoN.nest_callrow ot_126a Ot_49a.out)
                        have Dt_126a_t_59a := Lib.hid (Go.Proofs.YtdgbigkcophjoaaDoor.GoN.nest_callrow ot_126a Ot_59a.out)
                        have Dt_126a_t_84a := Lib.hid (Go.Proofs.YtdgbigkcophjoaaDoor.GoN.nest_callrow ot_126a Ot_84a.out)
                        have Ot_126a := Lib.hid (Go.Proofs.YtdgbigkcophjoaaDoor.GoN.nest_lower ot_126a HBwr0.out.size)
                        clear ot_126a
                        have HBwt_126 := Lib.hid (Below.step HBwr0.out bt_126)
                        replace Ot_5a := Lib.hid (own_below Ot_5a.out bt_126)
                        replace Ot_19a := Lib.hid (own_below Ot_19a.out bt_126)
                        replace Ot_29a := Lib.hid (own_below Ot_29a.out bt_126)
                        replace Ot_49a := Lib.hid (own_below Ot_49a.out bt_126)
                        replace Ot_59a := Lib.hid (own_below Ot_59a.out bt_126)
                        replace Ot_84a := Lib.hid (own_below Ot_84a.out bt_126)
                        clear bt_126
                        replace H := bind2_hid H
                        obtain ⟨t_133a, t_133b, qt_133, H⟩ := H
                        go_wp2_with fail
                        go_at_call 13
                        refine (Go.Proofs.YtdgbigkcophjoaaDoor.GsSameGauges.C (t_5a) At_5a ct_5a _   (Lib.hid (own_cells Ot_5a.out)) (Lib.hid (own_max Ot_5a.out)) qt_133).mono ?_
                        rintro e_t_133 wt_133 ⟨At_133a, ct_133a, rfl, ⟨Bt_133a, ot_133a⟩, bt_133⟩
                        have Dt_133a_t_5a := Lib.hid (Go.Proofs.YtdgbigkcophjoaaDoor.GoN.nest_callrow ot_133a Ot_5a.out)
                        have Dt_133a_t_19a := Lib.hid (Go.Proofs.YtdgbigkcophjoaaDoor.GoN.nest_callrow ot_133a Ot_19a.out)
                        have Dt_133a_t_29a := Lib.hid (Go.Proofs.YtdgbigkcophjoaaDoor.GoN.nest_callrow ot_133a Ot_29a.out)
                        have Dt_133a_t_49a := Lib.hid (Go.Proofs.YtdgbigkcophjoaaDoor.GoN.nest_callrow ot_133a Ot_49a.out)
                        have Dt_133a_t_59a := Lib.hid (Go.Proofs.YtdgbigkcophjoaaDoor.GoN.nest_callrow ot_133a Ot_59a.out)
                        have Dt_133a_t_84a := Lib.hid (Go.Proofs.YtdgbigkcophjoaaDoor.GoN.nest_callrow ot_133a Ot_84a.out)
                        have Dt_133a_t_126a := Lib.hid (Go.Proofs.YtdgbigkcophjoaaDoor.GoN.nest_callnest ot_133a Ot_126a.out)
                        have Ot_133a := Lib.hid (Go.Proofs.YtdgbigkcophjoaaDoor.GoN.nest_lower ot_133a HBwt_126.out.size)
                        clear ot_133a
                        have HBwt_133 := Lib.hid (Below.step HBwt_126.out bt_133)
                        replace Ot_5a := Lib.hid (own_below Ot_5a.out bt_133)
                        replace Ot_19a := Lib.hid (own_below Ot_19a.out bt_133)
                        replace Ot_29a := Lib.hid (own_below Ot_29a.out bt_133)
                        replace Ot_49a := Lib.hid (own_below Ot_49a.out bt_133)
                        replace Ot_59a := Lib.hid (own_below Ot_59a.out bt_133)
                        replace Ot_84a := Lib.hid (own_below Ot_84a.out bt_133)
                        replace Ot_126a := Lib.hid (Go.Proofs.YtdgbigkcophjoaaDoor.GoN.nest_below Ot_126a.out bt_133)
                        clear bt_133
                        replace H := let_hid H
                        obtain ⟨t_141, ht_141, H⟩ := H
                        replace H := join_hid H
                        cases t_141 with
                        | false =>
                          replace H := ite_f H
                          replace H := bind_hid H
                          obtain ⟨t_145, qt_145, H⟩ := H
                          go_wp2_with fail
                          go_at_call 14
                          refine (Go.Proofs.YtdgbigkcophjoaaDoor.GlRTable.C (t_126a) (t_133a) At_126a ct_126a At_133a ct_133a _   (Lib.hid (Go.Proofs.YtdgbigkcophjoaaDoor.GoN.nest_read Ot_126a.out)) (Lib.hid (Go.Proofs.YtdgbigkcophjoaaDoor.GoN.nest_max Ot_126a.out)) (Lib.hid (Go.Proofs.YtdgbigkcophjoaaDoor.GoN.nest_read Ot_133a.out)) (Lib.hid (Go.Proofs.YtdgbigkcophjoaaDoor.GoN.nest_max Ot_133a.out)) qt_145).mono ?_
                          rintro e_t_145 wt_145 ⟨rfl, bt_145⟩
                          have HBwt_145 := Lib.hid (Below.step HBwt_133.out bt_145)
                          replace Ot_5a := Lib.hid (own_below Ot_5a.out bt_145)
                          replace Ot_19a := Lib.hid (own_below Ot_19a.out bt_145)
                          replace Ot_29a := Lib.hid (own_below Ot_29a.out bt_145)
                          replace Ot_49a := Lib.hid (own_below Ot_49a.out bt_145)
                          replace Ot_59a := Lib.hid (own_below Ot_59a.out bt_145)
                          replace Ot_84a := Lib.hid (own_below Ot_84a.out bt_145)
                          replace Ot_126a := Lib.hid (Go.Proofs.YtdgbigkcophjoaaDoor.GoN.nest_below Ot_126a.out bt_145)
                          replace Ot_133a := Lib.hid (Go.Proofs.YtdgbigkcophjoaaDoor.GoN.nest_below Ot_133a.out bt_145)
                          clear bt_145
                          cases t_145 with
                          | false =>
                            replace H := let_hid H
                            obtain ⟨t_146, ht_146, H⟩ := H
                            obtain rfl : t_146 = true := ht_146.symm
                            replace H := app_hid H
                            replace H := ite_t H
                            obtain rfl := ret_hid H
                            go_wp2_with fail
                            go_ret
                            exact ⟨rfl, HBwt_145.out⟩
                          | true =>
                            replace H := let_hid H
                            obtain ⟨t_146, ht_146, H⟩ := H
                            obtain rfl : t_146 = false := ht_146.symm
                            replace H := app_hid H
                            replace H := ite_f H
                            have hb_1 : t_126a.length ≤ 9223372036854775807 := Go.Proofs.YtdgbigkcophjoaaDoor.GoN.nest_max Ot_126a.out
                            go_wp2_with fail
                            go_loopg [24, 23] (t_126a.length) (fun m_ v24_ v23_ wr => ∃ (k1 : Nat) (sum_23l1 : Int), k1 + m_ = t_126a.length ∧ v24_ = .int .i64 (k1 : Int) ∧ v23_ = .int .i64 sum_23l1 ∧ Hid (cntK (l1 t_126a) m_ k1 (sum_23l1) (e1 code tapes t_5a t_126b) = some r) ∧ Hid (Below w.heap.size w wr) ∧ Hid (wr.ownsRow w.heap.size 32 4 (.slice At_5a t_5a.length ct_5a) t_5a.length (Go.Proofs.YtdgbigkcophjoaaDoor.PComb.flat t_5a)) ∧ Hid (wr.ownsRow w.heap.size 3 1 (.slice At_19a t_19a.length ct_19a) t_19a.length (Go.Proofs.YtdgbigkcophjoaaDoor.HelpInt.iv t_19a)) ∧ Hid (wr.ownsRow w.heap.size 3 1 (.slice At_29a t_29a.length ct_29a) t_29a.length (Go.Proofs.YtdgbigkcophjoaaDoor.HelpInt.iv t_29a)) ∧ Hid (wr.ownsRow w.heap.size 3 1 (.slice At_49a t_49a.length ct_49a) t_49a.length (Go.Proofs.YtdgbigkcophjoaaDoor.HelpInt.iv t_49a)) ∧ Hid (wr.ownsRow w.heap.size 3 1 (.slice At_59a t_59a.length ct_59a) t_59a.length (Go.Proofs.YtdgbigkcophjoaaDoor.HelpInt.iv t_59a)) ∧ Hid (wr.ownsRow w.heap.size 3 1 (.slice At_84a t_84a.length ct_84a) t_84a.length (Go.Proofs.YtdgbigkcophjoaaDoor.HelpInt.iv t_84a)) ∧ Hid (Go.Proofs.YtdgbigkcophjoaaDoor.GoN.OwnNest wr (w.heap.size) 27 3 1 Go.Proofs.YtdgbigkcophjoaaDoor.HelpInt.iv At_126a ct_126a t_126a Bt_126a) ∧ Hid (Go.Proofs.YtdgbigkcophjoaaDoor.GoN.OwnNest wr (w.heap.size) 27 3 1 Go.Proofs.YtdgbigkcophjoaaDoor.HelpInt.iv At_133a ct_133a t_133a Bt_133a))
                            case atStart => exact ⟨0, _, by omega, rfl, rfl, H, HBwt_145, Ot_5a, Ot_19a, Ot_29a, Ot_49a, Ot_59a, Ot_84a, Ot_126a, Ot_133a⟩
                            case round =>
                              obtain ⟨k1, sum_23l1, hkm1, rfl, rfl, H, HBwr1, Ot_5a, Ot_19a, Ot_29a, Ot_49a, Ot_59a, Ot_84a, Ot_126a, Ot_133a⟩ := hrel
                              rename World => wr1
                              cases gk with
                              | zero =>
                                obtain rfl : k1 = t_126a.length := by omega
                                have hc1 : decide (((t_126a.length : Nat) : Int) < ((t_126a.length : Nat) : Int)) = false := by simp
                                replace H := cnt_zero H
                                unfold e1 at H
                                replace H := let_hid H
                                obtain ⟨_, rfl, H⟩ := H
                                replace H := join_hid H
                                cases t_126b with
                                | false =>
                                  obtain rfl : t_133b = false := by revert ht_141; cases t_133b <;> simp
                                  replace H := ite_f H
                                  replace H := app_hid H
                                  replace H := ite_f H
                                  replace H := bind_hid H
                                  obtain ⟨t_175, qt_175, H⟩ := H
                                  go_wp2_with fail
                                  go_at_call 15
                                  refine (Go.Proofs.YtdgbigkcophjoaaDoor.GsDrawGaugeText.C tapes (code) A0 c0 _  HE (Lib.hid (Cells.below M0.out HBwr1.out)) N0 V0 qt_175).mono ?_
                                  rintro e_t_175 wt_175 ⟨rfl, bt_175⟩
                                  have HBwt_175 := Lib.hid (Below.step HBwr1.out bt_175)
                                  replace Ot_5a := Lib.hid (own_below Ot_5a.out bt_175)
                                  replace Ot_19a := Lib.hid (own_below Ot_19a.out bt_175)
                                  replace Ot_29a := Lib.hid (own_below Ot_29a.out bt_175)
                                  replace Ot_49a := Lib.hid (own_below Ot_49a.out bt_175)
                                  replace Ot_59a := Lib.hid (own_below Ot_59a.out bt_175)
                                  replace Ot_84a := Lib.hid (own_below Ot_84a.out bt_175)
                                  replace Ot_126a := Lib.hid (Go.Proofs.YtdgbigkcophjoaaDoor.GoN.nest_below Ot_126a.out bt_175)
                                  replace Ot_133a := Lib.hid (Go.Proofs.YtdgbigkcophjoaaDoor.GoN.nest_below Ot_133a.out bt_175)
                                  clear bt_175
                                  replace H := bind2_hid H
                                  obtain ⟨t_178a, t_178b, qt_178, H⟩ := H
                                  go_wp2_with fail
                                  go_at_call 16
                                  refine (Go.Proofs.YtdgbigkcophjoaaDoor.GiGaugeText.C (t_175)  _ (tab_below HBwt_175.out HT)   qt_178).mono ?_
                                  rintro e_t_178 wt_178 ⟨rfl, bt_178⟩
                                  have HBwt_178 := Lib.hid (Below.step HBwt_175.out bt_178)
                                  replace Ot_5a := Lib.hid (own_below Ot_5a.out bt_178)
                                  replace Ot_19a := Lib.hid (own_below Ot_19a.out bt_178)
                                  replace Ot_29a := Lib.hid (own_below Ot_29a.out bt_178)
                                  replace Ot_49a := Lib.hid (own_below Ot_49a.out bt_178)
                                  replace Ot_59a := Lib.hid (own_below Ot_59a.out bt_178)
                                  replace Ot_84a := Lib.hid (own_below Ot_84a.out bt_178)
                                  replace Ot_126a := Lib.hid (Go.Proofs.YtdgbigkcophjoaaDoor.GoN.nest_below Ot_126a.out bt_178)
                                  replace Ot_133a := Lib.hid (Go.Proofs.YtdgbigkcophjoaaDoor.GoN.nest_below Ot_133a.out bt_178)
                                  clear bt_178
                                  replace H := bind2_hid H
                                  obtain ⟨t_185a, t_185b, qt_185, H⟩ := H
                                  go_wp2_with fail
                                  go_at_call 17
                                  refine (Go.Proofs.YtdgbigkcophjoaaDoor.GsGaugeText.C (t_175)  _    qt_185).mono ?_
                                  rintro e_t_185 wt_185 ⟨rfl, bt_185⟩
                                  have HBwt_185 := Lib.hid (Below.step HBwt_178.out bt_185)
                                  replace Ot_5a := Lib.hid (own_below Ot_5a.out bt_185)
                                  replace Ot_19a := Lib.hid (own_below Ot_19a.out bt_185)
                                  replace Ot_29a := Lib.hid (own_below Ot_29a.out bt_185)
                                  replace Ot_49a := Lib.hid (own_below Ot_49a.out bt_185)
                                  replace Ot_59a := Lib.hid (own_below Ot_59a.out bt_185)
                                  replace Ot_84a := Lib.hid (own_below Ot_84a.out bt_185)
                                  replace Ot_126a := Lib.hid (Go.Proofs.YtdgbigkcophjoaaDoor.GoN.nest_below Ot_126a.out bt_185)
                                  replace Ot_133a := Lib.hid (Go.Proofs.YtdgbigkcophjoaaDoor.GoN.nest_below Ot_133a.out bt_185)
                                  clear bt_185
                                  replace H := bind_hid H
                                  obtain ⟨t_192, qt_192, H⟩ := H
                                  obtain ⟨t_192_id, t_192_wide, t_192_high, t_192_line⟩ := t_192
                                  replace H := unComb_hid H
                                  go_wp2_with fail
                                  go_at_call 18
                                  refine (Go.Proofs.YtdgbigkcophjoaaDoor.GsDrawCombText.C tapes (code) A0 c0 _  HE (Lib.hid (Cells.below M0.out HBwt_185.out)) N0 V0 qt_192).mono ?_
                                  rintro e_t_192 wt_192 ⟨rfl, bt_192⟩
                                  unfold Go.Proofs.YtdgbigkcophjoaaDoor.PComb.Comb.val
                                  have HBwt_192 := Lib.hid (Below.step HBwt_185.out bt_192)
                                  replace Ot_5a := Lib.hid (own_below Ot_5a.out bt_192)
                                  replace Ot_19a := Lib.hid (own_below Ot_19a.out bt_192)
                                  replace Ot_29a := Lib.hid (own_below Ot_29a.out bt_192)
                                  replace Ot_49a := Lib.hid (own_below Ot_49a.out bt_192)
                                  replace Ot_59a := Lib.hid (own_below Ot_59a.out bt_192)
                                  replace Ot_84a := Lib.hid (own_below Ot_84a.out bt_192)
                                  replace Ot_126a := Lib.hid (Go.Proofs.YtdgbigkcophjoaaDoor.GoN.nest_below Ot_126a.out bt_192)
                                  replace Ot_133a := Lib.hid (Go.Proofs.YtdgbigkcophjoaaDoor.GoN.nest_below Ot_133a.out bt_192)
                                  clear bt_192
                                  obtain ⟨w_x_193, hw_x_193⟩ : ∃ x, wt_192.alloc (.cells #[.int .i64 t_192_id, .int .i64 t_192_wide, .int .i64 t_192_high, .bool t_192_line] 32) = x := ⟨_, rfl⟩
                                  have bw_x_193 : Below wt_192.heap.size wt_192 w_x_193 := by rw [← hw_x_193]; exact (Below.refl _ _).alloc (Nat.le_refl _) _
                                  have Dx_193_t_5a := Lib.hid (apart_fresh Ot_5a.out)
                                  have Dx_193_t_19a := Lib.hid (apart_fresh Ot_19a.out)
                                  have Dx_193_t_29a := Lib.hid (apart_fresh Ot_29a.out)
                                  have Dx_193_t_49a := Lib.hid (apart_fresh Ot_49a.out)
                                  have Dx_193_t_59a := Lib.hid (apart_fresh Ot_59a.out)
                                  have Dx_193_t_84a := Lib.hid (apart_fresh Ot_84a.out)
                                  have Dx_193_t_126a := Lib.hid (Go.Proofs.YtdgbigkcophjoaaDoor.GoN.nest_fresh Ot_126a.out)
                                  have Dx_193_t_133a := Lib.hid (Go.Proofs.YtdgbigkcophjoaaDoor.GoN.nest_fresh Ot_133a.out)
                                  have HBw_x_193 := Lib.hid (Below.step HBwt_192.out bw_x_193)
                                  replace Ot_5a := Lib.hid (own_below Ot_5a.out bw_x_193)
                                  replace Ot_19a := Lib.hid (own_below Ot_19a.out bw_x_193)
                                  replace Ot_29a := Lib.hid (own_below Ot_29a.out bw_x_193)
                                  replace Ot_49a := Lib.hid (own_below Ot_49a.out bw_x_193)
                                  replace Ot_59a := Lib.hid (own_below Ot_59a.out bw_x_193)
                                  replace Ot_84a := Lib.hid (own_below Ot_84a.out bw_x_193)
                                  replace Ot_126a := Lib.hid (Go.Proofs.YtdgbigkcophjoaaDoor.GoN.nest_below Ot_126a.out bw_x_193)
                                  replace Ot_133a := Lib.hid (Go.Proofs.YtdgbigkcophjoaaDoor.GoN.nest_below Ot_133a.out bw_x_193)
                                  clear bw_x_193
                                  have kx_193_0 : w_x_193.cell? ⟨wt_192.heap.size, 0, none⟩ = some (.int .i64 t_192_id) := by rw [← hw_x_193]; exact box_new _ _ _ 0 _ rfl
                                  have kx_193_1 : w_x_193.cell? ⟨wt_192.heap.size, 1, none⟩ = some (.int .i64 t_192_wide) := by rw [← hw_x_193]; exact box_new _ _ _ 1 _ rfl
                                  have kx_193_2 : w_x_193.cell? ⟨wt_192.heap.size, 2, none⟩ = some (.int .i64 t_192_high) := by rw [← hw_x_193]; exact box_new _ _ _ 2 _ rfl
                                  have kx_193_3 : w_x_193.cell? ⟨wt_192.heap.size, 3, none⟩ = some (.bool t_192_line) := by rw [← hw_x_193]; exact box_new _ _ _ 3 _ rfl
                                  replace H := bind2_hid H
                                  obtain ⟨t_196a, t_196b, qt_196, H⟩ := H
                                  go_wp2_with fail
                                  go_at_call 19
                                  refine (Go.Proofs.YtdgbigkcophjoaaDoor.GiCombText.C ((Go.Proofs.YtdgbigkcophjoaaDoor.PComb.Comb.mk t_192_id t_192_wide t_192_high t_192_line))  _ (tab_below HBw_x_193.out HT)   qt_196).mono ?_
                                  rintro e_t_196 wt_196 ⟨rfl, bt_196⟩
                                  have HBwt_196 := Lib.hid (Below.step HBw_x_193.out bt_196)
                                  replace kx_193_0 := cell_below bt_196 kx_193_0
                                  replace kx_193_1 := cell_below bt_196 kx_193_1
                                  replace kx_193_2 := cell_below bt_196 kx_193_2
                                  replace kx_193_3 := cell_below bt_196 kx_193_3
                                  replace Ot_5a := Lib.hid (own_below Ot_5a.out bt_196)
                                  replace Ot_19a := Lib.hid (own_below Ot_19a.out bt_196)
                                  replace Ot_29a := Lib.hid (own_below Ot_29a.out bt_196)
                                  replace Ot_49a := Lib.hid (own_below Ot_49a.out bt_196)
                                  replace Ot_59a := Lib.hid (own_below Ot_59a.out bt_196)
                                  replace Ot_84a := Lib.hid (own_below Ot_84a.out bt_196)
                                  replace Ot_126a := Lib.hid (Go.Proofs.YtdgbigkcophjoaaDoor.GoN.nest_below Ot_126a.out bt_196)
                                  replace Ot_133a := Lib.hid (Go.Proofs.YtdgbigkcophjoaaDoor.GoN.nest_below Ot_133a.out bt_196)
                                  clear bt_196
                                  replace H := bind2_hid H
                                  obtain ⟨t_203a, t_203b, qt_203, H⟩ := H
                                  go_wp2_with fail
                                  go_at_call 20
                                  refine (Go.Proofs.YtdgbigkcophjoaaDoor.GsCombText.C ((Go.Proofs.YtdgbigkcophjoaaDoor.PComb.Comb.mk t_192_id t_192_wide t_192_high t_192_line))  _    qt_203).mono ?_
                                  rintro e_t_203 wt_203 ⟨rfl, bt_203⟩
                                  have HBwt_203 := Lib.hid (Below.step HBwt_196.out bt_203)
                                  replace kx_193_0 := cell_below bt_203 kx_193_0
                                  replace kx_193_1 := cell_below bt_203 kx_193_1
                                  replace kx_193_2 := cell_below bt_203 kx_193_2
                                  replace kx_193_3 := cell_below bt_203 kx_193_3
                                  replace Ot_5a := Lib.hid (own_below Ot_5a.out bt_203)
                                  replace Ot_19a := Lib.hid (own_below Ot_19a.out bt_203)
                                  replace Ot_29a := Lib.hid (own_below Ot_29a.out bt_203)
                                  replace Ot_49a := Lib.hid (own_below Ot_49a.out bt_203)
                                  replace Ot_59a := Lib.hid (own_below Ot_59a.out bt_203)
                                  replace Ot_84a := Lib.hid (own_below Ot_84a.out bt_203)
                                  replace Ot_126a := Lib.hid (Go.Proofs.YtdgbigkcophjoaaDoor.GoN.nest_below Ot_126a.out bt_203)
                                  replace Ot_133a := Lib.hid (Go.Proofs.YtdgbigkcophjoaaDoor.GoN.nest_below Ot_133a.out bt_203)
                                  clear bt_203
                                  replace H := let_hid H
                                  obtain ⟨t_211, ht_211, H⟩ := H
                                  replace H := join_hid H
                                  cases t_211 with
                                  | false =>
                                    replace H := ite_f H
                                    replace H := app_hid H
                                    replace H := join_hid H
                                    replace H := ite_f H
                                    replace H := app_hid H
                                    replace H := join_hid H
                                    replace H := ite_f H
                                    replace H := app_hid H
                                    replace H := join_hid H
                                    replace H := ite_f H
                                    replace H := app_hid H
                                    obtain rfl := ret_hid H
                                    go_wp2_with fail
                                    go_ret
                                    exact ⟨rfl, HBwt_203.out⟩
                                  | true =>
                                    replace H := ite_t H
                                    replace H := let_hid H
                                    obtain ⟨t_215, ht_215, H⟩ := H
                                    replace H := app_hid H
                                    replace H := join_hid H
                                    cases t_215 with
                                    | false =>
                                      replace H := ite_f H
                                      replace H := app_hid H
                                      replace H := join_hid H
                                      replace H := ite_f H
                                      replace H := app_hid H
                                      replace H := join_hid H
                                      replace H := ite_f H
                                      replace H := app_hid H
                                      obtain rfl := ret_hid H
                                      go_wp2_with fail
                                      go_ret
                                      exact ⟨rfl, HBwt_203.out⟩
                                    | true =>
                                      replace H := ite_t H
                                      replace H := let_hid H
                                      obtain ⟨t_220, ht_220, H⟩ := H
                                      replace H := app_hid H
                                      replace H := join_hid H
                                      cases t_220 with
                                      | false =>
                                        replace H := ite_f H
                                        replace H := app_hid H
                                        replace H := join_hid H
                                        replace H := ite_f H
                                        replace H := app_hid H
                                        obtain rfl := ret_hid H
                                        go_wp2_with fail
                                        go_ret
                                        exact ⟨rfl, HBwt_203.out⟩
                                      | true =>
                                        replace H := ite_t H
                                        replace H := let_hid H
                                        obtain ⟨t_225, ht_225, H⟩ := H
                                        replace H := app_hid H
                                        replace H := join_hid H
                                        cases t_225 with
                                        | false =>
                                          replace H := ite_f H
                                          replace H := app_hid H
                                          obtain rfl := ret_hid H
                                          go_wp2_with fail
                                          go_ret
                                          exact ⟨rfl, HBwt_203.out⟩
                                        | true =>
                                          replace H := ite_t H
                                          replace H := bind_hid H
                                          obtain ⟨t_229, qt_229, H⟩ := H
                                          go_wp2_with fail
                                          go_at_call 21
                                          refine (Go.Proofs.YtdgbigkcophjoaaDoor.GiAreCombs.C (t_5a) At_5a ct_5a _   (Lib.hid (own_cells Ot_5a.out)) (Lib.hid (own_max Ot_5a.out)) qt_229).mono ?_
                                          rintro e_t_229 wt_229 ⟨rfl, bt_229⟩
                                          have HBwt_229 := Lib.hid (Below.step HBwt_203.out bt_229)
                                          replace kx_193_0 := cell_below bt_229 kx_193_0
                                          replace kx_193_1 := cell_below bt_229 kx_193_1
                                          replace kx_193_2 := cell_below bt_229 kx_193_2
                                          replace kx_193_3 := cell_below bt_229 kx_193_3
                                          replace Ot_5a := Lib.hid (own_below Ot_5a.out bt_229)
                                          replace Ot_19a := Lib.hid (own_below Ot_19a.out bt_229)
                                          replace Ot_29a := Lib.hid (own_below Ot_29a.out bt_229)
                                          replace Ot_49a := Lib.hid (own_below Ot_49a.out bt_229)
                                          replace Ot_59a := Lib.hid (own_below Ot_59a.out bt_229)
                                          replace Ot_84a := Lib.hid (own_below Ot_84a.out bt_229)
                                          replace Ot_126a := Lib.hid (Go.Proofs.YtdgbigkcophjoaaDoor.GoN.nest_below Ot_126a.out bt_229)
                                          replace Ot_133a := Lib.hid (Go.Proofs.YtdgbigkcophjoaaDoor.GoN.nest_below Ot_133a.out bt_229)
                                          clear bt_229
                                          replace H := bind_hid H
                                          obtain ⟨t_231, qt_231, H⟩ := H
                                          go_wp2_with fail
                                          go_at_call 22
                                          refine (Go.Proofs.YtdgbigkcophjoaaDoor.GsAreCombs.C (t_5a) At_5a ct_5a _   (Lib.hid (own_cells Ot_5a.out)) (Lib.hid (own_max Ot_5a.out)) qt_231).mono ?_
                                          rintro e_t_231 wt_231 ⟨rfl, bt_231⟩
                                          have HBwt_231 := Lib.hid (Below.step HBwt_229.out bt_231)
                                          replace kx_193_0 := cell_below bt_231 kx_193_0
                                          replace kx_193_1 := cell_below bt_231 kx_193_1
                                          replace kx_193_2 := cell_below bt_231 kx_193_2
                                          replace kx_193_3 := cell_below bt_231 kx_193_3
                                          replace Ot_5a := Lib.hid (own_below Ot_5a.out bt_231)
                                          replace Ot_19a := Lib.hid (own_below Ot_19a.out bt_231)
                                          replace Ot_29a := Lib.hid (own_below Ot_29a.out bt_231)
                                          replace Ot_49a := Lib.hid (own_below Ot_49a.out bt_231)
                                          replace Ot_59a := Lib.hid (own_below Ot_59a.out bt_231)
                                          replace Ot_84a := Lib.hid (own_below Ot_84a.out bt_231)
                                          replace Ot_126a := Lib.hid (Go.Proofs.YtdgbigkcophjoaaDoor.GoN.nest_below Ot_126a.out bt_231)
                                          replace Ot_133a := Lib.hid (Go.Proofs.YtdgbigkcophjoaaDoor.GoN.nest_below Ot_133a.out bt_231)
                                          clear bt_231
                                          replace H := let_hid H
                                          obtain ⟨t_232, ht_232, H⟩ := H
                                          replace H := app_hid H
                                          obtain rfl := ret_hid H
                                          go_wp2_with fail
                                          go_ret
                                          exact ⟨rfl, HBwt_231.out⟩
                                | true =>
                                  obtain rfl : t_133b = true := by revert ht_141; cases t_133b <;> simp
                                  replace H := ite_t H
                                  replace H := let_hid H
                                  obtain ⟨t_171, ht_171, H⟩ := H
                                  replace H := app_hid H
                                  cases t_171 with
                                  | false =>
                                    replace H := ite_f H
                                    replace H := bind_hid H
                                    obtain ⟨t_175, qt_175, H⟩ := H
                                    go_wp2_with fail
                                    go_at_call 15
                                    refine (Go.Proofs.YtdgbigkcophjoaaDoor.GsDrawGaugeText.C tapes (code) A0 c0 _  HE (Lib.hid (Cells.below M0.out HBwr1.out)) N0 V0 qt_175).mono ?_
                                    rintro e_t_175 wt_175 ⟨rfl, bt_175⟩
                                    have HBwt_175 := Lib.hid (Below.step HBwr1.out bt_175)
                                    replace Ot_5a := Lib.hid (own_below Ot_5a.out bt_175)
                                    replace Ot_19a := Lib.hid (own_below Ot_19a.out bt_175)
                                    replace Ot_29a := Lib.hid (own_below Ot_29a.out bt_175)
                                    replace Ot_49a := Lib.hid (own_below Ot_49a.out bt_175)
                                    replace Ot_59a := Lib.hid (own_below Ot_59a.out bt_175)
                                    replace Ot_84a := Lib.hid (own_below Ot_84a.out bt_175)
                                    replace Ot_126a := Lib.hid (Go.Proofs.YtdgbigkcophjoaaDoor.GoN.nest_below Ot_126a.out bt_175)
                                    replace Ot_133a := Lib.hid (Go.Proofs.YtdgbigkcophjoaaDoor.GoN.nest_below Ot_133a.out bt_175)
                                    clear bt_175
                                    replace H := bind2_hid H
                                    obtain ⟨t_178a, t_178b, qt_178, H⟩ := H
                                    go_wp2_with fail
                                    go_at_call 16
                                    refine (Go.Proofs.YtdgbigkcophjoaaDoor.GiGaugeText.C (t_175)  _ (tab_below HBwt_175.out HT)   qt_178).mono ?_
                                    rintro e_t_178 wt_178 ⟨rfl, bt_178⟩
                                    have HBwt_178 := Lib.hid (Below.step HBwt_175.out bt_178)
                                    replace Ot_5a := Lib.hid (own_below Ot_5a.out bt_178)
                                    replace Ot_19a := Lib.hid (own_below Ot_19a.out bt_178)
                                    replace Ot_29a := Lib.hid (own_below Ot_29a.out bt_178)
                                    replace Ot_49a := Lib.hid (own_below Ot_49a.out bt_178)
                                    replace Ot_59a := Lib.hid (own_below Ot_59a.out bt_178)
                                    replace Ot_84a := Lib.hid (own_below Ot_84a.out bt_178)
                                    replace Ot_126a := Lib.hid (Go.Proofs.YtdgbigkcophjoaaDoor.GoN.nest_below Ot_126a.out bt_178)
                                    replace Ot_133a := Lib.hid (Go.Proofs.YtdgbigkcophjoaaDoor.GoN.nest_below Ot_133a.out bt_178)
                                    clear bt_178
                                    replace H := bind2_hid H
                                    obtain ⟨t_185a, t_185b, qt_185, H⟩ := H
                                    go_wp2_with fail
                                    go_at_call 17
                                    refine (Go.Proofs.YtdgbigkcophjoaaDoor.GsGaugeText.C (t_175)  _    qt_185).mono ?_
                                    rintro e_t_185 wt_185 ⟨rfl, bt_185⟩
                                    have HBwt_185 := Lib.hid (Below.step HBwt_178.out bt_185)
                                    replace Ot_5a := Lib.hid (own_below Ot_5a.out bt_185)
                                    replace Ot_19a := Lib.hid (own_below Ot_19a.out bt_185)
                                    replace Ot_29a := Lib.hid (own_below Ot_29a.out bt_185)
                                    replace Ot_49a := Lib.hid (own_below Ot_49a.out bt_185)
                                    replace Ot_59a := Lib.hid (own_below Ot_59a.out bt_185)
                                    replace Ot_84a := Lib.hid (own_below Ot_84a.out bt_185)
                                    replace Ot_126a := Lib.hid (Go.Proofs.YtdgbigkcophjoaaDoor.GoN.nest_below Ot_126a.out bt_185)
                                    replace Ot_133a := Lib.hid (Go.Proofs.YtdgbigkcophjoaaDoor.GoN.nest_below Ot_133a.out bt_185)
                                    clear bt_185
                                    replace H := bind_hid H
                                    obtain ⟨t_192, qt_192, H⟩ := H
                                    obtain ⟨t_192_id, t_192_wide, t_192_high, t_192_line⟩ := t_192
                                    replace H := unComb_hid H
                                    go_wp2_with fail
                                    go_at_call 18
                                    refine (Go.Proofs.YtdgbigkcophjoaaDoor.GsDrawCombText.C tapes (code) A0 c0 _  HE (Lib.hid (Cells.below M0.out HBwt_185.out)) N0 V0 qt_192).mono ?_
                                    rintro e_t_192 wt_192 ⟨rfl, bt_192⟩
                                    unfold Go.Proofs.YtdgbigkcophjoaaDoor.PComb.Comb.val
                                    have HBwt_192 := Lib.hid (Below.step HBwt_185.out bt_192)
                                    replace Ot_5a := Lib.hid (own_below Ot_5a.out bt_192)
                                    replace Ot_19a := Lib.hid (own_below Ot_19a.out bt_192)
                                    replace Ot_29a := Lib.hid (own_below Ot_29a.out bt_192)
                                    replace Ot_49a := Lib.hid (own_below Ot_49a.out bt_192)
                                    replace Ot_59a := Lib.hid (own_below Ot_59a.out bt_192)
                                    replace Ot_84a := Lib.hid (own_below Ot_84a.out bt_192)
                                    replace Ot_126a := Lib.hid (Go.Proofs.YtdgbigkcophjoaaDoor.GoN.nest_below Ot_126a.out bt_192)
                                    replace Ot_133a := Lib.hid (Go.Proofs.YtdgbigkcophjoaaDoor.GoN.nest_below Ot_133a.out bt_192)
                                    clear bt_192
                                    obtain ⟨w_x_193, hw_x_193⟩ : ∃ x, wt_192.alloc (.cells #[.int .i64 t_192_id, .int .i64 t_192_wide, .int .i64 t_192_high, .bool t_192_line] 32) = x := ⟨_, rfl⟩
                                    have bw_x_193 : Below wt_192.heap.size wt_192 w_x_193 := by rw [← hw_x_193]; exact (Below.refl _ _).alloc (Nat.le_refl _) _
                                    have Dx_193_t_5a := Lib.hid (apart_fresh Ot_5a.out)
                                    have Dx_193_t_19a := Lib.hid (apart_fresh Ot_19a.out)
                                    have Dx_193_t_29a := Lib.hid (apart_fresh Ot_29a.out)
                                    have Dx_193_t_49a := Lib.hid (apart_fresh Ot_49a.out)
                                    have Dx_193_t_59a := Lib.hid (apart_fresh Ot_59a.out)
                                    have Dx_193_t_84a := Lib.hid (apart_fresh Ot_84a.out)
                                    have Dx_193_t_126a := Lib.hid (Go.Proofs.YtdgbigkcophjoaaDoor.GoN.nest_fresh Ot_126a.out)
                                    have Dx_193_t_133a := Lib.hid (Go.Proofs.YtdgbigkcophjoaaDoor.GoN.nest_fresh Ot_133a.out)
                                    have HBw_x_193 := Lib.hid (Below.step HBwt_192.out bw_x_193)
                                    replace Ot_5a := Lib.hid (own_below Ot_5a.out bw_x_193)
                                    replace Ot_19a := Lib.hid (own_below Ot_19a.out bw_x_193)
                                    replace Ot_29a := Lib.hid (own_below Ot_29a.out bw_x_193)
                                    replace Ot_49a := Lib.hid (own_below Ot_49a.out bw_x_193)
                                    replace Ot_59a := Lib.hid (own_below Ot_59a.out bw_x_193)
                                    replace Ot_84a := Lib.hid (own_below Ot_84a.out bw_x_193)
                                    replace Ot_126a := Lib.hid (Go.Proofs.YtdgbigkcophjoaaDoor.GoN.nest_below Ot_126a.out bw_x_193)
                                    replace Ot_133a := Lib.hid (Go.Proofs.YtdgbigkcophjoaaDoor.GoN.nest_below Ot_133a.out bw_x_193)
                                    clear bw_x_193
                                    have kx_193_0 : w_x_193.cell? ⟨wt_192.heap.size, 0, none⟩ = some (.int .i64 t_192_id) := by rw [← hw_x_193]; exact box_new _ _ _ 0 _ rfl
                                    have kx_193_1 : w_x_193.cell? ⟨wt_192.heap.size, 1, none⟩ = some (.int .i64 t_192_wide) := by rw [← hw_x_193]; exact box_new _ _ _ 1 _ rfl
                                    have kx_193_2 : w_x_193.cell? ⟨wt_192.heap.size, 2, none⟩ = some (.int .i64 t_192_high) := by rw [← hw_x_193]; exact box_new _ _ _ 2 _ rfl
                                    have kx_193_3 : w_x_193.cell? ⟨wt_192.heap.size, 3, none⟩ = some (.bool t_192_line) := by rw [← hw_x_193]; exact box_new _ _ _ 3 _ rfl
                                    replace H := bind2_hid H
                                    obtain ⟨t_196a, t_196b, qt_196, H⟩ := H
                                    go_wp2_with fail
                                    go_at_call 19
                                    refine (Go.Proofs.YtdgbigkcophjoaaDoor.GiCombText.C ((Go.Proofs.YtdgbigkcophjoaaDoor.PComb.Comb.mk t_192_id t_192_wide t_192_high t_192_line))  _ (tab_below HBw_x_193.out HT)   qt_196).mono ?_
                                    rintro e_t_196 wt_196 ⟨rfl, bt_196⟩
                                    have HBwt_196 := Lib.hid (Below.step HBw_x_193.out bt_196)
                                    replace kx_193_0 := cell_below bt_196 kx_193_0
                                    replace kx_193_1 := cell_below bt_196 kx_193_1
                                    replace kx_193_2 := cell_below bt_196 kx_193_2
                                    replace kx_193_3 := cell_below bt_196 kx_193_3
                                    replace Ot_5a := Lib.hid (own_below Ot_5a.out bt_196)
                                    replace Ot_19a := Lib.hid (own_below Ot_19a.out bt_196)
                                    replace Ot_29a := Lib.hid (own_below Ot_29a.out bt_196)
                                    replace Ot_49a := Lib.hid (own_below Ot_49a.out bt_196)
                                    replace Ot_59a := Lib.hid (own_below Ot_59a.out bt_196)
                                    replace Ot_84a := Lib.hid (own_below Ot_84a.out bt_196)
                                    replace Ot_126a := Lib.hid (Go.Proofs.YtdgbigkcophjoaaDoor.GoN.nest_below Ot_126a.out bt_196)
                                    replace Ot_133a := Lib.hid (Go.Proofs.YtdgbigkcophjoaaDoor.GoN.nest_below Ot_133a.out bt_196)
                                    clear bt_196
                                    replace H := bind2_hid H
                                    obtain ⟨t_203a, t_203b, qt_203, H⟩ := H
                                    go_wp2_with fail
                                    go_at_call 20
                                    refine (Go.Proofs.YtdgbigkcophjoaaDoor.GsCombText.C ((Go.Proofs.YtdgbigkcophjoaaDoor.PComb.Comb.mk t_192_id t_192_wide t_192_high t_192_line))  _    qt_203).mono ?_
                                    rintro e_t_203 wt_203 ⟨rfl, bt_203⟩
                                    have HBwt_203 := Lib.hid (Below.step HBwt_196.out bt_203)
                                    replace kx_193_0 := cell_below bt_203 kx_193_0
                                    replace kx_193_1 := cell_below bt_203 kx_193_1
                                    replace kx_193_2 := cell_below bt_203 kx_193_2
                                    replace kx_193_3 := cell_below bt_203 kx_193_3
                                    replace Ot_5a := Lib.hid (own_below Ot_5a.out bt_203)
                                    replace Ot_19a := Lib.hid (own_below Ot_19a.out bt_203)
                                    replace Ot_29a := Lib.hid (own_below Ot_29a.out bt_203)
                                    replace Ot_49a := Lib.hid (own_below Ot_49a.out bt_203)
                                    replace Ot_59a := Lib.hid (own_below Ot_59a.out bt_203)
                                    replace Ot_84a := Lib.hid (own_below Ot_84a.out bt_203)
                                    replace Ot_126a := Lib.hid (Go.Proofs.YtdgbigkcophjoaaDoor.GoN.nest_below Ot_126a.out bt_203)
                                    replace Ot_133a := Lib.hid (Go.Proofs.YtdgbigkcophjoaaDoor.GoN.nest_below Ot_133a.out bt_203)
                                    clear bt_203
                                    replace H := let_hid H
                                    obtain ⟨t_211, ht_211, H⟩ := H
                                    replace H := join_hid H
                                    cases t_211 with
                                    | false =>
                                      replace H := ite_f H
                                      replace H := app_hid H
                                      replace H := join_hid H
                                      replace H := ite_f H
                                      replace H := app_hid H
                                      replace H := join_hid H
                                      replace H := ite_f H
                                      replace H := app_hid H
                                      replace H := join_hid H
                                      replace H := ite_f H
                                      replace H := app_hid H
                                      obtain rfl := ret_hid H
                                      go_wp2_with fail
                                      go_ret
                                      exact ⟨rfl, HBwt_203.out⟩
                                    | true =>
                                      replace H := ite_t H
                                      replace H := let_hid H
                                      obtain ⟨t_215, ht_215, H⟩ := H
                                      replace H := app_hid H
                                      replace H := join_hid H
                                      cases t_215 with
                                      | false =>
                                        replace H := ite_f H
                                        replace H := app_hid H
                                        replace H := join_hid H
                                        replace H := ite_f H
                                        replace H := app_hid H
                                        replace H := join_hid H
                                        replace H := ite_f H
                                        replace H := app_hid H
                                        obtain rfl := ret_hid H
                                        go_wp2_with fail
                                        go_ret
                                        exact ⟨rfl, HBwt_203.out⟩
                                      | true =>
                                        replace H := ite_t H
                                        replace H := let_hid H
                                        obtain ⟨t_220, ht_220, H⟩ := H
                                        replace H := app_hid H
                                        replace H := join_hid H
                                        cases t_220 with
                                        | false =>
                                          replace H := ite_f H
                                          replace H := app_hid H
                                          replace H := join_hid H
                                          replace H := ite_f H
                                          replace H := app_hid H
                                          obtain rfl := ret_hid H
                                          go_wp2_with fail
                                          go_ret
                                          exact ⟨rfl, HBwt_203.out⟩
                                        | true =>
                                          replace H := ite_t H
                                          replace H := let_hid H
                                          obtain ⟨t_225, ht_225, H⟩ := H
                                          replace H := app_hid H
                                          replace H := join_hid H
                                          cases t_225 with
                                          | false =>
                                            replace H := ite_f H
                                            replace H := app_hid H
                                            obtain rfl := ret_hid H
                                            go_wp2_with fail
                                            go_ret
                                            exact ⟨rfl, HBwt_203.out⟩
                                          | true =>
                                            replace H := ite_t H
                                            replace H := bind_hid H
                                            obtain ⟨t_229, qt_229, H⟩ := H
                                            go_wp2_with fail
                                            go_at_call 21
                                            refine (Go.Proofs.YtdgbigkcophjoaaDoor.GiAreCombs.C (t_5a) At_5a ct_5a _   (Lib.hid (own_cells Ot_5a.out)) (Lib.hid (own_max Ot_5a.out)) qt_229).mono ?_
                                            rintro e_t_229 wt_229 ⟨rfl, bt_229⟩
                                            have HBwt_229 := Lib.hid (Below.step HBwt_203.out bt_229)
                                            replace kx_193_0 := cell_below bt_229 kx_193_0
                                            replace kx_193_1 := cell_below bt_229 kx_193_1
                                            replace kx_193_2 := cell_below bt_229 kx_193_2
                                            replace kx_193_3 := cell_below bt_229 kx_193_3
                                            replace Ot_5a := Lib.hid (own_below Ot_5a.out bt_229)
                                            replace Ot_19a := Lib.hid (own_below Ot_19a.out bt_229)
                                            replace Ot_29a := Lib.hid (own_below Ot_29a.out bt_229)
                                            replace Ot_49a := Lib.hid (own_below Ot_49a.out bt_229)
                                            replace Ot_59a := Lib.hid (own_below Ot_59a.out bt_229)
                                            replace Ot_84a := Lib.hid (own_below Ot_84a.out bt_229)
                                            replace Ot_126a := Lib.hid (Go.Proofs.YtdgbigkcophjoaaDoor.GoN.nest_below Ot_126a.out bt_229)
                                            replace Ot_133a := Lib.hid (Go.Proofs.YtdgbigkcophjoaaDoor.GoN.nest_below Ot_133a.out bt_229)
                                            clear bt_229
                                            replace H := bind_hid H
                                            obtain ⟨t_231, qt_231, H⟩ := H
                                            go_wp2_with fail
                                            go_at_call 22
                                            refine (Go.Proofs.YtdgbigkcophjoaaDoor.GsAreCombs.C (t_5a) At_5a ct_5a _   (Lib.hid (own_cells Ot_5a.out)) (Lib.hid (own_max Ot_5a.out)) qt_231).mono ?_
                                            rintro e_t_231 wt_231 ⟨rfl, bt_231⟩
                                            have HBwt_231 := Lib.hid (Below.step HBwt_229.out bt_231)
                                            replace kx_193_0 := cell_below bt_231 kx_193_0
                                            replace kx_193_1 := cell_below bt_231 kx_193_1
                                            replace kx_193_2 := cell_below bt_231 kx_193_2
                                            replace kx_193_3 := cell_below bt_231 kx_193_3
                                            replace Ot_5a := Lib.hid (own_below Ot_5a.out bt_231)
                                            replace Ot_19a := Lib.hid (own_below Ot_19a.out bt_231)
                                            replace Ot_29a := Lib.hid (own_below Ot_29a.out bt_231)
                                            replace Ot_49a := Lib.hid (own_below Ot_49a.out bt_231)
                                            replace Ot_59a := Lib.hid (own_below Ot_59a.out bt_231)
                                            replace Ot_84a := Lib.hid (own_below Ot_84a.out bt_231)
                                            replace Ot_126a := Lib.hid (Go.Proofs.YtdgbigkcophjoaaDoor.GoN.nest_below Ot_126a.out bt_231)
                                            replace Ot_133a := Lib.hid (Go.Proofs.YtdgbigkcophjoaaDoor.GoN.nest_below Ot_133a.out bt_231)
                                            clear bt_231
                                            replace H := let_hid H
                                            obtain ⟨t_232, ht_232, H⟩ := H
                                            replace H := app_hid H
                                            obtain rfl := ret_hid H
                                            go_wp2_with fail
                                            go_ret
                                            exact ⟨rfl, HBwt_231.out⟩
                                  | true =>
                                    replace H := ite_t H
                                    obtain rfl := ret_hid H
                                    go_wp2_with fail
                                    go_ret
                                    exact ⟨rfl, HBwr1.out⟩
                              | succ m1 =>
                                have hlt1 : k1 < t_126a.length := by omega
                                have hc1 : decide ((k1 : Int) < ((t_126a.length : Nat) : Int)) = true := by simp; omega
                                replace H := cnt_succ H
                                unfold l1 at H
                                replace H := let_hid H
                                obtain ⟨_, rfl, H⟩ := H
                                replace H := idx_hid H
                                obtain ⟨nt_158, yt_158, et_158, lt_158, gt_158, H⟩ := H
                                obtain rfl : k1 = nt_158 := by omega
                                clear et_158
                                obtain ⟨gt_158_, zt_158, Art_158, crt_158, eAt_158, zzt_158, hct_158, hot_158, hmt_158, hat_158⟩ := Go.Proofs.YtdgbigkcophjoaaDoor.GoN.nest_own Ot_126a.out (k := k1) lt_158
                                obtain rfl := Option.some.inj (gt_158.out.symm.trans zzt_158)
                                clear zzt_158
                                subst eAt_158
                                have Ort_158 := Lib.hid hot_158
                                have mrt_158 := Lib.hid hmt_158
                                clear hot_158 hmt_158 hat_158
                                have b0t_158 : (0 : Int) ≤ (k1 : Int) := by omega
                                have b1t_158 : (k1 : Int) < ((t_126a.length : Nat) : Int) := by omega
                                have b2t_158 : ((k1 : Int)).toNat = k1 := by omega
                                replace H := let_hid H
                                obtain ⟨t_161, ht_161, H⟩ := H
                                replace H := app_hid H
                                go_wp2_with fail
                                go_roundg m1
                                case measure => omega
                                case rel => exact ⟨k1 + 1, _, by omega, by go_num, rfl, H, HBwr1, Ot_5a, Ot_19a, Ot_29a, Ot_49a, Ot_59a, Ot_84a, Ot_126a, Ot_133a⟩
                        | true =>
                          replace H := ite_t H
                          replace H := app_hid H
                          replace H := ite_t H
                          obtain rfl := ret_hid H
                          go_wp2_with fail
                          go_ret
                          exact ⟨rfl, HBwt_133.out⟩
                      | true =>
                        obtain rfl : t_29b = true := by revert ht_37; cases t_29b <;> simp
                        obtain rfl : t_49b = true := by revert ht_71; cases t_49b <;> simp
                        obtain rfl : t_59b = true := by revert ht_67; cases t_59b <;> simp
                        obtain rfl : t_84b = true := by revert ht_92; cases t_84b <;> simp
                        replace H := ite_t H
                        replace H := idx_hid H
                        obtain ⟨nt_104, yt_104, et_104, lt_104, gt_104, H⟩ := H
                        subst et_104
                        have nc_309 : nt_104 < t_5a.length := by have := of_decide_eq_true ht_98; omega
                        obtain ⟨t_104_id, t_104_wide, t_104_high, t_104_line⟩ := yt_104
                        replace H := unComb_hid H
                        obtain ⟨qt_104, Qt_104⟩ := own_some Ot_5a.out (by omega)
                        subst Qt_104
                        obtain ⟨ab_t_104, ao_t_104, zt_104, At_104, z_t_104, ct_104_0, ct_104_1, ct_104_2, ct_104_3⟩ := Go.Proofs.YtdgbigkcophjoaaDoor.OComb.at_ (own_cells Ot_5a.out) (k := nt_104) (by omega)
                        obtain rfl := Option.some.inj (gt_104.out.symm.trans z_t_104)
                        simp only [Option.some.injEq, Addr.mk.injEq] at At_104
                        obtain ⟨rfl, rfl, _⟩ := At_104
                        clear z_t_104
                        simp only [Nat.zero_add] at ct_104_0 ct_104_1 ct_104_2 ct_104_3
                        have b0t_104 : (0 : Int) ≤ (nt_104 : Int) := by omega
                        have b1t_104 : (nt_104 : Int) < ((t_5a.length : Nat) : Int) := by omega
                        have b2t_104 : ((nt_104 : Int)).toNat = nt_104 := by omega
                        replace H := bind_hid H
                        obtain ⟨t_110, qt_110, H⟩ := H
                        go_wp2_with fail
                        go_at_call 11
                        refine (Go.Proofs.YtdgbigkcophjoaaDoor.GlRHas.C (t_49a) (t_104_id) At_49a ct_49a _   (Lib.hid (own_cells Ot_49a.out)) (Lib.hid (own_max Ot_49a.out)) qt_110).mono ?_
                        rintro e_t_110 wt_110 ⟨rfl, bt_110⟩
                        have HBwt_110 := Lib.hid (Below.step HBwr0.out bt_110)
                        replace ct_104_0 := cell_below bt_110 ct_104_0
                        replace ct_104_1 := cell_below bt_110 ct_104_1
                        replace ct_104_2 := cell_below bt_110 ct_104_2
                        replace ct_104_3 := cell_below bt_110 ct_104_3
                        replace Ot_5a := Lib.hid (own_below Ot_5a.out bt_110)
                        replace Ot_19a := Lib.hid (own_below Ot_19a.out bt_110)
                        replace Ot_29a := Lib.hid (own_below Ot_29a.out bt_110)
                        replace Ot_49a := Lib.hid (own_below Ot_49a.out bt_110)
                        replace Ot_59a := Lib.hid (own_below Ot_59a.out bt_110)
                        replace Ot_84a := Lib.hid (own_below Ot_84a.out bt_110)
                        clear bt_110
                        replace H := bind_hid H
                        obtain ⟨t_113, qt_113, H⟩ := H
                        go_wp2_with fail
                        go_at_call 11
                        refine (Go.Proofs.YtdgbigkcophjoaaDoor.GlRHas.C (t_84a) (t_104_id) At_84a ct_84a _   (Lib.hid (own_cells Ot_84a.out)) (Lib.hid (own_max Ot_84a.out)) qt_113).mono ?_
                        rintro e_t_113 wt_113 ⟨rfl, bt_113⟩
                        have HBwt_113 := Lib.hid (Below.step HBwt_110.out bt_113)
                        replace ct_104_0 := cell_below bt_113 ct_104_0
                        replace ct_104_1 := cell_below bt_113 ct_104_1
                        replace ct_104_2 := cell_below bt_113 ct_104_2
                        replace ct_104_3 := cell_below bt_113 ct_104_3
                        replace Ot_5a := Lib.hid (own_below Ot_5a.out bt_113)
                        replace Ot_19a := Lib.hid (own_below Ot_19a.out bt_113)
                        replace Ot_29a := Lib.hid (own_below Ot_29a.out bt_113)
                        replace Ot_49a := Lib.hid (own_below Ot_49a.out bt_113)
                        replace Ot_59a := Lib.hid (own_below Ot_59a.out bt_113)
                        replace Ot_84a := Lib.hid (own_below Ot_84a.out bt_113)
                        clear bt_113
                        replace H := join_hid H
                        cases t_113 with
                        | false =>
                          replace H := ite_f H
                          replace H := app_hid H
                          cases t_110 with
                          | false =>
                            replace H := let_hid H
                            obtain ⟨t_120, ht_120, H⟩ := H
                            obtain rfl : t_120 = false := ht_120.symm
                            replace H := ite_f H
                            replace H := let_hid H
                            obtain ⟨t_123, ht_123, H⟩ := H
                            replace H := app_hid H
                            go_wp2_with fail
                            go_roundg m0
                            case measure => omega
                            case rel => exact ⟨_, rfl, H, HBwt_113, Ot_5a, Ot_19a, Ot_29a, Ot_49a, Ot_59a, Ot_84a⟩
                          | true =>
                            replace H := let_hid H
                            obtain ⟨t_120, ht_120, H⟩ := H
                            obtain rfl : t_120 = true := ht_120.symm
                            replace H := ite_t H
                            obtain rfl := ret_hid H
                            go_wp2_with fail
                            go_ret
                            exact ⟨rfl, HBwt_113.out⟩
                        | true =>
                          replace H := ite_t H
                          replace H := bind_hid H
                          obtain ⟨t_117, qt_117, H⟩ := H
                          go_wp2_with fail
                          go_at_call 11
                          refine (Go.Proofs.YtdgbigkcophjoaaDoor.GlRHas.C (t_19a) (t_104_id) At_19a ct_19a _   (Lib.hid (own_cells Ot_19a.out)) (Lib.hid (own_max Ot_19a.out)) qt_117).mono ?_
                          rintro e_t_117 wt_117 ⟨rfl, bt_117⟩
                          have HBwt_117 := Lib.hid (Below.step HBwt_113.out bt_117)
                          replace ct_104_0 := cell_below bt_117 ct_104_0
                          replace ct_104_1 := cell_below bt_117 ct_104_1
                          replace ct_104_2 := cell_below bt_117 ct_104_2
                          replace ct_104_3 := cell_below bt_117 ct_104_3
                          replace Ot_5a := Lib.hid (own_below Ot_5a.out bt_117)
                          replace Ot_19a := Lib.hid (own_below Ot_19a.out bt_117)
                          replace Ot_29a := Lib.hid (own_below Ot_29a.out bt_117)
                          replace Ot_49a := Lib.hid (own_below Ot_49a.out bt_117)
                          replace Ot_59a := Lib.hid (own_below Ot_59a.out bt_117)
                          replace Ot_84a := Lib.hid (own_below Ot_84a.out bt_117)
                          clear bt_117
                          cases t_117 with
                          | false =>
                            replace H := let_hid H
                            obtain ⟨t_118, ht_118, H⟩ := H
                            obtain rfl : t_118 = true := ht_118.symm
                            replace H := app_hid H
                            cases t_110 with
                            | false =>
                              replace H := let_hid H
                              obtain ⟨t_120, ht_120, H⟩ := H
                              obtain rfl : t_120 = true := ht_120.symm
                              replace H := ite_t H
                              obtain rfl := ret_hid H
                              go_wp2_with fail
                              go_ret
                              exact ⟨rfl, HBwt_117.out⟩
                            | true =>
                              replace H := let_hid H
                              obtain ⟨t_120, ht_120, H⟩ := H
                              obtain rfl : t_120 = false := ht_120.symm
                              replace H := ite_f H
                              replace H := let_hid H
                              obtain ⟨t_123, ht_123, H⟩ := H
                              replace H := app_hid H
                              go_wp2_with fail
                              go_roundg m0
                              case measure => omega
                              case rel => exact ⟨_, rfl, H, HBwt_117, Ot_5a, Ot_19a, Ot_29a, Ot_49a, Ot_59a, Ot_84a⟩
                          | true =>
                            replace H := let_hid H
                            obtain ⟨t_118, ht_118, H⟩ := H
                            obtain rfl : t_118 = false := ht_118.symm
                            replace H := app_hid H
                            cases t_110 with
                            | false =>
                              replace H := let_hid H
                              obtain ⟨t_120, ht_120, H⟩ := H
                              obtain rfl : t_120 = false := ht_120.symm
                              replace H := ite_f H
                              replace H := let_hid H
                              obtain ⟨t_123, ht_123, H⟩ := H
                              replace H := app_hid H
                              go_wp2_with fail
                              go_roundg m0
                              case measure => omega
                              case rel => exact ⟨_, rfl, H, HBwt_117, Ot_5a, Ot_19a, Ot_29a, Ot_49a, Ot_59a, Ot_84a⟩
                            | true =>
                              replace H := let_hid H
                              obtain ⟨t_120, ht_120, H⟩ := H
                              obtain rfl : t_120 = true := ht_120.symm
                              replace H := ite_t H
                              obtain rfl := ret_hid H
                              go_wp2_with fail
                              go_ret
                              exact ⟨rfl, HBwt_117.out⟩
              | true =>
                replace H := ite_t H
                obtain rfl := ret_hid H
                go_wp2_with fail
                go_ret
                exact ⟨rfl, HBwt_84.out⟩
          | true =>
            replace H := ite_t H
            replace H := app_hid H
            replace H := ite_t H
            obtain rfl := ret_hid H
            go_wp2_with fail
            go_ret
            exact ⟨rfl, HBwt_59.out⟩
        | true =>
          replace H := ite_t H
          replace H := app_hid H
          replace H := join_hid H
          replace H := ite_t H
          replace H := app_hid H
          replace H := ite_t H
          obtain rfl := ret_hid H
          go_wp2_with fail
          go_ret
          exact ⟨rfl, HBwt_59.out⟩
    | true =>
      replace H := ite_t H
      replace H := app_hid H
      replace H := ite_t H
      obtain rfl := ret_hid H
      go_wp2_with fail
      go_ret
      exact ⟨rfl, HBwt_29.out⟩
  | true =>
    replace H := ite_t H
    obtain rfl := ret_hid H
    go_wp2_with fail
    go_ret
    exact ⟨rfl, HBwt_2.out⟩
end Go.Proofs.YtdgbigkcophjoaaDoor.GlFnCombs

/- What the rows' lists of the library's tables give: the table of powers of ten holds what Itoa reads. Condition: the row's list is met. -/
namespace Go.Proofs.YtdgbigkcophjoaaDoor.DoorLaid

theorem gPow : Tryd.prog.globalNamed "internal/strconv.uint64pow10" = some 0 := by kernel_rfl
def keepPow (x : String × DataW Unit) : Bool := x.1 == "internal/strconv.uint64pow10"
theorem gPowType : (Tryd.prog.globals[0]?).map (·.type) = some 89 := by kernel_rfl
theorem cellsPow : Tryd.prog.cellsOf 89 = 20 := by kernel_rfl
theorem cellsU64 : Tryd.prog.cellsOf 45 = 1 := by kernel_rfl

/-- Of whatever list holds the table at its own datum: the table is there. -/
theorem pow10 {l : List (String × DataW Unit)} {W : World} (h : laidMetH Tryd.prog l W) (hl : l.filter keepPow = [("internal/strconv.uint64pow10", Lib.tabData .u64 Lib.pow10Tab)]) :
    Lib.TabIs Tryd.prog W "internal/strconv.uint64pow10" .u64 Lib.pow10Tab := by
  have h1 := laidMetH.filter keepPow h
  rw [hl] at h1
  exact Lib.tabIs_of_head (rest := []) gPow gPowType Tryd.underlying89 Tryd.underlying45 cellsU64 cellsPow h1
end Go.Proofs.YtdgbigkcophjoaaDoor.DoorLaid

/- Plain words on stamps: what a stamp is, when one is valid, when a list of them is; the cells of a list of records. No condition. -/
namespace Go.Proofs.YtdgbigkcophjoaaDoor.PlainStamp
set_option linter.unusedVariables false

/-- a number lies in a..b -/
def inB (x a b : Int) : Bool := decide (a ≤ x ∧ x ≤ b)
theorem inB_yes {x a b : Int} (h1 : a ≤ x) (h2 : x ≤ b) : inB x a b = true := by unfold inB; exact decide_eq_true ⟨h1, h2⟩
theorem inB_of {x a b : Int} (h : inB x a b = true) : a ≤ x ∧ x ≤ b := by unfold inB at h; exact of_decide_eq_true h
theorem inB_no {x a b : Int} (h : x < a ∨ b < x) : inB x a b = false := by unfold inB; exact decide_eq_false (by omega)

structure St where
  id : Int
  face : Int
  color : Int
  year : Int
deriving DecidableEq

def St.cells (s : St) : List Value := [.int .i64 s.id, .int .i64 s.face, .int .i64 s.color, .int .i64 s.year]
def St.val (s : St) : Value := .agg #[.int .i64 s.id, .int .i64 s.face, .int .i64 s.color, .int .i64 s.year]
/-- each field fits an int -/
def St.fits (s : St) : Prop := (Lit.int .i64 s.id).wf = true ∧ (Lit.int .i64 s.face).wf = true ∧ (Lit.int .i64 s.color).wf = true ∧ (Lit.int .i64 s.year).wf = true

def okSt (s : St) : Bool := inB s.id 1 999 && inB s.face 0 9999 && inB s.color 0 99 && inB s.year 1840 2100
theorem okSt_yes {s : St} (h : okSt s = true) : (1 ≤ s.id ∧ s.id ≤ 999) ∧ (0 ≤ s.face ∧ s.face ≤ 9999) ∧ (0 ≤ s.color ∧ s.color ≤ 99) ∧ (1840 ≤ s.year ∧ s.year ≤ 2100) := by
  unfold okSt at h
  simp only [Bool.and_eq_true] at h
  exact ⟨inB_of h.1.1.1, inB_of h.1.1.2, inB_of h.1.2, inB_of h.2⟩

/-- the stamp at k is valid, and its id is above the one ahead of it -/
def okAt (l : List St) (k : Nat) : Bool :=
  match l[k]? with
  | none => true
  | some s => okSt s && (decide (k = 0) || (match l[k-1]? with | none => true | some r => decide (r.id < s.id)))
def okUp (l : List St) (k : Nat) : Bool := (List.range k).all (okAt l)
theorem okUp_zero (l : List St) : okUp l 0 = true := by simp [okUp]
theorem okUp_succ (l : List St) (k : Nat) : okUp l (k + 1) = (okUp l k && okAt l k) := by simp [okUp, List.range_succ, List.all_append]
theorem okUp_not {l : List St} {k n : Nat} (h : okAt l k = false) (hk : k < n) : okUp l n = false := by
  unfold okUp
  rw [Bool.eq_false_iff]
  intro hall
  have := List.all_eq_true.1 hall k (List.mem_range.2 hk)
  rw [h] at this; exact absurd this (by simp)
/-- a list of at most twelve valid stamps with rising ids -/
def okSts (l : List St) : Bool := decide (l.length ≤ 12) && okUp l l.length
theorem okAt_of {l : List St} {k : Nat} {s : St} (hs : l[k]? = some s) (h : okAt l k = true) : okSt s = true ∧ ∀ r, 0 < k → l[k-1]? = some r → r.id < s.id := by
  unfold okAt at h
  rw [hs] at h
  simp only [Bool.and_eq_true, Bool.or_eq_true, decide_eq_true_eq] at h
  refine ⟨h.1, fun r hk hr => ?_⟩
  rcases h.2 with h0 | h0
  · omega
  · rw [hr] at h0; simpa using h0
theorem okSts_len {l : List St} (h : okSts l = true) : l.length ≤ 12 := by unfold okSts at h; simp only [Bool.and_eq_true, decide_eq_true_eq] at h; exact h.1
theorem okSts_at {l : List St} (h : okSts l = true) {k : Nat} {s : St} (hs : l[k]? = some s) : okSt s = true ∧ ∀ r, 0 < k → l[k-1]? = some r → r.id < s.id := by
  unfold okSts at h
  simp only [Bool.and_eq_true, decide_eq_true_eq] at h
  exact okAt_of hs (List.all_eq_true.1 h.2 k (List.mem_range.2 (List.getElem?_eq_some_iff.1 hs).1))
theorem okSts_mem {l : List St} (h : okSts l = true) {s : St} (hs : s ∈ l) : okSt s = true := by
  obtain ⟨k, hk⟩ := List.getElem?_of_mem hs
  exact (okSts_at h hk).1

/-- the cells of a list of stamps, one after the other -/
def flat (l : List St) : List Value := l.flatMap St.cells
theorem flat_nil : flat [] = [] := rfl
theorem flat_cons (s : St) (l : List St) : flat (s :: l) = s.cells ++ flat l := by simp [flat]
theorem flat_len (l : List St) : (flat l).length = l.length * 4 := by
  induction l with
  | nil => rfl
  | cons s l ih => rw [flat_cons, List.length_append, ih]; simp [St.cells]; omega
theorem flat_at : ∀ (l : List St) (k : Nat) (s : St), l[k]? = some s → ∀ j, j < 4 → (flat l)[k * 4 + j]? = s.cells[j]?
  | [], k, s, h, _, _ => by simp at h
  | r :: l, 0, s, h, j, hj => by
    obtain rfl : r = s := by simpa using h
    rw [flat_cons, List.getElem?_append_left (by simp [St.cells]; omega)]; simp
  | r :: l, k + 1, s, h, j, hj => by
    rw [flat_cons, List.getElem?_append_right (by simp [St.cells]; omega), show (k + 1) * 4 + j - r.cells.length = k * 4 + j by simp [St.cells]; omega]
    exact flat_at l k s (by simpa using h) j hj
end Go.Proofs.YtdgbigkcophjoaaDoor.PlainStamp

/- Words for reckoning with plain functions; within and l1In. No condition. -/
namespace Go.Proofs.YtdgbigkcophjoaaDoor.QBase
set_option linter.unusedVariables false
set_option linter.unusedSimpArgs false
open Go.RowKit
open Go.Proofs.YtdgbigkcophjoaaDoor.GoP Go.Proofs.YtdgbigkcophjoaaDoor.PlainStamp

theorem iteK_if {ρ : Type} (c : Bool) (a b : Option ρ) : iteK c a b = if c = true then a else b := by cases c <;> rfl
theorem bind2_some {α β ρ : Type} (a : α) (b : β) (f : α → β → Option ρ) : bind2 (some (a, b)) f = f a b := rfl
theorem bind3_some {α β γ ρ : Type} (a : α) (b : β) (c : γ) (f : α → β → γ → Option ρ) : bind3 (some (a, b, c)) f = f a b c := rfl
theorem unp2_mk {α β ρ : Type} (a : α) (b : β) (f : α → β → Option ρ) : unp2 (a, b) f = f a b := rfl
theorem unp3_mk {α β γ ρ : Type} (a : α) (b : β) (c : γ) (f : α → β → γ → Option ρ) : unp3 (a, b, c) f = f a b c := rfl
theorem guardK_pos {ρ : Type} {p : Prop} [Decidable p] {a : Option ρ} (h : p) : guardK p a = a := if_pos h
theorem cut2 {α β : Type} {x : Option (α × β)} {p : α × β} (h : x = some p) : x = some (p.1, p.2) := h
theorem cut3 {α β γ : Type} {x : Option (α × β × γ)} {p : α × β × γ} (h : x = some p) : x = some (p.1, p.2.1, p.2.2) := h
theorem within_eq (n a b : Int) : GiWithin.P n a b = some (inB n a b) := by
  simp only [GiWithin.P, letK, joinK, appK, iteK_if, inB]
  by_cases h1 : a ≤ n <;> by_cases h2 : n ≤ b <;> simp [h1, h2]
theorem l1In_eq (n a b : Int) : GsL1In.P n a b = some (inB n a b) := by
  simp only [GsL1In.P, letK, joinK, appK, iteK_if, inB]
  by_cases h1 : a ≤ n <;> by_cases h2 : n ≤ b <;> simp [h1, h2]
end Go.Proofs.YtdgbigkcophjoaaDoor.QBase

/- Plain facts on decimal numerals: what a row of digits is worth, and that a numeral read back is its number. No condition. -/
namespace Go.Proofs.YtdgbigkcophjoaaDoor.PlainNum

def step (a : Nat) (c : UInt8) : Nat := 10 * a + (c.toNat - 48)
def dv (l : List UInt8) : Nat := l.foldl step 0
def Digs (l : List UInt8) : Prop := ∀ c ∈ l, 48 ≤ c.toNat ∧ c.toNat ≤ 57

theorem dv_snoc (l : List UInt8) (c : UInt8) : dv (l ++ [c]) = 10 * dv l + (c.toNat - 48) := by
  unfold dv; rw [List.foldl_append]; rfl

theorem fold_lt (l : List UInt8) : ∀ a, Digs l → l.foldl step a < (a + 1) * 10 ^ l.length := by
  induction l with
  | nil => intro a _; simp
  | cons c r ih =>
    intro a h
    have hc := h c (by simp)
    have h1 := ih (step a c) (fun x hx => h x (by simp [hx]))
    have h2 : (step a c + 1) * 10 ^ r.length ≤ (10 * (a + 1)) * 10 ^ r.length := Nat.mul_le_mul_right _ (by unfold step; omega)
    have h3 : (10 * (a + 1)) * 10 ^ r.length = (a + 1) * 10 ^ (r.length + 1) := by rw [Nat.pow_succ, Nat.mul_comm 10 (a + 1), Nat.mul_assoc, Nat.mul_comm 10]
    rw [List.foldl_cons, List.length_cons]
    omega

theorem dv_lt (l : List UInt8) (h : Digs l) : dv l < 10 ^ l.length := by
  have := fold_lt l 0 h
  unfold dv; omega

theorem dv_lt6 (l : List UInt8) (h : Digs l) (hl : l.length ≤ 6) : dv l < 1000000 := by
  have h1 := dv_lt l h
  have h2 : 10 ^ l.length ≤ 10 ^ 6 := Nat.pow_le_pow_right (by omega) hl
  omega

theorem digit_toNat (i : Nat) (h : i < 10) : (UInt8.ofNat (48 + i)).toNat = 48 + i := by
  rw [UInt8.toNat_ofNat']; omega

theorem digs_dec (u : Nat) : Digs (Lib.decDigits u) := by
  induction u using Nat.strongRecOn with
  | _ u ih =>
    rw [Lib.decDigits]
    by_cases h : u < 10
    · rw [dif_pos h]
      intro c hc
      obtain rfl : c = UInt8.ofNat (48 + u) := by simpa using hc
      rw [digit_toNat u h]; omega
    · rw [dif_neg h]
      intro c hc
      rcases List.mem_append.1 hc with h1 | h1
      · exact ih (u / 10) (by omega) c h1
      · obtain rfl : c = UInt8.ofNat (48 + u % 10) := by simpa using h1
        rw [digit_toNat _ (by omega)]; omega

theorem dv_dec (u : Nat) : dv (Lib.decDigits u) = u := by
  induction u using Nat.strongRecOn with
  | _ u ih =>
    rw [Lib.decDigits]
    by_cases h : u < 10
    · rw [dif_pos h]
      show step 0 (UInt8.ofNat (48 + u)) = u
      unfold step; rw [digit_toNat u h]; omega
    · rw [dif_neg h, dv_snoc, ih (u / 10) (by omega), digit_toNat _ (by omega)]; omega

theorem nd_le (k : Nat) : ∀ u, u < 10 ^ (k + 1) → Lib.nDigits u ≤ k + 1 := by
  induction k with
  | zero => intro u h; rw [Lib.nDigits_small (by omega)]; omega
  | succ k ih =>
    intro u h
    by_cases h10 : u < 10
    · rw [Lib.nDigits_small h10]; omega
    · rw [Lib.nDigits_big h10]
      have := ih (u / 10) (by rw [Nat.pow_succ] at h; omega)
      omega

theorem len_dec (u : Nat) (h : u ≤ 999999) : 1 ≤ (Lib.decDigits u).length ∧ (Lib.decDigits u).length ≤ 6 := by
  rw [Lib.decDigits_length]
  exact ⟨Lib.nDigits_pos u, nd_le 5 u (by omega)⟩

theorem decFrom_dv (l : List UInt8) : ∀ a, Digs l → Lib.decFrom a l = some (l.foldl step a) := by
  induction l with
  | nil => intro a _; rfl
  | cons c r ih =>
    intro a h
    have hc := h c (by simp)
    have e : Lib.digitVal c = some (c.toNat - 48) := by unfold Lib.digitVal; rw [if_pos hc]
    rw [Lib.decFrom, e]
    show Lib.decFrom (a * 10 + (c.toNat - 48)) r = _
    rw [ih _ (fun x hx => h x (by simp [hx])), Nat.mul_comm a 10]
    rfl

theorem decNat_dec (u : Nat) (h : u ≤ 999999) : Lib.decNat (Lib.decDigits u) = some u := by
  have hl := (len_dec u h).1
  unfold Lib.decNat
  rw [if_neg (by intro e; rw [List.isEmpty_iff] at e; rw [e] at hl; simp at hl), decFrom_dv _ 0 (digs_dec u)]
  exact congrArg some (dv_dec u)

/-- l is the numeral of n -/
def Inv (l : List UInt8) (n : Int) : Prop := -999999 ≤ n ∧ n ≤ 999999 ∧ Lib.itoa n = l

theorem itoa_cases (n : Int) : (n < 0 ∧ Lib.itoa n = 45 :: Lib.decDigits n.natAbs) ∨ (0 ≤ n ∧ Lib.itoa n = Lib.decDigits n.natAbs) := by
  by_cases h : n < 0
  · left; refine ⟨h, ?_⟩; unfold Lib.itoa; rw [if_pos h]
  · right; refine ⟨by omega, ?_⟩; unfold Lib.itoa; rw [if_neg h]; congr 1; omega

theorem itoa_len (n : Int) (h1 : -999999 ≤ n) (h2 : n ≤ 999999) : 1 ≤ (Lib.itoa n).length ∧ (Lib.itoa n).length ≤ 7 := by
  have := len_dec n.natAbs (by omega)
  rcases itoa_cases n with ⟨_, e⟩ | ⟨_, e⟩
  · rw [e, List.length_cons]; omega
  · rw [e]; omega

theorem atoi_itoa (n : Int) (h1 : -999999 ≤ n) (h2 : n ≤ 999999) : Lib.atoiAll (Lib.itoa n) = .ok n := by
  rw [Lib.atoiAll_short _ (by have := itoa_len n h1 h2; omega)]
  have hd := decNat_dec n.natAbs (by omega)
  rcases itoa_cases n with ⟨hn, e⟩ | ⟨hn, e⟩
  · rw [e]
    show Lib.NumEnd.ofOption ((Lib.decNat (Lib.decDigits n.natAbs)).map fun (m : Nat) => -(m : Int)) = _
    rw [hd]
    show Lib.NumEnd.ok (-((n.natAbs : Nat) : Int)) = _
    congr 1; omega
  · rw [e]
    have hl := len_dec n.natAbs (by omega)
    have hg := digs_dec n.natAbs
    cases hx : Lib.decDigits n.natAbs with
    | nil => rw [hx] at hl; simp at hl
    | cons b r =>
      rw [hx] at hg hd
      have hb := hg b (by simp)
      have e1 : (b == 45) = false := by
        rw [beq_eq_false_iff_ne]; rintro rfl; have : (45 : UInt8).toNat = 45 := rfl; omega
      have e2 : (b == 43) = false := by
        rw [beq_eq_false_iff_ne]; rintro rfl; have : (43 : UInt8).toNat = 43 := rfl; omega
      unfold Lib.atoi
      simp only [e1, e2, Bool.false_eq_true, if_false, hd]
      show Lib.NumEnd.ok ((n.natAbs : Nat) : Int) = _
      congr 1; omega

theorem Inv.uniq {l : List UInt8} {n m : Int} (h : Inv l n) (k : Inv l m) : n = m := by
  have e1 := atoi_itoa n h.1 h.2.1
  have e2 := atoi_itoa m k.1 k.2.1
  rw [h.2.2] at e1
  rw [k.2.2] at e2
  rw [e1] at e2
  injection e2

/-- how a numeral's reading ends: the number and true; else 0 and false -/
def Rd (l : List UInt8) (v : Int) (b : Bool) : Prop := (b = true ∧ Inv l v) ∨ (b = false ∧ v = 0 ∧ ∀ n, ¬ Inv l n)

theorem Rd.uniq {l : List UInt8} {v v' : Int} {b b' : Bool} (h : Rd l v b) (k : Rd l v' b') : v = v' ∧ b = b' := by
  rcases h with ⟨rfl, h⟩ | ⟨rfl, rfl, h⟩ <;> rcases k with ⟨rfl, k⟩ | ⟨rfl, rfl, k⟩
  · exact ⟨h.uniq k, rfl⟩
  · exact absurd h (k _)
  · exact absurd k (h _)
  · exact ⟨rfl, rfl⟩

theorem Rd.no {l : List UInt8} (h : ∀ n, ¬ Inv l n) : Rd l 0 false := .inr ⟨rfl, rfl, h⟩
theorem Rd.yes {l : List UInt8} {n : Int} (h : Inv l n) : Rd l n true := .inl ⟨rfl, h⟩

theorem neg_head {r : List UInt8} {n : Int} (h : Inv (45 :: r) n) : n < 0 ∧ r = Lib.decDigits n.natAbs := by
  obtain ⟨h1, h2, h3⟩ := h
  rcases itoa_cases n with ⟨hn, e⟩ | ⟨hn, e⟩
  · rw [e] at h3; injection h3 with _ h3; exact ⟨hn, h3.symm⟩
  · rw [e] at h3
    have := digs_dec n.natAbs 45 (by rw [h3]; simp)
    have e45 : (45 : UInt8).toNat = 45 := rfl
    omega

theorem pos_head {l : List UInt8} {n : Int} (h : Inv l n) (h45 : l.head? ≠ some 45) : 0 ≤ n ∧ l = Lib.decDigits n.natAbs := by
  obtain ⟨h1, h2, h3⟩ := h
  rcases itoa_cases n with ⟨hn, e⟩ | ⟨hn, e⟩
  · rw [e] at h3; subst h3; simp at h45
  · exact ⟨hn, by rw [← h3, e]⟩

/-- the numeral behind the sign -/
theorem no_minus {r : List UInt8} (h : r.length = 0 ∨ 6 < r.length ∨ ¬ Digs r) (n : Int) : ¬ Inv (45 :: r) n := by
  intro k
  obtain ⟨hn, rfl⟩ := neg_head k
  have hl := len_dec n.natAbs (by have := k.1; omega)
  have hd := digs_dec n.natAbs
  rcases h with h | h | h
  · omega
  · omega
  · exact h hd

theorem no_plain {l : List UInt8} (h45 : l.head? ≠ some 45) (h : l.length = 0 ∨ 6 < l.length ∨ ¬ Digs l) (n : Int) : ¬ Inv l n := by
  intro k
  obtain ⟨hn, rfl⟩ := pos_head k h45
  have hl := len_dec n.natAbs (by have := k.2.1; omega)
  have hd := digs_dec n.natAbs
  rcases h with h | h | h
  · omega
  · omega
  · exact h hd

theorem val_minus {r : List UInt8} {n : Int} (k : Inv (45 :: r) n) : n = -(dv r : Int) := by
  obtain ⟨hn, rfl⟩ := neg_head k
  rw [dv_dec]; omega
theorem val_plain {l : List UInt8} {n : Int} (h45 : l.head? ≠ some 45) (k : Inv l n) : n = (dv l : Int) := by
  obtain ⟨hn, rfl⟩ := pos_head k h45
  rw [dv_dec]; omega

/-- the end: the numeral of what was read is the text, or the text is no numeral -/
theorem end_minus {r : List UInt8} (hg : Digs r) (hl : r.length ≤ 6) : (Lib.itoa (-(dv r : Int)) = 45 :: r → Rd (45 :: r) (-(dv r : Int)) true) ∧ (Lib.itoa (-(dv r : Int)) ≠ 45 :: r → Rd (45 :: r) 0 false) := by
  have hb := dv_lt6 r hg hl
  exact ⟨fun e => .yes ⟨by omega, by omega, e⟩, fun e => .no fun n k => e (by rw [← val_minus k]; exact k.2.2)⟩
theorem end_plain {l : List UInt8} (h45 : l.head? ≠ some 45) (hg : Digs l) (hl : l.length ≤ 6) : (Lib.itoa (dv l : Int) = l → Rd l (dv l : Int) true) ∧ (Lib.itoa (dv l : Int) ≠ l → Rd l 0 false) := by
  have hb := dv_lt6 l hg hl
  exact ⟨fun e => .yes ⟨by omega, by omega, e⟩, fun e => .no fun n k => e (by rw [← val_plain h45 k]; exact k.2.2)⟩

theorem one_minus {l : List UInt8} (hp : ¬ (1 < l.length ∧ l.head? = some 45)) (h : l.head? = some 45) : l = [45] := by
  match l, hp, h with
  | [c], _, h => simpa using h
  | c :: d :: r, hp, h => exact absurd ⟨by simp, h⟩ hp

theorem no_plain' {l : List UInt8} (hp : ¬ (1 < l.length ∧ l.head? = some 45)) (h : l.length = 0 ∨ 6 < l.length ∨ ¬ Digs l) (n : Int) : ¬ Inv l n := by
  by_cases h45 : l.head? = some 45
  · rw [one_minus hp h45]; exact no_minus (.inl rfl) n
  · exact no_plain h45 h n

theorem end_plain' {l : List UInt8} (hg : Digs l) (hl : l.length ≤ 6) : (Lib.itoa (dv l : Int) = l → Rd l (dv l : Int) true) ∧ (Lib.itoa (dv l : Int) ≠ l → Rd l 0 false) := by
  refine end_plain (fun h => ?_) hg hl
  cases l with
  | nil => simp at h
  | cons c r =>
    obtain rfl : c = 45 := by simpa using h
    have := hg 45 (by simp)
    have e45 : (45 : UInt8).toNat = 45 := rfl
    omega

end Go.Proofs.YtdgbigkcophjoaaDoor.PlainNum

/- Plain words on the text of a face, and on short decimal texts. No condition. -/
namespace Go.Proofs.YtdgbigkcophjoaaDoor.PlainFace
set_option linter.unusedVariables false
open Go.Proofs.YtdgbigkcophjoaaDoor.PlainNum

def dig (d : Int) : UInt8 := UInt8.ofNat (48 + d.toNat)
theorem itoa_nn {n : Int} (h : 0 ≤ n) : Lib.itoa n = Lib.decDigits n.toNat := by
  rcases itoa_cases n with ⟨h1, _⟩ | ⟨_, e⟩
  · omega
  · rw [e]; congr 1; omega
theorem itoa_dig {d : Int} (h0 : 0 ≤ d) (h : d < 10) : Lib.itoa d = [dig d] := by
  rw [itoa_nn h0, Lib.decDigits_one (by omega)]
  rfl
theorem dec_step (n : Nat) (h : 10 ≤ n) : Lib.decDigits n = Lib.decDigits (n / 10) ++ [UInt8.ofNat (48 + n % 10)] := by
  rw [Lib.decDigits, dif_neg (by omega)]
theorem itoa_hund {r : Int} (h0 : 0 ≤ r) (h : r < 100) : Lib.itoa (100 + r) = [49, dig (r / 10), dig (r % 10)] := by
  rw [itoa_nn (by omega), dec_step _ (by omega), dec_step _ (by omega), Lib.decDigits_one (by omega)]
  unfold dig
  rw [show (100 + r).toNat / 10 / 10 = 1 by omega, show (100 + r).toNat / 10 % 10 = (r / 10).toNat by omega, show (100 + r).toNat % 10 = (r % 10).toNat by omega]
  rfl
theorem itoa_hund' {n : Int} (h0 : 0 ≤ n) : Lib.itoa (100 + n % 100) = [49, dig (n % 100 / 10), dig (n % 10)] := by
  rw [itoa_hund (by omega) (by omega), show n % 100 % 10 = n % 10 by omega]
theorem itoa_short {n : Int} (h1 : -999999 ≤ n) (h2 : n ≤ 999999) : (Lib.itoa n).length ≤ 7 := (itoa_len n h1 h2).2
/-- the text of a face -/
def faceL (n : Int) : List UInt8 := Lib.itoa (n / 100) ++ [46] ++ Lib.itoa (n / 10 % 10) ++ Lib.itoa (n % 10)
theorem faceL_len {n : Int} (h0 : 0 ≤ n) (h : n ≤ 9999) : (faceL n).length ≤ 30 := by
  unfold faceL
  have a := itoa_short (n := n / 100) (by omega) (by omega)
  have b := itoa_short (n := n / 10 % 10) (by omega) (by omega)
  have c := itoa_short (n := n % 10) (by omega) (by omega)
  simp only [List.length_append, List.length_cons, List.length_nil]
  omega
theorem faceL_hund {n : Int} (h0 : 0 ≤ n) (h : n ≤ 9999) : faceL n = Lib.itoa (n / 100) ++ [46] ++ [dig (n % 100 / 10), dig (n % 10)] := by
  unfold faceL
  rw [itoa_dig (d := n / 10 % 10) (by omega) (by omega), itoa_dig (d := n % 10) (by omega) (by omega), show n % 100 / 10 = n / 10 % 10 by omega, List.append_assoc]
  rfl
def str (l : List UInt8) : ByteArray := ⟨l.toArray⟩
def faceRes (n : Int) : ByteArray × Bool := if 0 ≤ n ∧ n ≤ 9999 then (str (faceL n), true) else (⟨#[]⟩, false)
theorem faceRes_yes {n : Int} (h0 : 0 ≤ n) (h : n ≤ 9999) : faceRes n = (str (faceL n), true) := by unfold faceRes; rw [if_pos ⟨h0, h⟩]
theorem faceRes_no {n : Int} (h : n < 0 ∨ 9999 < n) : faceRes n = (⟨#[]⟩, false) := by unfold faceRes; rw [if_neg (by omega)]
end Go.Proofs.YtdgbigkcophjoaaDoor.PlainFace

/- Decimal texts as plain functions: Itoa and l1Num, for short numbers. No condition. -/
namespace Go.Proofs.YtdgbigkcophjoaaDoor.QNum
set_option linter.unusedVariables false
set_option linter.unusedSimpArgs false
open Go.RowKit
open Go.Proofs.YtdgbigkcophjoaaDoor.GoP Go.Proofs.YtdgbigkcophjoaaDoor.QBase

def itoaB (n : Int) : ByteArray := ⟨(Lib.itoa n).toArray⟩
theorem itoa_eq {n : Int} (h1 : -999999 ≤ n) (h2 : n ≤ 999999) : GxStrconvItoa.P n = some (itoaB n) := by unfold GxStrconvItoa.P; rw [if_pos (by omega)]; rfl
theorem num_eq {n : Int} (h1 : -999999 ≤ n) (h2 : n ≤ 999999) : GsL1Num.P n = some (itoaB n) := by unfold GsL1Num.P; rw [if_pos (by omega)]; rfl
theorem itoaB_size {n : Int} (h1 : -999999 ≤ n) (h2 : n ≤ 999999) : (itoaB n).size ≤ 7 := by
  show (Lib.itoa n).toArray.size ≤ 7
  rw [List.size_toArray]; exact (PlainNum.itoa_len n h1 h2).2
theorem wrap_short {x : Int} (h1 : -9223372036854775808 ≤ x) (h2 : x ≤ 9223372036854775807) : IntKind.i64.wrap x = x := IntWalk.i64_in _ (by omega)
theorem fits_cat {a b : ByteArray} (h : a.size + b.size ≤ 9223372036854775807) {ρ : Type} {x : Option ρ} : guardK (a.size + b.size ≤ maxLen) x = x := guardK_pos (by unfold maxLen; exact h)
end Go.Proofs.YtdgbigkcophjoaaDoor.QNum

/- Reckoning with the loops of plain functions; lists of valid records with rising ids. No condition. -/
namespace Go.Proofs.YtdgbigkcophjoaaDoor.QLoop
set_option linter.unusedVariables false
open Go.RowKit
open Go.Proofs.YtdgbigkcophjoaaDoor.GoP Go.Proofs.YtdgbigkcophjoaaDoor.QBase

theorem cnt_ex {σ ρ : Type} {f : Nat → σ → (σ → Option ρ) → (σ → Option ρ) → Option ρ} {fin : σ → Option ρ} {Q : ρ → Prop} {n : Nat} (I : Nat → σ → Prop)
    (step : ∀ k s nx, k < n → I k s → (∀ s', I (k + 1) s' → ∃ r, nx s' = some r ∧ Q r) → ∃ r, f k s nx fin = some r ∧ Q r) (done : ∀ s, I n s → ∃ r, fin s = some r ∧ Q r) :
    ∀ m k s, k + m = n → I k s → ∃ r, cntK f m k s fin = some r ∧ Q r := by
  intro m
  induction m with
  | zero => intro k s hk hI; obtain rfl : k = n := by omega
            exact done s hI
  | succ m ih => intro k s hk hI; exact step k s _ (by omega) hI (fun s' h' => ih (k + 1) s' (by omega) h')
theorem cnt_is {σ ρ : Type} {f : Nat → σ → (σ → Option ρ) → (σ → Option ρ) → Option ρ} {fin : σ → Option ρ} {n : Nat} (r : ρ) (I : Nat → σ → Prop)
    (step : ∀ k s nx, k < n → I k s → (∀ s', I (k + 1) s' → nx s' = some r) → f k s nx fin = some r) (done : ∀ s, I n s → fin s = some r) (s : σ) (h0 : I 0 s) : cntK f n 0 s fin = some r := by
  obtain ⟨r', h, rfl⟩ := cnt_ex (Q := fun x => x = r) I (fun k s nx hk hI hn => ⟨r, step k s nx hk hI (fun s' h' => by obtain ⟨_, h, rfl⟩ := hn s' h'; exact h), rfl⟩) (fun s h => ⟨r, done s h, rfl⟩) n 0 s (by omega) h0
  exact h
theorem at_lt {α : Type} {l : List α} {k : Nat} (h : k < l.length) : ∃ x, l[k]? = some x ∧ idx l (k : Int) = some x := ⟨l[k], List.getElem?_eq_getElem h, by rw [idx_nat, List.getElem?_eq_getElem h]⟩
theorem idx_pred {α : Type} {l : List α} {k : Nat} {x : α} (hk : 0 < k) (hb : k ≤ 9223372036854775807) (h : l[k - 1]? = some x) : idx l (IntKind.i64.wrap ((k : Int) - 1)) = some x := by
  rw [IntWalk.i64_in _ (by omega), show ((k : Int) - 1) = ((k - 1 : Nat) : Int) by omega, idx_nat, h]
theorem take_next {α : Type} {l : List α} {k : Nat} {x : α} (h : l[k]? = some x) : l.take (k + 1) = l.take k ++ [x] := by
  obtain ⟨hk, e⟩ := List.getElem?_eq_some_iff.1 h
  rw [List.take_succ_eq_append_getElem hk, e]
theorem all_next {α : Type} {p : α → Bool} {l : List α} {k : Nat} {x : α} (h : l[k]? = some x) : (l.take (k + 1)).all p = ((l.take k).all p && p x) := by
  rw [take_next h]; simp
theorem not_all {α : Type} {p : α → Bool} {l : List α} {k : Nat} {x : α} (h : l[k]? = some x) (hp : p x = false) : l.all p = false := by
  rw [Bool.eq_false_iff]
  intro ha
  have := List.all_eq_true.1 ha x (List.mem_of_getElem? h)
  rw [hp] at this; exact absurd this (by simp)
theorem wrap_in {x : Int} (h1 : -9223372036854775808 ≤ x) (h2 : x ≤ 9223372036854775807) : IntKind.i64.wrap x = x := IntWalk.i64_in _ (by omega)

/-- valid, and above the one ahead of it -/
def upAt {α : Type} (ok : α → Bool) (id : α → Int) (l : List α) (k : Nat) : Bool :=
  match l[k]? with
  | none => true
  | some s => ok s && (decide (k = 0) || (match l[k-1]? with | none => true | some r => decide (id r < id s)))
def upTo {α : Type} (ok : α → Bool) (id : α → Int) (l : List α) (k : Nat) : Bool := (List.range k).all (upAt ok id l)
theorem upTo_zero {α : Type} (ok : α → Bool) (id : α → Int) (l : List α) : upTo ok id l 0 = true := rfl
theorem upTo_succ {α : Type} (ok : α → Bool) (id : α → Int) (l : List α) (k : Nat) : upTo ok id l (k + 1) = (upTo ok id l k && upAt ok id l k) := by simp [upTo, List.range_succ, List.all_append]
theorem upTo_not {α : Type} {ok : α → Bool} {id : α → Int} {l : List α} {k n : Nat} (h : upAt ok id l k = false) (hk : k < n) : upTo ok id l n = false := by
  unfold upTo
  rw [Bool.eq_false_iff]
  intro ha
  have := List.all_eq_true.1 ha k (List.mem_range.2 hk)
  rw [h] at this; exact absurd this (by simp)
/-- a list of at most m valid records with rising ids -/
def upL {α : Type} (m : Nat) (ok : α → Bool) (id : α → Int) (l : List α) : Bool := decide (l.length ≤ m) && upTo ok id l l.length
theorem upAt_bad {α : Type} {ok : α → Bool} {id : α → Int} {l : List α} {k : Nat} {s : α} (hs : l[k]? = some s) (h : ok s = false) : upAt ok id l k = false := by unfold upAt; rw [hs]; simp [h]
theorem upAt_first {α : Type} {ok : α → Bool} {id : α → Int} {l : List α} {s : α} (hs : l[0]? = some s) (h : ok s = true) : upAt ok id l 0 = true := by unfold upAt; rw [hs]; simp [h]
theorem upAt_next {α : Type} {ok : α → Bool} {id : α → Int} {l : List α} {k : Nat} {s r : α} (hs : l[k]? = some s) (hr : l[k-1]? = some r) (hk : 0 < k) (h : ok s = true) : upAt ok id l k = decide (id r < id s) := by
  unfold upAt; rw [hs]; simp only [hr, h, Bool.true_and, decide_eq_false (show ¬ k = 0 by omega), Bool.false_or]
theorem upL_len {α : Type} {m : Nat} {ok : α → Bool} {id : α → Int} {l : List α} (h : upL m ok id l = true) : l.length ≤ m := by unfold upL at h; simp only [Bool.and_eq_true, decide_eq_true_eq] at h; exact h.1
theorem upL_ok {α : Type} {m : Nat} {ok : α → Bool} {id : α → Int} {l : List α} (h : upL m ok id l = true) {k : Nat} {s : α} (hs : l[k]? = some s) : ok s = true := by
  unfold upL at h
  simp only [Bool.and_eq_true, decide_eq_true_eq] at h
  have := List.all_eq_true.1 h.2 k (List.mem_range.2 (List.getElem?_eq_some_iff.1 hs).1)
  unfold upAt at this
  rw [hs] at this
  simp only [Bool.and_eq_true] at this
  exact this.1
theorem upL_mem {α : Type} {m : Nat} {ok : α → Bool} {id : α → Int} {l : List α} (h : upL m ok id l = true) {s : α} (hs : s ∈ l) : ok s = true := by
  obtain ⟨k, hk⟩ := List.getElem?_of_mem hs
  exact upL_ok h hk
/-- a loop that goes through a list of records and stops with 'false' at the first that is bad -/
theorem up_loop {α : Type} {ok : α → Bool} {id : α → Int} {l : List α} {R : Type} {no : R} {f : Nat → Unit → (Unit → Option R) → (Unit → Option R) → Option R} {fin : Unit → Option R}
    (step : ∀ k nx s, l[k]? = some s → (ok s = false → f k () nx fin = some no) ∧ (ok s = true → (k = 0 → f k () nx fin = nx ()) ∧ (0 < k → ∀ r, l[k-1]? = some r → (id r < id s → f k () nx fin = nx ()) ∧ (id s ≤ id r → f k () nx fin = some no)))) :
    cntK f l.length 0 () fin = if upTo ok id l l.length then fin () else some no := by
  have key : ∀ m k, k + m = l.length → upTo ok id l k = true → cntK f m k () fin = if upTo ok id l l.length then fin () else some no := by
    intro m
    induction m with
    | zero => intro k hk hu; obtain rfl : k = l.length := by omega
              rw [hu]; rfl
    | succ m ih =>
      intro k hk hu
      have hlt : k < l.length := by omega
      obtain ⟨s, hs, _⟩ := at_lt hlt
      obtain ⟨h1, h2⟩ := step k (fun s' => cntK f m (k + 1) s' fin) s hs
      show f k () _ fin = _
      cases hok : ok s with
      | false => rw [h1 hok, upTo_not (upAt_bad hs hok) hlt]; rfl
      | true =>
        obtain ⟨h3, h4⟩ := h2 hok
        by_cases hk0 : k = 0
        · rw [h3 hk0]
          subst hk0
          exact ih 1 (by omega) (by rw [upTo_succ, hu, upAt_first hs hok]; rfl)
        · obtain ⟨r, hr, _⟩ := at_lt (l := l) (k := k - 1) (by omega)
          obtain ⟨h5, h6⟩ := h4 (by omega) r hr
          by_cases hlt2 : id r < id s
          · rw [h5 hlt2]
            exact ih (k + 1) (by omega) (by rw [upTo_succ, hu, upAt_next hs hr (by omega) hok]; simpa using hlt2)
          · rw [h6 (by omega), upTo_not (by rw [upAt_next hs hr (by omega) hok]; simpa using hlt2) hlt]; rfl
  exact key l.length 0 (by omega) (upTo_zero ok id l)
end Go.Proofs.YtdgbigkcophjoaaDoor.QLoop

/- Loops that test each place, and loops without a count. No condition. -/
namespace Go.Proofs.YtdgbigkcophjoaaDoor.QAll
set_option linter.unusedVariables false
set_option linter.unusedSimpArgs false
open Go.RowKit
open Go.Proofs.YtdgbigkcophjoaaDoor.GoP Go.Proofs.YtdgbigkcophjoaaDoor.QBase Go.Proofs.YtdgbigkcophjoaaDoor.QLoop

/-- each number below n is good -/
def allN (n : Nat) (p : Nat → Bool) : Bool := (List.range n).all p
theorem allN_iff {n : Nat} {p : Nat → Bool} : allN n p = true ↔ ∀ i, i < n → p i = true := by unfold allN; simp
theorem allN_no {n k : Nat} {p : Nat → Bool} (hk : k < n) (h : p k = false) : allN n p = false := by
  rw [Bool.eq_false_iff]; intro ha; rw [allN_iff.1 ha k hk] at h; exact absurd h (by simp)
theorem allN_eq {n m : Nat} {p q : Nat → Bool} (h : (∀ i, i < n → p i = true) ↔ (∀ i, i < m → q i = true)) : allN n p = allN m q := by
  rw [Bool.eq_iff_iff, allN_iff, allN_iff]; exact h
theorem all_cnt {ρ : Type} {n : Nat} {p : Nat → Bool} {no : ρ} {f : Nat → Unit → (Unit → Option ρ) → (Unit → Option ρ) → Option ρ} {fin : Unit → Option ρ}
    (step : ∀ k nx, k < n → (p k = false → f k () nx fin = some no) ∧ (p k = true → f k () nx fin = nx ())) : cntK f n 0 () fin = if allN n p = true then fin () else some no := by
  have key : ∀ m k, k + m = n → (∀ i, i < k → p i = true) → cntK f m k () fin = if allN n p = true then fin () else some no := by
    intro m
    induction m with
    | zero => intro k hk hu; obtain rfl : k = n := by omega
              rw [allN_iff.2 hu]; rfl
    | succ m ih =>
      intro k hk hu
      obtain ⟨h1, h2⟩ := step k (fun s' => cntK f m (k + 1) s' fin) (by omega)
      show f k () _ fin = _
      cases hp : p k with
      | false => rw [h1 hp, allN_no (by omega) hp]; rfl
      | true =>
        rw [h2 hp]
        refine ih (k + 1) (by omega) (fun i hi => ?_)
        by_cases he : i = k
        · rw [he]; exact hp
        · exact hu i (by omega)
  exact key n 0 (by omega) (fun i hi => by omega)
theorem lp_ex {σ ρ : Type} {f : σ → (σ → Option ρ) → (σ → Option ρ) → Option ρ} {fin : σ → Option ρ} {Q : ρ → Prop} {n : Nat} (I : Nat → σ → Prop)
    (step : ∀ k s nx, k < n → I k s → (∀ s', I (k + 1) s' → ∃ r, nx s' = some r ∧ Q r) → ∃ r, f s nx fin = some r ∧ Q r) (done : ∀ s nx, I n s → ∃ r, f s nx fin = some r ∧ Q r) :
    ∀ fuel k s, k ≤ n → n - k < fuel → I k s → ∃ r, loopK f fuel s fin = some r ∧ Q r := by
  intro fuel
  induction fuel with
  | zero => intro k s hk hf; omega
  | succ m ih =>
    intro k s hk hf hI
    show ∃ r, f s _ fin = some r ∧ Q r
    by_cases he : k = n
    · subst he; exact done s _ hI
    · exact step k s _ (by omega) hI (fun s' h' => ih (k + 1) s' (by omega) (by omega) h')
theorem all_lp {ρ : Type} {n : Nat} {p : Nat → Bool} {no : ρ} {f : Int → (Int → Option ρ) → (Int → Option ρ) → Option ρ} {fin : Int → Option ρ}
    (step : ∀ (k : Nat) nx, k < n → (p k = false → f (k : Int) nx fin = some no) ∧ (p k = true → f (k : Int) nx fin = nx ((k + 1 : Nat) : Int))) (stop : ∀ nx, f (n : Int) nx fin = fin (n : Int))
    (fuel : Nat) (hf : n < fuel) : loopK f fuel 0 fin = if allN n p = true then fin (n : Int) else some no := by
  have key : ∀ fuel k, k ≤ n → n - k < fuel → (∀ i, i < k → p i = true) → loopK f fuel (k : Int) fin = if allN n p = true then fin (n : Int) else some no := by
    intro fuel
    induction fuel with
    | zero => intro k hk hf; omega
    | succ m ih =>
      intro k hk hf hu
      show f (k : Int) _ fin = _
      by_cases he : k = n
      · subst he; rw [stop, allN_iff.2 hu]; rfl
      · obtain ⟨h1, h2⟩ := step k (fun s' => loopK f m s' fin) (by omega)
        cases hp : p k with
        | false => rw [h1 hp, allN_no (by omega) hp]; rfl
        | true =>
          rw [h2 hp]
          refine ih (k + 1) (by omega) (by omega) (fun i hi => ?_)
          by_cases he : i = k
          · rw [he]; exact hp
          · exact hu i (by omega)
  exact key fuel 0 (by omega) (by omega) (fun i hi => by omega)
theorem next_i {k : Nat} (h : k ≤ 9223372036854775806) : IntKind.i64.wrap ((k : Int) + 1) = ((k + 1 : Nat) : Int) := by rw [wrap_in (by omega) (by omega)]; omega
end Go.Proofs.YtdgbigkcophjoaaDoor.QAll

/- Draws on tapes: each gives something within its bounds. (QDraw) No condition but those of each theorem. -/
namespace Go.Proofs.YtdgbigkcophjoaaDoor.QDraw
set_option linter.unusedVariables false
set_option linter.unusedSimpArgs false
open Go.RowKit
open Go.Proofs.YtdgbigkcophjoaaDoor.GoP Go.Proofs.YtdgbigkcophjoaaDoor.PlainStamp Go.Proofs.YtdgbigkcophjoaaDoor.QBase Go.Proofs.YtdgbigkcophjoaaDoor.QLoop

/-- a tape that may be asked m times more -/
def good (t : GoC.Tape) (m : Nat) : Prop := m ≤ t.left ∧ ∀ i, 0 ≤ t.vals i ∧ t.vals i ≤ 255
theorem good_less {t : GoC.Tape} {m n : Nat} (h : good t m) (hn : n ≤ m) : good t n := ⟨Nat.le_trans hn h.1, h.2⟩
theorem good_of {tapes : List Int → GoC.Tape} (h : GoC.Tells tapes) (code : List Int) {m : Nat} (hm : m ≤ 4611686018427387904) : good (tapes code) m := ⟨by rw [h.1]; exact hm, h.2.1 code⟩
theorem next_ok {t : GoC.Tape} {m : Nat} (h : good t (m + 1)) : ∃ b t', GsL1CurNext.P t = some (b, t') ∧ (0 ≤ b ∧ b ≤ 255) ∧ good t' m := by
  unfold GsL1CurNext.P
  rw [if_pos (by have := h.1; omega)]
  exact ⟨_, _, rfl, h.2 0, by have := h.1; show m ≤ t.left - 1; omega, fun i => h.2 (i + 1)⟩
theorem pick_ok {t : GoC.Tape} {m : Nat} {n : Int} (h : good t (m + 2)) : ∃ x t', GsL1CurPick.P t n = some (x, t') ∧ 0 ≤ x ∧ (x < n ∨ n ≤ 1 ∧ x = 0) ∧ x ≤ 65535 ∧ good t' m := by
  simp only [GsL1CurPick.P, letK, iteK_if]
  by_cases hn : n ≤ 1
  · rw [if_pos (by simpa using hn)]
    exact ⟨0, t, rfl, by omega, by omega, by omega, good_less h (by omega)⟩
  · rw [if_neg (by simpa using hn)]
    obtain ⟨b, t1, e1, hb, h1⟩ := next_ok (m := m + 1) h
    rw [e1]
    simp only [bind2_some]
    by_cases h2 : 200 < n
    · rw [if_pos (by simpa using h2)]
      obtain ⟨b2, t2, e2, hb2, h3⟩ := next_ok (m := m) h1
      rw [e2]
      simp only [bind2_some, GsL1CurPick.j0, unp2, letK]
      rw [guardK_pos (by omega), wrap_in (x := b * 256) (by omega) (by omega), wrap_in (by omega) (by omega), Int.tmod_eq_emod_of_nonneg (by omega)]
      have k1 := Int.emod_nonneg (b * 256 + b2) (show n ≠ 0 by omega)
      have k2 := Int.emod_lt_of_pos (b * 256 + b2) (show 0 < n by omega)
      have k3 : (b * 256 + b2) % n ≤ 65535 := by
        by_cases hq : n ≤ 65536
        · omega
        · rw [Int.emod_eq_of_lt (by omega) (by omega)]; omega
      exact ⟨_, _, rfl, k1, .inl k2, by omega, h3⟩
    · rw [if_neg (by simpa using h2)]
      simp only [GsL1CurPick.j0, unp2, letK]
      rw [guardK_pos (by omega), Int.tmod_eq_emod_of_nonneg (by omega)]
      have k1 := Int.emod_nonneg b (show n ≠ 0 by omega)
      have k2 := Int.emod_lt_of_pos b (show 0 < n by omega)
      exact ⟨_, _, rfl, k1, .inl k2, by omega, good_less h1 (by omega)⟩
theorem among_ok {t : GoC.Tape} {m : Nat} {l : List Int} (h : good t (m + 2)) (h0 : 0 < l.length) : ∃ x t', GsL1CurAmong.P t l = some (x, t') ∧ x ∈ l ∧ good t' m := by
  obtain ⟨x, t', e, hx0, hx, _, hg⟩ := pick_ok (n := (l.length : Int)) h
  simp only [GsL1CurAmong.P, e, bind2_some]
  obtain ⟨y, hy, hyi⟩ := at_lt (l := l) (k := x.toNat) (by omega)
  rw [show ((x.toNat : Nat) : Int) = x by omega] at hyi
  exact ⟨y, t', by rw [hyi]; rfl, List.mem_of_getElem? hy, hg⟩
theorem one_ok {t : GoC.Tape} {m : Nat} {n : Int} (h : good t (m + 2)) : ∃ b t', GsL1CurOne.P t n = some (b, t') ∧ good t' m := by
  obtain ⟨x, t', e, _, _, _, hg⟩ := pick_ok (n := n) h
  exact ⟨x == 0, t', by simp only [GsL1CurOne.P, e, bind2_some, letK], hg⟩
end Go.Proofs.YtdgbigkcophjoaaDoor.QDraw

/- What the law FnCombs tells of combs: each comb is in one group of the same gauges. (Q5CDraws) No condition but those of each theorem. -/
namespace Go.Proofs.YtdgbigkcophjoaaDoor.Q5CDraws
set_option linter.unusedVariables false
set_option linter.unusedSimpArgs false
open Go.RowKit
open Go.Proofs.YtdgbigkcophjoaaDoor.GoP Go.Proofs.YtdgbigkcophjoaaDoor.PlainStamp Go.Proofs.YtdgbigkcophjoaaDoor.QBase Go.Proofs.YtdgbigkcophjoaaDoor.QLoop Go.Proofs.YtdgbigkcophjoaaDoor.QAll Go.Proofs.YtdgbigkcophjoaaDoor.QDraw Go.Proofs.YtdgbigkcophjoaaDoor.PComb

theorem gauge5_ok {t : GoC.Tape} {m : Nat} (h : good t (m + 2)) : ∃ x t', GsL1CurGauge5.P t = some (x, t') ∧ good t' m := by
  obtain ⟨x, t', e, _, hg⟩ := among_ok (l := [500, 1100, 1150, 1175, 1200, 1400, 2000]) h (by simp)
  exact ⟨x, t', by simp only [GsL1CurGauge5.P, letK, e, bind2_some], hg⟩
theorem ask5_ok {t : GoC.Tape} {m : Nat} (h : good t (m + 6)) : ∃ x t', GsL1CurAsk5.P t = some (x, t') ∧ good t' m := by
  obtain ⟨b, t1, e1, h1⟩ := one_ok (n := 8) (m := m + 4) h
  simp only [GsL1CurAsk5.P, e1, bind2_some, letK, iteK_if]
  cases b with
  | true =>
    obtain ⟨x, t2, e2, _, h2⟩ := among_ok (l := [0, 0, 499, 2001]) (m := m + 2) h1 (by simp)
    exact ⟨x, t2, by simp [e2, bind2], good_less h2 (by omega)⟩
  | false =>
    obtain ⟨x, t2, e2, h2⟩ := gauge5_ok (m := m + 2) h1
    obtain ⟨y, t3, e3, _, h3⟩ := among_ok (l := [0, 0, 10, 25, (-25)]) (m := m) h2 (by simp)
    exact ⟨IntKind.i64.wrap (x + y), t3, by simp only [Bool.false_eq_true, if_false, e2, e3, bind2_some], h3⟩
theorem comb5_ok {t : GoC.Tape} {m : Nat} (id : Int) (h : good t (m + 12)) : ∃ x t', GsL1CurComb5.P t id = some (x, t') ∧ good t' m := by
  obtain ⟨a, t1, e1, h1⟩ := gauge5_ok (m := m + 10) h
  obtain ⟨b, t2, e2, h2⟩ := gauge5_ok (m := m + 8) h1
  obtain ⟨l, t3, e3, h3⟩ := one_ok (n := 3) (m := m + 6) h2
  obtain ⟨q, t4, e4, h4⟩ := one_ok (n := 3) (m := m + 4) h3
  have hj : ∀ s : Int × Int × Int × Bool, ∃ x t', GsL1CurComb5.j0 t4 s = some (x, t') ∧ good t' m := by
    rintro ⟨x0, x1, x2, x3⟩
    obtain ⟨p, t5, e5, _, _, _, h5⟩ := pick_ok (n := 80) (m := m + 2) h4
    obtain ⟨y, t6, e6, _, h6⟩ := among_ok (l := [0, 99, 100]) (m := m) h5 (by simp)
    obtain ⟨z, t7, e7, _, h7⟩ := among_ok (l := [499, 2001]) (m := m) h5 (by simp)
    simp only [GsL1CurComb5.j0, unp4, e5, e6, e7, bind2_some, letK, iteK_if]
    by_cases p0 : p = 0
    · exact ⟨⟨y, x1, x2, x3⟩, t6, by simp [p0], h6⟩
    · by_cases p1 : p = 1
      · exact ⟨⟨x0, z, x2, x3⟩, t7, by simp [p1], h7⟩
      · by_cases p2 : p = 2
        · exact ⟨⟨x0, x1, z, x3⟩, t7, by simp [p2], h7⟩
        · exact ⟨⟨x0, x1, x2, x3⟩, t5, by simp [p0, p1, p2], good_less h5 (by omega)⟩
  simp only [GsL1CurComb5.P, e1, e2, e3, e4, bind2_some, iteK_if]
  cases q with
  | true => exact hj _
  | false => exact hj _
theorem more_ok {t : GoC.Tape} {m : Nat} (fuel : Nat) (hf : 1048577 ≤ fuel) (c : GoC.Tape) (a : Int) (b : GoC.Tape) (o : List Comb) (i n : Int) (d : GoC.Tape) (q : Bool) (e : GoC.Tape) (h : good t (m + 30)) : ∃ r, loopK (GsL1CurCombs5.l1) fuel (([] : List Comb), 0, t) (GsL1CurCombs5.e1 c a b o i n d q e) = some r ∧ (r.1.length ≤ 20 ∧ good r.2 m) := by
  refine lp_ex (n := 11) (fun k s => s.1.length = k ∧ s.2.1 = (k : Int) ∧ good s.2.2 (m + 30 - 2 * k)) ?_ ?_ fuel 0 _ (by omega) (by omega) ⟨rfl, rfl, h⟩
  · rintro k ⟨o, n, c⟩ nx hk ⟨h1, h2, h3⟩ hn
    dsimp only at h1 h2 h3
    obtain ⟨x, c1, e, hx0, hx, _, hg⟩ := pick_ok (n := 2) (m := m + 28 - 2 * k) (good_less h3 (by omega))
    simp only [GsL1CurCombs5.l1, unp3, e, bind2_some, letK, iteK_if]
    rw [wrap_in (x := 10 + x) (by omega) (by omega)]
    by_cases hc : n < 10 + x
    · rw [if_pos (by simpa using hc), guardK_pos (by omega), wrap_in (x := n + 1) (by omega) (by omega)]
      exact hn _ ⟨by simp [h1], by dsimp only; omega, good_less hg (by omega)⟩
    · rw [if_neg (by simpa using hc)]
      exact ⟨_, rfl, by dsimp only; omega, good_less hg (by omega)⟩
  · rintro ⟨o, n, c⟩ nx ⟨h1, h2, h3⟩
    dsimp only at h1 h2 h3
    obtain ⟨x, c1, e, hx0, hx, _, hg⟩ := pick_ok (n := 2) (m := m) (good_less h3 (by omega))
    simp only [GsL1CurCombs5.l1, unp3, e, bind2_some, letK, iteK_if]
    rw [wrap_in (x := 10 + x) (by omega) (by omega), if_neg (by simp; omega)]
    exact ⟨_, rfl, by dsimp only; omega, hg⟩
theorem combs5_ok {t : GoC.Tape} {m : Nat} (fuel : Nat) (hf : 1048577 ≤ fuel) (h : good t (m + 200)) : ∃ l t', GsL1CurCombs5.P fuel t = some (l, t') ∧ l.length ≤ 20 ∧ good t' m := by
  obtain ⟨⟨l, t'⟩, e, h1, h2⟩ : ∃ r, GsL1CurCombs5.P fuel t = some r ∧ (r.1.length ≤ 20 ∧ good r.2 m) := by
    obtain ⟨z, c1, e1, hz0, hz, _, h1⟩ := pick_ok (n := 7) (m := m + 198) h
    simp only [GsL1CurCombs5.P, e1, bind2_some]
    obtain ⟨N, hN⟩ : ∃ N : Nat, z = (N : Int) := ⟨z.toNat, by omega⟩
    subst hN
    refine lp_ex (n := N) (fun k s => s.1.length = k ∧ s.2.2.1 = (N : Int) - (k : Int) ∧ good s.2.2.2 (m + 198 - 16 * k)) ?_ ?_ fuel 0 _ (by omega) (by omega) ⟨rfl, by dsimp only; omega, h1⟩
    · rintro k ⟨o, i, n, c⟩ nx hk ⟨g1, g2, g3⟩ hn
      dsimp only at g1 g2 g3
      obtain ⟨u, d1, f1, _, _, _, k1⟩ := pick_ok (n := 3) (m := m + 196 - 16 * k) (good_less g3 (by omega))
      obtain ⟨v, d2, f2, _, _, _, k2⟩ := pick_ok (n := 150) (m := m + 194 - 16 * k) (good_less k1 (by omega))
      have ht : decide ((0 : Int) < n) = true := by simp; omega
      simp only [GsL1CurCombs5.l0, unp4, letK, ht, iteK_if, if_true, f1, f2, bind2_some]
      generalize IntKind.i64.wrap (IntKind.i64.wrap (IntKind.i64.wrap (i + 1) + u) - IntKind.i64.wrap (Int.tdiv v 149)) = w
      obtain ⟨y, d3, f3, k3⟩ := comb5_ok (m := m + 182 - 16 * k) w (good_less k2 (by omega))
      obtain ⟨a, b, c', d⟩ := y
      rw [f3]
      simp only [bind2_some, unComb]
      rw [guardK_pos (by omega)]
      have e1 : IntKind.i64.wrap (n - 1) = n - 1 := wrap_in (by omega) (by omega)
      rw [e1]
      exact hn _ ⟨by simp [g1], by dsimp only; omega, good_less k3 (by omega)⟩
    · rintro ⟨o, i, n, c⟩ nx ⟨g1, g2, g3⟩
      dsimp only at g1 g2 g3
      have ht : decide ((0 : Int) < n) = false := by simp; omega
      obtain ⟨q, d, f, k1⟩ := one_ok (n := 24) (m := m + 30) (good_less g3 (by omega))
      simp only [GsL1CurCombs5.l0, unp4, letK, ht, iteK_if, Bool.false_eq_true, if_false, appK, GsL1CurCombs5.e0, f, bind2_some]
      cases q with
      | true => exact more_ok fuel hf _ _ _ _ _ _ _ _ _ k1
      | false => exact ⟨_, rfl, by dsimp only; omega, good_less k1 (by omega)⟩
  exact ⟨l, t', e, h1, h2⟩
theorem drawMatch_ok {tapes : List Int → GoC.Tape} (ht : GoC.Tells tapes) (code : List Int) (fuel : Nat) (hf : 1048577 ≤ fuel) : ∃ l w h o, GsDrawMatchCombs.P fuel tapes code = some (l, w, h, o) ∧ l.length ≤ 20 := by
  obtain ⟨l, c0, e0, hl, h0⟩ := combs5_ok fuel hf (m := 40) (good_of ht code (by omega))
  obtain ⟨x, c1, e1, hx0, hx, _, h1⟩ := pick_ok (n := 24) (m := 38) h0
  have hd : 0 ≤ x / 11 ∧ x / 11 ≤ 2 := by omega
  simp only [GsDrawMatchCombs.P, letK, e0, e1, bind2_some]
  rw [Int.tdiv_eq_ediv_of_nonneg hx0, wrap_in (x := x / 11) (by omega) (by omega), wrap_in (x := 4 + x / 11) (by omega) (by omega), guardK_pos (by simp; omega)]
  obtain ⟨o, c2, e2, _, h2⟩ := among_ok (l := List.take (Int.toNat (4 + x / 11)) [0, 10, 25, 100, (-1), 101]) (m := 36) h1 (by rw [List.length_take]; simp; omega)
  simp only [e2, bind2_some, joinK, appK, unp2, iteK_if]
  by_cases hn : (0 : Int) < (l.length : Int)
  · obtain ⟨q, c3, e3, h3⟩ := one_ok (n := 2) (m := 34) h2
    rw [if_pos (by simpa using hn), e3]
    simp only [bind2_some]
    cases q with
    | true =>
      obtain ⟨k, c4, e4, hk0, hk, _, h4⟩ := pick_ok (n := (l.length : Int)) (m := 32) h3
      obtain ⟨K, hK⟩ : ∃ K : Nat, k = (K : Int) := ⟨k.toNat, by omega⟩
      subst hK
      obtain ⟨y, hy, hyi⟩ := at_lt (l := l) (k := K) (by omega)
      obtain ⟨s, c5, e5, _⟩ := one_ok (n := 2) (m := 30) h4
      obtain ⟨a, b, c, d⟩ := y
      simp only [if_true, e4, bind2_some, hyi, Option.bind_some, unComb, e5]
      cases s with
      | true => exact ⟨l, c, b, o, by simp, hl⟩
      | false => exact ⟨l, b, c, o, by simp, hl⟩
    | false =>
      obtain ⟨a, c4, e4, h4⟩ := ask5_ok (m := 28) h3
      obtain ⟨b, c5, e5, h5⟩ := ask5_ok (m := 22) h4
      exact ⟨l, a, b, o, by simp [e4, e5, bind2], hl⟩
  · obtain ⟨a, c4, e4, h4⟩ := ask5_ok (m := 30) h2
    obtain ⟨b, c5, e5, h5⟩ := ask5_ok (m := 24) h4
    rw [if_neg (by simpa using hn)]
    exact ⟨l, a, b, o, by simp [e4, e5, bind2], hl⟩
theorem drawGT_ok {tapes : List Int → GoC.Tape} (ht : GoC.Tells tapes) (code : List Int) : ∃ g, GsDrawGaugeText.P tapes code = some g := by
  obtain ⟨x, c1, e1, hx0, hx, _, h1⟩ := pick_ok (n := 24) (m := 8) (good_of ht code (by omega))
  have hd : 0 ≤ x / 11 ∧ x / 11 ≤ 2 := by omega
  simp only [GsDrawGaugeText.P, letK, e1, bind2_some]
  rw [Int.tdiv_eq_ediv_of_nonneg hx0, wrap_in (x := x / 11) (by omega) (by omega), wrap_in (x := 6 + x / 11) (by omega) (by omega), guardK_pos (by simp; omega)]
  obtain ⟨y, c2, e2, _, h2⟩ := among_ok (l := List.take (Int.toNat (6 + x / 11)) [500, 1100, 1105, 1150, 1175, 2000, 499, 2001]) (m := 6) h1 (by rw [List.length_take]; simp; omega)
  exact ⟨y, by rw [e2]; rfl⟩
theorem drawCT_ok {tapes : List Int → GoC.Tape} (ht : GoC.Tells tapes) (code : List Int) : ∃ x, GsDrawCombText.P tapes code = some x := by
  obtain ⟨i, c1, e1, _, h1⟩ := among_ok (l := [1, 42, 99]) (m := 12) (good_of ht code (by omega)) (by simp)
  obtain ⟨x, c2, e2, _⟩ := comb5_ok (m := 0) i h1
  obtain ⟨a, b, c, d⟩ := x
  exact ⟨⟨a, b, c, d⟩, by simp only [GsDrawCombText.P, letK, e1, e2, bind2_some, unComb]⟩
end Go.Proofs.YtdgbigkcophjoaaDoor.Q5CDraws

/- Texts of gauges and combs: the plain functions of the program and of the reference agree, and the laws answer true. (QText) No condition but those of each theorem. -/
namespace Go.Proofs.YtdgbigkcophjoaaDoor.QText
set_option linter.unusedVariables false
set_option linter.unusedSimpArgs false
open Go.RowKit
open Go.Proofs.YtdgbigkcophjoaaDoor.GoP Go.Proofs.YtdgbigkcophjoaaDoor.PlainStamp Go.Proofs.YtdgbigkcophjoaaDoor.QBase Go.Proofs.YtdgbigkcophjoaaDoor.QNum Go.Proofs.YtdgbigkcophjoaaDoor.PlainFace

theorem sz_mk (a : Array UInt8) : (⟨a⟩ : ByteArray).size = a.size := rfl
theorem str_size (l : List UInt8) : (str l).size = l.length := by unfold str; rw [sz_mk, List.size_toArray]
theorem str_list (l : List UInt8) : (str l).toList = l := by rw [Lib.toList_data]; simp [str]
theorem str_app (a b : List UInt8) : str a ++ str b = str (a ++ b) := by
  apply ByteArray.ext; simp [str]
theorem str_cut (l : List UInt8) (i j : Nat) : (str l).extract i j = str ((l.take j).drop i) := by
  apply ByteArray.ext
  simp [str, List.drop_take]
theorem itoaB_str (n : Int) : itoaB n = str (Lib.itoa n) := rfl
theorem mk_str (l : List UInt8) : (⟨l.toArray⟩ : ByteArray) = str l := rfl
theorem dig_cases {d : Int} (h0 : 0 ≤ d) (h : d < 10) : d = 0 ∨ d = 1 ∨ d = 2 ∨ d = 3 ∨ d = 4 ∨ d = 5 ∨ d = 6 ∨ d = 7 ∨ d = 8 ∨ d = 9 := by omega
theorem dig_zero : dig 0 = 48 := rfl
theorem dig_not {d : Int} (h0 : 0 < d) (h : d < 10) : (dig d == 48) = false := by
  rcases dig_cases (d := d) (by omega) h with rfl | rfl | rfl | rfl | rfl | rfl | rfl | rfl | rfl | rfl <;> first | omega | decide
theorem dig_dot {d : Int} (h0 : 0 ≤ d) (h : d < 10) : dig d ≠ 46 := by
  rcases dig_cases h0 h with rfl | rfl | rfl | rfl | rfl | rfl | rfl | rfl | rfl | rfl <;> decide
end Go.Proofs.YtdgbigkcophjoaaDoor.QText

/- Texts of gauges and combs: the plain functions of the program and of the reference agree, and the laws answer true. (Q2Hund) No condition but those of each theorem. -/
namespace Go.Proofs.YtdgbigkcophjoaaDoor.Q2Hund
set_option linter.unusedVariables false
set_option linter.unusedSimpArgs false
open Go.RowKit
open Go.Proofs.YtdgbigkcophjoaaDoor.GoP Go.Proofs.YtdgbigkcophjoaaDoor.PlainStamp Go.Proofs.YtdgbigkcophjoaaDoor.QBase Go.Proofs.YtdgbigkcophjoaaDoor.QText Go.Proofs.YtdgbigkcophjoaaDoor.QNum Go.Proofs.YtdgbigkcophjoaaDoor.PlainFace

theorem hund_eq {g : Int} (h0 : 0 ≤ g) (h : g ≤ 9999) : GiHundredths.P g = some (str (Lib.itoa (g / 100) ++ [46, dig (g / 10 % 10), dig (g % 10)])) := by
  have a := itoa_short (n := g / 100) (by omega) (by omega)
  have d1 : Int.tdiv g 100 = g / 100 := Int.tdiv_eq_ediv_of_nonneg (by omega)
  have d2 : Int.tmod g 100 = g % 100 := Int.tmod_eq_emod_of_nonneg (by omega)
  have e := itoa_hund (r := g % 100) (by omega) (by omega)
  rw [show g % 100 / 10 = g / 10 % 10 by omega, show g % 100 % 10 = g % 10 by omega] at e
  simp only [GiHundredths.P, letK, d1, d2]
  rw [wrap_short (by omega) (by omega), wrap_short (by omega) (by omega), itoa_eq (by omega) (by omega), itoa_eq (by omega) (by omega)]
  simp only [Option.bind_some, itoaB_str, e, mk_str]
  rw [guardK_pos (by rw [str_size]; simp), str_cut, str_size]
  simp only [mk_str, str_app, str_size]
  rw [guardK_pos (by simp only [List.length_cons, List.length_nil, maxLen]; omega), guardK_pos (by simp only [List.length_append, List.length_cons, List.length_nil, maxLen]; simp; omega)]
  simp
end Go.Proofs.YtdgbigkcophjoaaDoor.Q2Hund

/- Texts of gauges and combs: the plain functions of the program and of the reference agree, and the laws answer true. (Q5GText) No condition but those of each theorem. -/
namespace Go.Proofs.YtdgbigkcophjoaaDoor.Q5GText
set_option linter.unusedVariables false
set_option linter.unusedSimpArgs false
open Go.RowKit
open Go.Proofs.YtdgbigkcophjoaaDoor.GoP Go.Proofs.YtdgbigkcophjoaaDoor.PlainStamp Go.Proofs.YtdgbigkcophjoaaDoor.QBase Go.Proofs.YtdgbigkcophjoaaDoor.Q2Hund Go.Proofs.YtdgbigkcophjoaaDoor.QText Go.Proofs.YtdgbigkcophjoaaDoor.QNum Go.Proofs.YtdgbigkcophjoaaDoor.PlainFace

def gL (g : Int) : List UInt8 := Lib.itoa (g / 100) ++ (if g % 100 = 0 then [] else 46 :: dig (g / 10 % 10) :: (if g % 10 = 0 then [] else [dig (g % 10)]))
theorem gL_len {g : Int} (h0 : 500 ≤ g) (h : g ≤ 2000) : (gL g).length ≤ 10 := by
  have a := itoa_short (n := g / 100) (by omega) (by omega)
  unfold gL
  split
  · simp; omega
  · split <;> simp <;> omega
theorem trim_cases {g : Int} (h0 : 500 ≤ g) (h : g ≤ 2000) : Lib.trimRightB (Lib.itoa (g / 100) ++ [46, dig (g / 10 % 10), dig (g % 10)]) 48 = if g % 100 = 0 then Lib.itoa (g / 100) ++ [46] else gL g := by
  have e46 : ((46 : UInt8) == 48) = false := by decide
  unfold Lib.trimRightB gL
  simp only [List.reverse_append, List.reverse_cons, List.reverse_nil, List.nil_append, List.cons_append]
  by_cases hb : g % 10 = 0
  · rw [hb, dig_zero]
    by_cases ha : g / 10 % 10 = 0
    · have : g % 100 = 0 := by omega
      rw [ha, dig_zero, if_pos this]
      simp [List.dropWhile, e46]
    · have hn : ¬ g % 100 = 0 := by omega
      have := dig_not (d := g / 10 % 10) (by omega) (by omega)
      rw [if_neg hn, if_neg hn]
      simp [List.dropWhile, this]
  · have hn : ¬ g % 100 = 0 := by omega
    have := dig_not (d := g % 10) (by omega) (by omega)
    rw [if_neg hn, if_neg hn, if_neg hb]
    simp [List.dropWhile, this]
theorem gL_last {g : Int} (h0 : 500 ≤ g) (h : g ≤ 2000) (hn : ¬ g % 100 = 0) : ∃ p y, gL g = p ++ [y] ∧ y ≠ 46 := by
  unfold gL
  rw [if_neg hn]
  by_cases hb : g % 10 = 0
  · rw [if_pos hb]; exact ⟨Lib.itoa (g / 100) ++ [46], dig (g / 10 % 10), by simp, dig_dot (by omega) (by omega)⟩
  · rw [if_neg hb]; exact ⟨Lib.itoa (g / 100) ++ [46, dig (g / 10 % 10)], dig (g % 10), by simp, dig_dot (by omega) (by omega)⟩
theorem has_last (p : List UInt8) (y : UInt8) (hp : p.length ≤ 1000000) : GxInternalStringsliteHasSuffix.P (str (p ++ [y])) ⟨#[46]⟩ = some (y == 46) := by
  have hl : (p ++ [y]).length = p.length + 1 := by simp
  have ht : decide (((1 : Nat) : Int) ≤ ((p.length + 1 : Nat) : Int)) = true := by simp; omega
  have h1 : ([46] : List UInt8).length = 1 := rfl
  simp only [GxInternalStringsliteHasSuffix.P, mk_str, str_size, hl, h1, ht, letK, joinK, appK, iteK_if, if_true]
  rw [wrap_short (by omega) (by omega), guardK_pos (by omega), str_cut, str_list, str_list]
  congr 1
  have e : Int.toNat (((p.length + 1 : Nat) : Int) - ((1 : Nat) : Int)) = p.length := by omega
  rw [e, List.take_of_length_le (by omega), List.drop_left]
  simp
theorem trimSuffix_eq (p : List UInt8) (y : UInt8) (hp : p.length ≤ 1000000) : GxStringsTrimSuffix.P (str (p ++ [y])) ⟨#[46]⟩ = some (str (if y = 46 then p else p ++ [y])) := by
  have hl : (p ++ [y]).length = p.length + 1 := by simp
  have h1 : ([46] : List UInt8).length = 1 := rfl
  simp only [GxStringsTrimSuffix.P, GxInternalStringsliteTrimSuffix.P, has_last p y hp, Option.bind_some, letK, iteK_if]
  by_cases hy : y = 46
  · rw [if_pos (by simpa using hy), if_pos hy]
    simp only [mk_str, str_size, hl, h1]
    rw [wrap_short (by omega) (by omega), guardK_pos (by omega), str_cut, show Int.toNat (((p.length + 1 : Nat) : Int) - ((1 : Nat) : Int)) = p.length by omega]
    simp
  · rw [if_neg (by simpa using hy), if_neg hy]; rfl
theorem trimR_eq (l : List UInt8) (hl : l.length ≤ 1000000) : GxStringsTrimRight.P (str l) ⟨#[48]⟩ = some (str (Lib.trimRightB l 48)) := by
  unfold GxStringsTrimRight.P
  simp only
  rw [if_pos ⟨by decide, by rw [str_size]; omega⟩]
  rfl
theorem gauge_impl (g : Int) : GiGaugeText.P g = some (if inB g 500 2000 = true then (str (gL g), true) else (⟨#[]⟩, false)) := by
  simp only [GiGaugeText.P, GiIsGauge.P, within_eq, Option.bind_some, letK, iteK_if]
  cases hg : inB g 500 2000 with
  | false => simp
  | true =>
    obtain ⟨h0, h⟩ := inB_of hg
    have a := itoa_short (n := g / 100) (by omega) (by omega)
    have a2 := gL_len h0 h
    simp only [Bool.not_true, Bool.false_eq_true, if_false, if_true, hund_eq (g := g) (by omega) (by omega), Option.bind_some]
    rw [trimR_eq _ (by simp; omega), trim_cases h0 h]
    simp only [Option.bind_some]
    by_cases hn : g % 100 = 0
    · rw [if_pos hn, trimSuffix_eq _ _ (by omega)]
      simp [gL, hn]
    · obtain ⟨p, y, e, hy⟩ := gL_last h0 h hn
      rw [if_neg hn, e, trimSuffix_eq _ _ (by rw [e] at a2; simp at a2; omega), if_neg hy]
      rfl
theorem text_spec {g : Int} (h0 : 500 ≤ g) (h : g ≤ 2000) : GsL5Text.P g = some (str (gL g)) := by
  have a := itoa_short (n := g / 100) (by omega) (by omega)
  have d1 : Int.tdiv g 100 = g / 100 := Int.tdiv_eq_ediv_of_nonneg (by omega)
  have d2 : Int.tmod g 100 = g % 100 := Int.tmod_eq_emod_of_nonneg (by omega)
  have d3 : Int.tdiv g 10 = g / 10 := Int.tdiv_eq_ediv_of_nonneg (by omega)
  have d4 : Int.tmod g 10 = g % 10 := Int.tmod_eq_emod_of_nonneg (by omega)
  have d5 : Int.tmod (g / 10) 10 = g / 10 % 10 := Int.tmod_eq_emod_of_nonneg (by omega)
  have e1 := itoa_dig (d := g / 10 % 10) (by omega) (by omega)
  have e2 := itoa_dig (d := g % 10) (by omega) (by omega)
  simp only [GsL5Text.P, GsL5Text.j0, GsL5Text.j1, letK, d1, d2, d3, d4]
  rw [wrap_short (by omega) (by omega), wrap_short (by omega) (by omega), d5, num_eq (by omega) (by omega), num_eq (by omega) (by omega), num_eq (by omega) (by omega)]
  simp only [Option.bind_some, itoaB_str, e1, e2, iteK_if, gL]
  simp only [mk_str, str_app, str_size]
  by_cases hn : g % 100 = 0
  · have : ¬ (0 < g % 10) := by omega
    simp [hn, this]
  · rw [if_pos (show decide (0 < g % 100) = true by simp; omega), guardK_pos (by simp [maxLen]; omega), guardK_pos (by simp [maxLen]; omega), if_neg hn]
    by_cases hb : g % 10 = 0
    · rw [if_neg (by simp; omega), if_pos hb]; simp
    · rw [if_pos (show decide (0 < g % 10) = true by simp; omega), if_neg hb, guardK_pos (by simp [maxLen]; omega)]
      simp
end Go.Proofs.YtdgbigkcophjoaaDoor.Q5GText

/- What the law FnCombs tells of combs: each comb is in one group of the same gauges. (Q5CText) No condition but those of each theorem. -/
namespace Go.Proofs.YtdgbigkcophjoaaDoor.Q5CText
set_option linter.unusedVariables false
set_option linter.unusedSimpArgs false
open Go.RowKit
open Go.Proofs.YtdgbigkcophjoaaDoor.GoP Go.Proofs.YtdgbigkcophjoaaDoor.PlainStamp Go.Proofs.YtdgbigkcophjoaaDoor.QBase Go.Proofs.YtdgbigkcophjoaaDoor.Q5GText Go.Proofs.YtdgbigkcophjoaaDoor.QText Go.Proofs.YtdgbigkcophjoaaDoor.QNum Go.Proofs.YtdgbigkcophjoaaDoor.PlainFace Go.Proofs.YtdgbigkcophjoaaDoor.PComb

theorem gauge_spec (g : Int) : GsGaugeText.P g = some (if inB g 500 2000 = true then (str (gL g), true) else (⟨#[]⟩, false)) := by
  simp only [GsGaugeText.P, GsL5Gauge.P, l1In_eq, Option.bind_some, letK, iteK_if]
  cases hg : inB g 500 2000 with
  | false => simp
  | true => obtain ⟨h0, h⟩ := inB_of hg; simp [text_spec h0 h]
def okC (x : Comb) : Bool := inB x.id 1 99 && inB x.wide 500 2000 && inB x.high 500 2000
theorem isComb_eq (p : Comb) : GiIsComb.P p = some (okC p) := by
  obtain ⟨a, b, c, d⟩ := p
  simp only [GiIsComb.P, GiIsGauge.P, unComb, within_eq, Option.bind_some, letK, joinK, appK, iteK_if, okC]
  cases inB a 1 99 <;> cases inB b 500 2000 <;> cases inB c 500 2000 <;> simp
theorem l5One_eq (p : Comb) : GsL5One.P p = some (okC p) := by
  obtain ⟨a, b, c, d⟩ := p
  simp only [GsL5One.P, GsL5Gauge.P, unComb, l1In_eq, Option.bind_some, letK, joinK, appK, iteK_if, okC]
  cases inB a 1 99 <;> cases inB b 500 2000 <;> cases inB c 500 2000 <;> simp
def cL (x : Comb) : List UInt8 := 99 :: Lib.itoa x.id ++ 32 :: gL x.wide ++ (if x.high = x.wide then [] else [32, 120, 32] ++ gL x.high) ++ (if x.line = true then [32, 108, 105, 110, 101] else [])
def cRes (x : Comb) : ByteArray × Bool := if okC x = true then (str (cL x), true) else (⟨#[]⟩, false)
theorem okC_in {x : Comb} (h : okC x = true) : (1 ≤ x.id ∧ x.id ≤ 99) ∧ (500 ≤ x.wide ∧ x.wide ≤ 2000) ∧ (500 ≤ x.high ∧ x.high ≤ 2000) := by
  unfold okC at h; simp only [Bool.and_eq_true] at h
  exact ⟨inB_of h.1.1, inB_of h.1.2, inB_of h.2⟩
theorem comb_impl (x : Comb) : GiCombText.P x = some (cRes x) := by
  have hok := isComb_eq x
  unfold cRes
  cases h : okC x with
  | false => obtain ⟨a, b, c, d⟩ := x; simp [GiCombText.P, unComb, hok, h, letK, iteK_if]
  | true =>
    obtain ⟨h1, h2, h3⟩ := okC_in h
    have a1 := itoa_short (n := x.id) (by omega) (by omega)
    have a2 := gL_len h2.1 h2.2
    have a3 := gL_len h3.1 h3.2
    obtain ⟨a, b, c, d⟩ := x
    dsimp only at h1 h2 h3 a1 a2 a3
    have ew : inB b 500 2000 = true := inB_yes h2.1 h2.2
    have eh : inB c 500 2000 = true := inB_yes h3.1 h3.2
    simp only [GiCombText.P, GiCombText.j0, GiCombText.j1, unComb, hok, h, gauge_impl, ew, eh, if_true, bind2, Option.bind_some, letK, iteK_if, Bool.not_true, Bool.false_eq_true, if_false]
    rw [itoa_eq (by omega) (by omega)]
    simp only [Option.bind_some, itoaB_str]
    simp only [mk_str, str_app, str_size]
    rw [guardK_pos (by simp [maxLen]; omega), guardK_pos (by simp [maxLen]; omega), guardK_pos (by simp [maxLen]; omega), guardK_pos (by simp [maxLen]; omega), guardK_pos (by simp [maxLen]; omega), guardK_pos (by simp [maxLen]; omega), guardK_pos (by simp [maxLen]; omega)]
    by_cases he : c = b <;> cases d <;> simp [he, cL]
theorem comb_spec (x : Comb) : GsCombText.P x = some (cRes x) := by
  have hok := l5One_eq x
  unfold cRes
  cases h : okC x with
  | false => obtain ⟨a, b, c, d⟩ := x; simp [GsCombText.P, unComb, hok, h, letK, iteK_if]
  | true =>
    obtain ⟨h1, h2, h3⟩ := okC_in h
    have a1 := itoa_short (n := x.id) (by omega) (by omega)
    have a2 := gL_len h2.1 h2.2
    have a3 := gL_len h3.1 h3.2
    obtain ⟨a, b, c, d⟩ := x
    dsimp only at h1 h2 h3 a1 a2 a3
    simp only [GsCombText.P, GsCombText.j0, GsCombText.j1, unComb, hok, h, text_spec h2.1 h2.2, text_spec h3.1 h3.2, Option.bind_some, letK, iteK_if, Bool.not_true, Bool.false_eq_true, if_false]
    rw [num_eq (by omega) (by omega)]
    simp only [Option.bind_some, itoaB_str]
    simp only [mk_str, str_app, str_size]
    rw [guardK_pos (by simp [maxLen]; omega), guardK_pos (by simp [maxLen]; omega), guardK_pos (by simp [maxLen]; omega), guardK_pos (by simp [maxLen]; omega), guardK_pos (by simp [maxLen]; omega), guardK_pos (by simp [maxLen]; omega), guardK_pos (by simp [maxLen]; omega)]
    by_cases he : c = b <;> cases d <;> simp [he, cL]
end Go.Proofs.YtdgbigkcophjoaaDoor.Q5CText

/- Chapter 5: combs, holes, gauges: the plain functions of the program and of the reference agree, and the laws answer true. (Q5Gauge) No condition but those of each theorem. -/
namespace Go.Proofs.YtdgbigkcophjoaaDoor.Q5Gauge
set_option linter.unusedVariables false
set_option linter.unusedSimpArgs false
open Go.RowKit
open Go.Proofs.YtdgbigkcophjoaaDoor.GoP Go.Proofs.YtdgbigkcophjoaaDoor.PlainStamp Go.Proofs.YtdgbigkcophjoaaDoor.QBase Go.Proofs.YtdgbigkcophjoaaDoor.QLoop

theorem isGauge_eq (g : Int) : GiIsGauge.P g = some (inB g 500 2000) := by simp only [GiIsGauge.P, within_eq, Option.bind_some]
theorem l5Gauge_eq (g : Int) : GsL5Gauge.P g = some (inB g 500 2000) := by simp only [GsL5Gauge.P, l1In_eq, Option.bind_some]
end Go.Proofs.YtdgbigkcophjoaaDoor.Q5Gauge

/- Chapter 5: combs, holes, gauges: the plain functions of the program and of the reference agree, and the laws answer true. (Q5Comb) No condition but those of each theorem. -/
namespace Go.Proofs.YtdgbigkcophjoaaDoor.Q5Comb
set_option linter.unusedVariables false
set_option linter.unusedSimpArgs false
open Go.RowKit
open Go.Proofs.YtdgbigkcophjoaaDoor.GoP Go.Proofs.YtdgbigkcophjoaaDoor.PlainStamp Go.Proofs.YtdgbigkcophjoaaDoor.QBase Go.Proofs.YtdgbigkcophjoaaDoor.Q5Gauge Go.Proofs.YtdgbigkcophjoaaDoor.QLoop Go.Proofs.YtdgbigkcophjoaaDoor.PComb

def okCo (x : Comb) : Bool := inB x.id 1 99 && inB x.wide 500 2000 && inB x.high 500 2000
theorem isComb_eq (p : Comb) : GiIsComb.P p = some (okCo p) := by
  obtain ⟨a, b, c, d⟩ := p
  simp only [GiIsComb.P, unComb, within_eq, isGauge_eq, Option.bind_some, letK, joinK, appK, iteK_if, okCo]
  cases inB a 1 99 <;> cases inB b 500 2000 <;> cases inB c 500 2000 <;> simp
theorem l5One_eq (p : Comb) : GsL5One.P p = some (okCo p) := by
  obtain ⟨a, b, c, d⟩ := p
  simp only [GsL5One.P, unComb, l1In_eq, l5Gauge_eq, Option.bind_some, letK, joinK, appK, iteK_if, okCo]
  cases inB a 1 99 <;> cases inB b 500 2000 <;> cases inB c 500 2000 <;> simp
def okCos (l : List Comb) : Bool := upL 10 okCo Comb.id l
theorem areCombs_eq (l : List Comb) : GiAreCombs.P l = some (okCos l) := by
  simp only [GiAreCombs.P, GiAreByKeyCombIntiIsCombiIdOfComb.P, letK, iteK_if]
  by_cases hl : l.length ≤ 10
  · rw [if_neg (by simp; omega), up_loop (ok := okCo) (id := Comb.id) (no := false)]
    · unfold okCos upL; cases upTo okCo Comb.id l l.length <;> simp [hl, GiAreByKeyCombIntiIsCombiIdOfComb.e0]
    · intro k nx s hs
      have hi : idx l (k : Int) = some s := by rw [idx_nat, hs]
      have hk : k < l.length := (List.getElem?_eq_some_iff.1 hs).1
      simp only [GiAreByKeyCombIntiIsCombiIdOfComb.l0, hi, Option.bind_some, unComb, isComb_eq, GiIdOfComb.P, letK, joinK, appK, iteK_if]
      refine ⟨fun h => by simp [h], fun h => ⟨fun h0 => by subst h0; simp [h], fun h0 r hr => ?_⟩⟩
      rw [idx_pred h0 (by omega) hr]
      have hk0 : (0 : Int) < (k : Int) := by omega
      have hk1 : ¬ k = 0 := by omega
      exact ⟨fun hlt => by (have hc : ¬ s.id ≤ r.id := by omega); simp [h, hk0, hk1, hc], fun hge => by simp [h, hk0, hk1, hge]⟩
  · rw [if_pos (by simp; omega)]; unfold okCos upL; simp [hl]
theorem l5Good_eq (l : List Comb) (hl : l.length ≤ 9223372036854775807) : GsL5Good.P l = some (okCos l) := by
  simp only [GsL5Good.P]
  rw [up_loop (ok := okCo) (id := Comb.id) (no := false)]
  · unfold okCos upL; cases upTo okCo Comb.id l l.length <;> simp [GsL5Good.e0, letK]; omega
  · intro k nx s hs
    have hi : idx l (k : Int) = some s := by rw [idx_nat, hs]
    have hk : k < l.length := (List.getElem?_eq_some_iff.1 hs).1
    simp only [GsL5Good.l0, hi, Option.bind_some, unComb, l5One_eq, letK, joinK, appK, iteK_if]
    refine ⟨fun h => by simp [h], fun h => ⟨fun h0 => by subst h0; simp [h], fun h0 r hr => ?_⟩⟩
    rw [idx_pred h0 (by omega) hr]
    have hk0 : (0 : Int) < (k : Int) := by omega
    have hk1 : ¬ k = 0 := by omega
    exact ⟨fun hlt => by (have hc : ¬ s.id ≤ r.id := by omega); simp [h, hk0, hk1, hc], fun hge => by simp [h, hk0, hk1, hge]⟩
end Go.Proofs.YtdgbigkcophjoaaDoor.Q5Comb

/- Combs of the same gauges: the plain functions of the program and of the reference agree, and the law answers true. (Q5Same) No condition but those of each theorem. -/
namespace Go.Proofs.YtdgbigkcophjoaaDoor.Q5Same
set_option linter.unusedVariables false
set_option linter.unusedSimpArgs false
open Go.RowKit
open Go.Proofs.YtdgbigkcophjoaaDoor.GoP Go.Proofs.YtdgbigkcophjoaaDoor.PlainStamp Go.Proofs.YtdgbigkcophjoaaDoor.QBase Go.Proofs.YtdgbigkcophjoaaDoor.Q5Comb Go.Proofs.YtdgbigkcophjoaaDoor.QLoop Go.Proofs.YtdgbigkcophjoaaDoor.PComb

def sm (x y : Comb) : Bool := y.wide == x.wide && y.high == x.high
def grp (l : List Comb) (x : Comb) : List Int := (l.filter (sm x)).map Comb.id
def gs (l : List Comb) : Nat → List (List Int)
  | 0 => []
  | i + 1 => match l[i]? with
    | none => gs l i
    | some x => if (l.take i).any (sm x) = true then gs l i else gs l i ++ [grp l x]
theorem gs_succ {l : List Comb} {i : Nat} {x : Comb} (h : l[i]? = some x) : gs l (i + 1) = if (l.take i).any (sm x) = true then gs l i else gs l i ++ [grp l x] := by
  show (match l[i]? with | none => gs l i | some x => if (l.take i).any (sm x) = true then gs l i else gs l i ++ [grp l x]) = _
  rw [h]
theorem gs_len (l : List Comb) : ∀ i, (gs l i).length ≤ i := by
  intro i
  induction i with
  | zero => simp [gs]
  | succ i ih =>
    cases h : l[i]? with
    | none => show (match l[i]? with | none => gs l i | some x => if (l.take i).any (sm x) = true then gs l i else gs l i ++ [grp l x]).length ≤ _; rw [h]; dsimp only; omega
    | some x =>
      rw [gs_succ h]
      split
      · omega
      · rw [List.length_append]; show (gs l i).length + 1 ≤ _; omega
theorem grp_len (l : List Comb) (x : Comb) : (grp l x).length ≤ l.length := by
  unfold grp; rw [List.length_map]; exact List.length_filter_le _ _
theorem gs_rows (l : List Comb) : ∀ i, ∀ row ∈ gs l i, row.length ≤ l.length := by
  intro i
  induction i with
  | zero => intro row h; simp [gs] at h
  | succ i ih =>
    intro row hr
    cases h : l[i]? with
    | none =>
      have e : gs l (i + 1) = gs l i := by
        show (match l[i]? with | none => gs l i | some x => if (l.take i).any (sm x) = true then gs l i else gs l i ++ [grp l x]) = _
        rw [h]
      rw [e] at hr
      exact ih row hr
    | some x =>
      rw [gs_succ h] at hr
      split at hr
      · exact ih row hr
      · rcases List.mem_append.1 hr with hr | hr
        · exact ih row hr
        · simp at hr; subst hr; exact grp_len l x
theorem same_eq (y x : Comb) : GiSameGauges1.P y x.id x.wide x.high x.line = some (sm x y) := by
  obtain ⟨a, b, c, d⟩ := y
  simp only [GiSameGauges1.P, unComb, letK, joinK, appK, iteK_if, sm]
  cases b == x.wide <;> simp
theorem any_eq (l : List Comb) (x : Comb) : GxSlicesContainsFuncLoopExampleG01062ImplCombLoopExampleG01062ImplCombiSameGauges1.P l x.id x.wide x.high x.line = some (l.any (sm x)) := by
  simp only [GxSlicesContainsFuncLoopExampleG01062ImplCombLoopExampleG01062ImplCombiSameGauges1.P, letK]
  obtain ⟨c, hc, hi⟩ : ∃ c, GxSlicesIndexFuncLoopExampleG01062ImplCombLoopExampleG01062ImplCombiSameGauges1.P l x.id x.wide x.high x.line = some c ∧ (0 ≤ c ↔ l.any (sm x) = true) := by
    simp only [GxSlicesIndexFuncLoopExampleG01062ImplCombLoopExampleG01062ImplCombiSameGauges1.P]
    refine cnt_ex (n := l.length) (Q := fun c => 0 ≤ c ↔ l.any (sm x) = true) (fun j _ => ∀ i y, i < j → l[i]? = some y → sm x y = false) ?_ ?_ l.length 0 () (by omega) (fun i y hi _ => by omega)
    · intro j _ nx hj hI hn
      obtain ⟨y, hy, hyi⟩ := at_lt (l := l) (k := j) hj
      have hs := same_eq y x
      obtain ⟨a, b, c, d⟩ := y
      simp only [GxSlicesIndexFuncLoopExampleG01062ImplCombLoopExampleG01062ImplCombiSameGauges1.l0, hyi, Option.bind_some, unComb, hs, appK, iteK_if]
      cases hf : sm x ⟨a, b, c, d⟩ with
      | true => exact ⟨_, by rw [if_pos rfl], ⟨fun _ => List.any_eq_true.2 ⟨_, List.mem_of_getElem? hy, hf⟩, fun _ => by omega⟩⟩
      | false =>
        rw [if_neg (by simp)]
        refine hn () (fun i y' hi hy' => ?_)
        by_cases he : i = j
        · subst he; obtain rfl := Option.some.inj (hy.symm.trans hy'); exact hf
        · exact hI i y' (by omega) hy'
    · intro _ hI
      refine ⟨_, rfl, ⟨fun h => by omega, fun h => ?_⟩⟩
      exfalso
      obtain ⟨y, hy, hf⟩ := List.any_eq_true.1 h
      obtain ⟨i, hi⟩ := List.getElem?_of_mem hy
      rw [hI i y (List.getElem?_eq_some_iff.1 hi).1 hi] at hf
      simp at hf
  rw [hc]
  simp only [Option.bind_some]
  cases hf : l.any (sm x) with
  | true => rw [decide_eq_true (hi.2 hf)]
  | false => rw [decide_eq_false (fun h => by rw [hi.1 h] at hf; exact absurd hf (by simp))]
theorem filt_succ {l : List Comb} {k : Nat} {y : Comb} (h : l[k]? = some y) (x : Comb) : ((l.take (k + 1)).filter (sm x)).map Comb.id = if sm x y = true then ((l.take k).filter (sm x)).map Comb.id ++ [y.id] else ((l.take k).filter (sm x)).map Comb.id := by
  rw [take_next h, List.filter_append, List.map_append]
  cases hs : sm x y <;> simp [List.filter, hs]
theorem ids_eq (l : List Comb) (x : Comb) (hl : l.length ≤ 1000) : GiKeysWhereCombIntiIdOfCombiSameGauges1.P l x.id x.wide x.high x.line = some (grp l x) := by
  simp only [GiKeysWhereCombIntiIdOfCombiSameGauges1.P]
  refine cnt_is _ (fun k s => s = ((l.take k).filter (sm x)).map Comb.id ∧ s.length ≤ k) ?_ ?_ [] ⟨by simp, by simp⟩
  · rintro k s nx hk ⟨h1, h2⟩ hn
    obtain ⟨y, hy, hyi⟩ := at_lt (l := l) (k := k) hk
    have hf := filt_succ hy x
    have hs := same_eq y x
    obtain ⟨a, b, c, d⟩ := y
    simp only [GiKeysWhereCombIntiIdOfCombiSameGauges1.l0, hyi, Option.bind_some, unComb, hs, GiIdOfComb.P, letK, appK, iteK_if]
    cases hsm : sm x ⟨a, b, c, d⟩ with
    | true =>
      rw [hsm, if_pos rfl] at hf
      rw [if_pos rfl, guardK_pos (by omega)]
      exact hn _ ⟨by rw [hf, h1], by rw [List.length_append]; show s.length + 1 ≤ _; omega⟩
    | false =>
      rw [hsm, if_neg (by simp)] at hf
      rw [if_neg (by simp)]
      exact hn _ ⟨by rw [hf, h1], by omega⟩
  · rintro s ⟨h1, h2⟩
    simp only [GiKeysWhereCombIntiIdOfCombiSameGauges1.e0, letK]
    rw [h1, List.take_length]; rfl
theorem same_impl (l : List Comb) : GiSameGauges.P l = some (if okCos l = true then (gs l l.length, true) else ([], false)) := by
  simp only [GiSameGauges.P, areCombs_eq, Option.bind_some, letK, iteK_if]
  cases h : okCos l with
  | false => simp
  | true =>
    have hl : l.length ≤ 10 := upL_len h
    rw [if_neg (by simp), if_pos rfl]
    refine cnt_is _ (fun i o => o = gs l i ∧ o.length ≤ i) ?_ ?_ [] ⟨rfl, by simp⟩
    · rintro i o nx hi ⟨h1, h2⟩ hn
      obtain ⟨x, hx, hxi⟩ := at_lt (l := l) (k := i) hi
      have hg := gs_succ hx
      have ha := any_eq (l.take i) x
      have hd := ids_eq l x (by omega)
      obtain ⟨a, b, c, d⟩ := x
      dsimp only at ha hd
      simp only [GiSameGauges.l0, letK, hxi, Option.bind_some, unComb, iteK_if]
      rw [guardK_pos (by omega), Int.toNat_natCast, ha]
      simp only [Option.bind_some, hd]
      cases hb : (l.take i).any (sm ⟨a, b, c, d⟩) with
      | true =>
        rw [hb, if_pos rfl] at hg
        rw [if_neg (by simp)]
        exact hn _ ⟨by rw [hg, h1], by omega⟩
      | false =>
        rw [hb, if_neg (by simp)] at hg
        rw [if_pos (by simp), guardK_pos (by omega)]
        exact hn _ ⟨by rw [hg, h1], by rw [List.length_append]; show o.length + 1 ≤ _; omega⟩
    · rintro o ⟨h1, h2⟩
      simp only [GiSameGauges.e0, letK, h1]
theorem same_spec (l : List Comb) (hl0 : l.length ≤ 9223372036854775807) : GsSameGauges.P l = some (if okCos l = true then (gs l l.length, true) else ([], false)) := by
  simp only [GsSameGauges.P, l5Good_eq l hl0, Option.bind_some, letK, iteK_if]
  cases h : okCos l with
  | false => simp
  | true =>
    have hl : l.length ≤ 10 := upL_len h
    rw [if_neg (by simp), if_pos rfl]
    refine cnt_is _ (fun i o => o = gs l i ∧ o.length ≤ i) ?_ ?_ [] ⟨rfl, by simp⟩
    · rintro i o nx hi ⟨h1, h2⟩ hn
      obtain ⟨x, hx, hxi⟩ := at_lt (l := l) (k := i) hi
      have hg := gs_succ hx
      simp only [GsSameGauges.l0, letK]
      refine cnt_is _ (fun k (s : List Int × Bool) => s.1 = ((l.take k).filter (sm x)).map Comb.id ∧ s.1.length ≤ k ∧ s.2 = !((l.take (min k i)).any (sm x))) ?_ ?_ ([], true) ⟨by simp, by simp, by simp⟩
      · rintro k ⟨ids, fst⟩ nx2 hk ⟨g1, g2, g3⟩ hn2
        dsimp only at g1 g2 g3
        obtain ⟨y, hy, hyi⟩ := at_lt (l := l) (k := k) hk
        have hf := filt_succ hy x
        have hm : (l.take (min (k + 1) i)).any (sm x) = ((l.take (min k i)).any (sm x) || (decide (k < i) && sm x y)) := by
          by_cases hki : k < i
          · rw [Nat.min_eq_left (by omega), Nat.min_eq_left (by omega), take_next hy]
            simp [hki]
          · rw [Nat.min_eq_right (by omega), Nat.min_eq_right (by omega)]
            simp [hki]
        obtain ⟨a, b, c, d⟩ := x
        obtain ⟨a', b', c', d'⟩ := y
        have hsm : sm ⟨a, b, c, d⟩ ⟨a', b', c', d'⟩ = (b' == b && c' == c) := rfl
        simp only [GsSameGauges.l1, unp2, hyi, hxi, Option.bind_some, unComb, letK, joinK, appK, iteK_if]
        have hkk : decide ((i : Int) ≤ (k : Int)) = !decide (k < i) := by
          by_cases hki : k < i
          · first | (simp [hki]; done) | (simp [hki]; omega)
          · first | (simp [hki]; done) | (simp [hki]; omega)
        rw [hkk]
        cases hb : b' == b with
        | false =>
          rw [hsm, hb] at hf hm
          simp only [Bool.false_and, Bool.and_false, Bool.or_false, Bool.false_eq_true, if_false] at hf hm ⊢
          exact hn2 _ ⟨by rw [hf]; exact g1, by dsimp only; omega, by dsimp only; rw [hm]; exact g3⟩
        | true =>
          cases hc : c' == c with
          | false =>
            rw [hsm, hb, hc] at hf hm
            simp only [Bool.true_and, Bool.and_false, Bool.or_false, Bool.false_eq_true, if_false, if_true] at hf hm ⊢
            exact hn2 _ ⟨by rw [hf]; exact g1, by dsimp only; omega, by dsimp only; rw [hm]; exact g3⟩
          | true =>
            rw [hsm, hb, hc] at hf hm
            simp only [Bool.true_and, Bool.and_true, if_true] at hf hm ⊢
            rw [guardK_pos (by omega)]
            have fin := hn2 (ids ++ [a'], !((l.take (min (k + 1) i)).any (sm ⟨a, b, c, d⟩))) ⟨by rw [hf, g1], by dsimp only; rw [List.length_append]; show ids.length + 1 ≤ _; omega, rfl⟩
            rw [hm, Bool.not_or, ← g3] at fin
            cases fst with
            | true => simpa using fin
            | false => simpa using fin
      · rintro ⟨ids, fst⟩ ⟨g1, g2, g3⟩
        dsimp only at g1 g2 g3
        rw [Nat.min_eq_right (by omega)] at g3
        rw [List.take_length] at g1
        simp only [GsSameGauges.e1, unp2, letK, appK, iteK_if]
        cases hb : (l.take i).any (sm x) with
        | true =>
          rw [hb, if_pos rfl] at hg
          rw [hb] at g3
          rw [if_neg (by rw [g3]; simp)]
          exact hn _ ⟨by rw [hg, h1], by omega⟩
        | false =>
          rw [hb, if_neg (by simp)] at hg
          rw [hb] at g3
          rw [if_pos (by rw [g3]; rfl), guardK_pos (by omega)]
          exact hn _ ⟨by rw [hg, h1, g1]; rfl, by rw [List.length_append]; show o.length + 1 ≤ _; omega⟩
    · rintro o ⟨h1, h2⟩
      simp only [GsSameGauges.e0, letK, h1]
end Go.Proofs.YtdgbigkcophjoaaDoor.Q5Same

/- What the law FnCombs tells of combs: each comb is in one group of the same gauges. (Q5Sum) No condition but those of each theorem. -/
namespace Go.Proofs.YtdgbigkcophjoaaDoor.Q5Sum
set_option linter.unusedVariables false
set_option linter.unusedSimpArgs false
open Go.RowKit
open Go.Proofs.YtdgbigkcophjoaaDoor.GoP Go.Proofs.YtdgbigkcophjoaaDoor.PlainStamp Go.Proofs.YtdgbigkcophjoaaDoor.QBase Go.Proofs.YtdgbigkcophjoaaDoor.Q5Same Go.Proofs.YtdgbigkcophjoaaDoor.QLoop Go.Proofs.YtdgbigkcophjoaaDoor.PComb

theorem sm_self (x : Comb) : sm x x = true := by simp [sm]
theorem sm_symm {x y : Comb} (h : sm x y = true) : sm y x = true := by
  simp only [sm, Bool.and_eq_true, beq_iff_eq] at h ⊢
  exact ⟨h.1.symm, h.2.symm⟩
theorem sm_trans {x y z : Comb} (h : sm x y = true) (h2 : sm y z = true) : sm x z = true := by
  simp only [sm, Bool.and_eq_true, beq_iff_eq] at h h2 ⊢
  exact ⟨h2.1.trans h.1, h2.2.trans h.2⟩
theorem filter_or {α : Type} {p q : α → Bool} : ∀ {l : List α}, (∀ y ∈ l, p y = true → q y = false) → (l.filter fun y => p y || q y).length = (l.filter p).length + (l.filter q).length := by
  intro l
  induction l with
  | nil => intro _; rfl
  | cons a l ih =>
    intro h
    have h1 := ih (fun y hy => h y (List.mem_cons_of_mem _ hy))
    have h2 := h a (by simp)
    cases hp : p a with
    | true =>
      have hq := h2 hp
      simp only [List.filter_cons, hp, hq, Bool.true_or, if_true, Bool.false_eq_true, if_false, List.length_cons]
      omega
    | false =>
      cases hq : q a with
      | true => simp only [List.filter_cons, hp, hq, Bool.false_or, if_true, Bool.false_eq_true, if_false, List.length_cons]; omega
      | false => simp only [List.filter_cons, hp, hq, Bool.or_self, Bool.false_eq_true, if_false]; exact h1
def seen (l : List Comb) (m : Nat) (y : Comb) : Bool := (l.take m).any fun x => sm x y
theorem seen_succ {l : List Comb} {m : Nat} {x : Comb} (h : l[m]? = some x) (y : Comb) : seen l (m + 1) y = (seen l m y || sm x y) := by
  unfold seen
  rw [take_next h, List.any_append]
  simp
theorem sum_to (l : List Comb) : ∀ m, m ≤ l.length → ((gs l m).map List.length).sum = (l.filter (seen l m)).length := by
  intro m
  induction m with
  | zero =>
    intro _
    have : seen l 0 = fun _ => false := by funext y; simp [seen]
    rw [this]
    have e : l.filter (fun _ : Comb => false) = [] := List.filter_eq_nil_iff.2 (by simp)
    rw [e]; simp [gs]
  | succ m ih =>
    intro hm
    obtain ⟨x, hx, _⟩ := at_lt (l := l) (k := m) (by omega)
    have h1 := ih (by omega)
    rw [gs_succ hx]
    have e : seen l (m + 1) = fun y => seen l m y || sm x y := by funext y; exact seen_succ hx y
    rw [e]
    cases hb : (l.take m).any (sm x) with
    | true =>
      rw [if_pos rfl, h1]
      congr 1
      apply List.filter_congr
      intro y _
      obtain ⟨z, hz, hxz⟩ := List.any_eq_true.1 hb
      cases hy : sm x y with
      | false => simp
      | true =>
        have : seen l m y = true := List.any_eq_true.2 ⟨z, hz, sm_trans (sm_symm hxz) hy⟩
        rw [this]; rfl
    | false =>
      rw [if_neg (by simp), List.map_append, List.sum_append, h1, filter_or]
      · simp [grp]
      · intro y _ hy
        cases hq : sm x y with
        | false => rfl
        | true =>
          exfalso
          obtain ⟨z, hz, hzy⟩ := List.any_eq_true.1 hy
          have := List.any_eq_true.2 ⟨z, hz, sm_trans hq (sm_symm hzy)⟩
          rw [hb] at this
          simp at this
theorem sum_groups (l : List Comb) : ((gs l l.length).map List.length).sum = l.length := by
  rw [sum_to l l.length (Nat.le_refl _)]
  have : l.filter (seen l l.length) = l := by
    apply List.filter_eq_self.2
    intro y hy
    unfold seen
    rw [List.take_length]
    exact List.any_eq_true.2 ⟨y, hy, sm_self y⟩
  rw [this]
end Go.Proofs.YtdgbigkcophjoaaDoor.Q5Sum

/- Chapter 5: combs, holes, gauges: the plain functions of the program and of the reference agree, and the laws answer true. (Q5Ask) No condition but those of each theorem. -/
namespace Go.Proofs.YtdgbigkcophjoaaDoor.Q5Ask
set_option linter.unusedVariables false
set_option linter.unusedSimpArgs false
open Go.RowKit
open Go.Proofs.YtdgbigkcophjoaaDoor.GoP Go.Proofs.YtdgbigkcophjoaaDoor.PlainStamp Go.Proofs.YtdgbigkcophjoaaDoor.QBase Go.Proofs.YtdgbigkcophjoaaDoor.Q5Comb Go.Proofs.YtdgbigkcophjoaaDoor.Q5Gauge Go.Proofs.YtdgbigkcophjoaaDoor.QLoop Go.Proofs.YtdgbigkcophjoaaDoor.PComb

def nearB (g m o : Int) : Bool := m == 0 || inB g (m - o) (m + o)
def matchB (w h o : Int) (x : Comb) : Bool := nearB x.wide w o && nearB x.high h o
def measB (m : Int) : Bool := m == 0 || inB m 500 2000
def askB (l : List Comb) (w h o : Int) : Bool := okCos l && measB w && measB h && inB o 0 100
theorem measB_in {m : Int} (h : measB m = true) : 0 ≤ m ∧ m ≤ 2000 := by
  unfold measB at h
  simp only [Bool.or_eq_true, beq_iff_eq] at h
  rcases h with h | h
  · omega
  · have := inB_of h; omega
theorem isMeasured_eq (m : Int) : GiIsMeasured.P m = some (measB m) := by
  simp only [GiIsMeasured.P, isGauge_eq, Option.bind_some, letK, joinK, appK, iteK_if, measB]
  cases m == 0 <;> simp
theorem isNear_eq {g m o : Int} (hm : 0 ≤ m ∧ m ≤ 2000) (ho : 0 ≤ o ∧ o ≤ 100) : GiIsNear.P g m o = some (nearB g m o) := by
  simp only [GiIsNear.P, letK, joinK, appK, iteK_if, nearB, within_eq]
  rw [wrap_in (x := m - o) (by omega) (by omega), wrap_in (x := m + o) (by omega) (by omega)]
  cases m == 0 <;> simp
theorem l5Near_eq {g m o : Int} (hm : 0 ≤ m ∧ m ≤ 2000) (ho : 0 ≤ o ∧ o ≤ 100) : GsL5Near.P g m o = some (nearB g m o) := by
  simp only [GsL5Near.P, letK, joinK, appK, iteK_if, nearB, l1In_eq]
  rw [wrap_in (x := m - o) (by omega) (by omega), wrap_in (x := m + o) (by omega) (by omega)]
  cases m == 0 <;> simp
theorem matches_eq (x : Comb) {w h o : Int} (hw : 0 ≤ w ∧ w ≤ 2000) (hh : 0 ≤ h ∧ h ≤ 2000) (ho : 0 ≤ o ∧ o ≤ 100) : GiMatches.P x w h o = some (matchB w h o x) := by
  obtain ⟨a, b, c, d⟩ := x
  simp only [GiMatches.P, unComb, isNear_eq hw ho, isNear_eq hh ho, Option.bind_some, letK, joinK, appK, iteK_if, matchB]
  cases nearB b w o <;> simp
theorem l5Match_eq (x : Comb) {w h o : Int} (hw : 0 ≤ w ∧ w ≤ 2000) (hh : 0 ≤ h ∧ h ≤ 2000) (ho : 0 ≤ o ∧ o ≤ 100) : GsL5Match.P x w h o = some (matchB w h o x) := by
  obtain ⟨a, b, c, d⟩ := x
  simp only [GsL5Match.P, unComb, l5Near_eq hw ho, l5Near_eq hh ho, Option.bind_some, letK, joinK, appK, iteK_if, matchB]
  cases nearB b w o <;> simp
theorem canMatch_eq (l : List Comb) (w h o : Int) : GiCanMatch.P l w h o = some (askB l w h o) := by
  simp only [GiCanMatch.P, areCombs_eq, isMeasured_eq, within_eq, Option.bind_some, joinK, appK, iteK_if, askB]
  cases okCos l <;> cases measB w <;> cases measB h <;> simp
theorem asked_eq (l : List Comb) (w h o : Int) (hl : l.length ≤ 9223372036854775807) : GsL5Asked.P l w h o = some (askB l w h o) := by
  simp only [GsL5Asked.P, l5Good_eq l hl, l5Gauge_eq, l1In_eq, Option.bind_some, letK, joinK, appK, iteK_if, askB, measB]
  cases okCos l <;> cases w == 0 <;> cases h == 0 <;> cases inB w 500 2000 <;> cases inB h 500 2000 <;> simp
theorem ask_of {l : List Comb} {w h o : Int} (ha : askB l w h o = true) : l.length ≤ 10 ∧ (0 ≤ w ∧ w ≤ 2000) ∧ (0 ≤ h ∧ h ≤ 2000) ∧ (0 ≤ o ∧ o ≤ 100) := by
  unfold askB at ha; simp only [Bool.and_eq_true] at ha
  exact ⟨upL_len ha.1.1.1, measB_in ha.1.1.2, measB_in ha.1.2, inB_of ha.2⟩
end Go.Proofs.YtdgbigkcophjoaaDoor.Q5Ask

/- A loop that gathers what a test lets through: the plain loop's answer. (QGath) No condition but those of each theorem. -/
namespace Go.Proofs.YtdgbigkcophjoaaDoor.QGath
set_option linter.unusedVariables false
open Go.RowKit
open Go.Proofs.YtdgbigkcophjoaaDoor.GoP Go.Proofs.YtdgbigkcophjoaaDoor.QBase Go.Proofs.YtdgbigkcophjoaaDoor.QLoop

theorem gather {α β R : Type} {l : List α} {p : α → Bool} {g : α → β} {f : Nat → List β → (List β → Option R) → (List β → Option R) → Option R} {fin : List β → Option R} (hl : l.length ≤ 1099511627776)
    (step : ∀ k nx x s, l[k]? = some x → s.length ≤ 1099511627776 → f k s nx fin = nx (if p x then s ++ [g x] else s)) : cntK f l.length 0 [] fin = fin ((l.filter p).map g) := by
  have key : ∀ m k, k + m = l.length → cntK f m k (((l.take k).filter p).map g) fin = fin ((l.filter p).map g) := by
    intro m
    induction m with
    | zero => intro k hk; obtain rfl : k = l.length := by omega
              rw [List.take_of_length_le (Nat.le_refl _)]; rfl
    | succ m ih =>
      intro k hk
      obtain ⟨x, hx, _⟩ := at_lt (l := l) (k := k) (by omega)
      show f k _ _ fin = _
      have hle : (((l.take k).filter p).map g).length ≤ 1099511627776 := by
        rw [List.length_map]
        have := List.length_filter_le p (l.take k)
        rw [List.length_take] at this
        omega
      rw [step k _ x _ hx hle, ← ih (k + 1) (by omega), take_next hx, List.filter_append, List.map_append]
      cases hp : p x <;> simp [List.filter, hp]
  exact key l.length 0 (by omega)
end Go.Proofs.YtdgbigkcophjoaaDoor.QGath

/- Chapter 5: combs, holes, gauges: the plain functions of the program and of the reference agree, and the laws answer true. (Q5Match) No condition but those of each theorem. -/
namespace Go.Proofs.YtdgbigkcophjoaaDoor.Q5Match
set_option linter.unusedVariables false
set_option linter.unusedSimpArgs false
open Go.RowKit
open Go.Proofs.YtdgbigkcophjoaaDoor.GoP Go.Proofs.YtdgbigkcophjoaaDoor.PlainStamp Go.Proofs.YtdgbigkcophjoaaDoor.QBase Go.Proofs.YtdgbigkcophjoaaDoor.Q5Ask Go.Proofs.YtdgbigkcophjoaaDoor.Q5Comb Go.Proofs.YtdgbigkcophjoaaDoor.QLoop Go.Proofs.YtdgbigkcophjoaaDoor.QGath Go.Proofs.YtdgbigkcophjoaaDoor.PComb

def matchRes (l : List Comb) (w h o : Int) : List Int × Bool := if askB l w h o = true then ((l.filter (matchB w h o)).map Comb.id, true) else ([], false)
theorem match_impl (l : List Comb) (w h o : Int) : GiMatchCombs.P l w h o = some (matchRes l w h o) := by
  simp only [GiMatchCombs.P, canMatch_eq, Option.bind_some, letK, iteK_if, matchRes]
  cases ha : askB l w h o with
  | false => simp
  | true =>
    obtain ⟨h1, hw, hh, ho⟩ := ask_of ha
    simp only [Bool.not_true, Bool.false_eq_true, if_false, if_true, GiKeysWhereCombIntiIdOfCombiMatchCombs1.P]
    rw [gather (p := matchB w h o) (g := Comb.id) (by omega)]
    · simp [GiKeysWhereCombIntiIdOfCombiMatchCombs1.e0, letK]
    · intro k nx x s hx hs
      have hi : idx l (k : Int) = some x := by rw [idx_nat, hx]
      simp only [GiKeysWhereCombIntiIdOfCombiMatchCombs1.l0, hi, Option.bind_some, unComb, GiMatchCombs1.P, matches_eq _ hw hh ho, GiIdOfComb.P, letK, joinK, appK, iteK_if]
      rw [guardK_pos hs]
      cases matchB w h o x <;> simp
theorem match_spec (l : List Comb) (w h o : Int) (hl : l.length ≤ 9223372036854775807) : GsMatchCombs.P l w h o = some (matchRes l w h o) := by
  simp only [GsMatchCombs.P, asked_eq l w h o hl, Option.bind_some, letK, iteK_if, matchRes]
  cases ha : askB l w h o with
  | false => simp
  | true =>
    obtain ⟨h1, hw, hh, ho⟩ := ask_of ha
    simp only [Bool.not_true, Bool.false_eq_true, if_false, if_true]
    rw [gather (p := matchB w h o) (g := Comb.id) (by omega)]
    · simp [GsMatchCombs.e0, letK]
    · intro k nx x s hx hs
      have hi : idx l (k : Int) = some x := by rw [idx_nat, hx]
      simp only [GsMatchCombs.l0, hi, Option.bind_some, unComb, l5Match_eq _ hw hh ho, letK, joinK, appK, iteK_if]
      rw [guardK_pos hs]
      cases matchB w h o x <;> simp
theorem matchRes_len (l : List Comb) (w h o : Int) : (matchRes l w h o).1.length ≤ l.length := by
  unfold matchRes
  split
  · rw [List.length_map]; exact List.length_filter_le _ _
  · simp
end Go.Proofs.YtdgbigkcophjoaaDoor.Q5Match

/- Chapter 5: combs, holes, gauges: the plain functions of the program and of the reference agree, and the laws answer true. (Q5Turned) No condition but those of each theorem. -/
namespace Go.Proofs.YtdgbigkcophjoaaDoor.Q5Turned
set_option linter.unusedVariables false
set_option linter.unusedSimpArgs false
open Go.RowKit
open Go.Proofs.YtdgbigkcophjoaaDoor.GoP Go.Proofs.YtdgbigkcophjoaaDoor.PlainStamp Go.Proofs.YtdgbigkcophjoaaDoor.QBase Go.Proofs.YtdgbigkcophjoaaDoor.Q5Ask Go.Proofs.YtdgbigkcophjoaaDoor.Q5Comb Go.Proofs.YtdgbigkcophjoaaDoor.QLoop Go.Proofs.YtdgbigkcophjoaaDoor.QGath Go.Proofs.YtdgbigkcophjoaaDoor.PComb

def turnB (w h o : Int) (x : Comb) : Bool := !matchB w h o x && matchB h w o x
def turnRes (l : List Comb) (w h o : Int) : List Int × Bool := if askB l w h o = true then ((l.filter (turnB w h o)).map Comb.id, true) else ([], false)
theorem turned_impl (l : List Comb) (w h o : Int) : GiTurnedCombs.P l w h o = some (turnRes l w h o) := by
  simp only [GiTurnedCombs.P, canMatch_eq, Option.bind_some, letK, iteK_if, turnRes]
  cases ha : askB l w h o with
  | false => simp
  | true =>
    obtain ⟨h1, hw, hh, ho⟩ := ask_of ha
    simp only [Bool.not_true, Bool.false_eq_true, if_false, if_true, GiKeysWhereCombIntiIdOfCombiTurnedCombs1.P]
    rw [gather (p := turnB w h o) (g := Comb.id) (by omega)]
    · simp [GiKeysWhereCombIntiIdOfCombiTurnedCombs1.e0, letK]
    · intro k nx x s hx hs
      have hi : idx l (k : Int) = some x := by rw [idx_nat, hx]
      simp only [GiKeysWhereCombIntiIdOfCombiTurnedCombs1.l0, hi, Option.bind_some, unComb, GiTurnedCombs1.P, matches_eq _ hw hh ho, matches_eq _ hh hw ho, GiIdOfComb.P, letK, joinK, appK, iteK_if]
      rw [guardK_pos hs]
      unfold turnB
      cases matchB w h o x <;> cases matchB h w o x <;> simp
theorem turned_spec (l : List Comb) (w h o : Int) (hl : l.length ≤ 9223372036854775807) : GsTurnedCombs.P l w h o = some (turnRes l w h o) := by
  simp only [GsTurnedCombs.P, asked_eq l w h o hl, Option.bind_some, letK, iteK_if, turnRes]
  cases ha : askB l w h o with
  | false => simp
  | true =>
    obtain ⟨h1, hw, hh, ho⟩ := ask_of ha
    simp only [Bool.not_true, Bool.false_eq_true, if_false, if_true]
    rw [gather (p := turnB w h o) (g := Comb.id) (by omega)]
    · simp [GsTurnedCombs.e0, letK]
    · intro k nx x s hx hs
      have hi : idx l (k : Int) = some x := by rw [idx_nat, hx]
      simp only [GsTurnedCombs.l0, hi, Option.bind_some, unComb, l5Match_eq _ hw hh ho, l5Match_eq _ hh hw ho, letK, joinK, appK, iteK_if]
      rw [guardK_pos hs]
      unfold turnB
      cases matchB w h o x <;> cases matchB h w o x <;> simp
theorem turnRes_len (l : List Comb) (w h o : Int) : (turnRes l w h o).1.length ≤ l.length := by
  unfold turnRes
  split
  · rw [List.length_map]; exact List.length_filter_le _ _
  · simp
end Go.Proofs.YtdgbigkcophjoaaDoor.Q5Turned

/- Chapter 5: combs, holes, gauges: the plain functions of the program and of the reference agree, and the laws answer true. (Q5Are) No condition but those of each theorem. -/
namespace Go.Proofs.YtdgbigkcophjoaaDoor.Q5Are
set_option linter.unusedVariables false
set_option linter.unusedSimpArgs false
open Go.RowKit
open Go.Proofs.YtdgbigkcophjoaaDoor.GoP Go.Proofs.YtdgbigkcophjoaaDoor.PlainStamp Go.Proofs.YtdgbigkcophjoaaDoor.QBase Go.Proofs.YtdgbigkcophjoaaDoor.Q5Comb Go.Proofs.YtdgbigkcophjoaaDoor.QLoop Go.Proofs.YtdgbigkcophjoaaDoor.PComb

theorem are_spec (l : List Comb) (hl : l.length ≤ 9223372036854775807) : GsAreCombs.P l = some (okCos l) := by simp only [GsAreCombs.P, l5Good_eq l hl, Option.bind_some]
end Go.Proofs.YtdgbigkcophjoaaDoor.Q5Are

/- Rising rows: what a rising row gives; loops that sum; loops from one on. No condition. -/
namespace Go.Proofs.YtdgbigkcophjoaaDoor.QUp
set_option linter.unusedVariables false
set_option linter.unusedSimpArgs false
open Go.RowKit
open Go.Proofs.YtdgbigkcophjoaaDoor.GoP Go.Proofs.YtdgbigkcophjoaaDoor.QBase Go.Proofs.YtdgbigkcophjoaaDoor.QLoop Go.Proofs.YtdgbigkcophjoaaDoor.QAll

theorem upTo_at {α : Type} {ok : α → Bool} {id : α → Int} {l : List α} {n : Nat} (h : upTo ok id l n = true) {k : Nat} (hk : k < n) : upAt ok id l k = true := List.all_eq_true.1 h k (List.mem_range.2 hk)
theorem upTo_ok {α : Type} {ok : α → Bool} {id : α → Int} {l : List α} {n : Nat} (h : upTo ok id l n = true) {k : Nat} (hk : k < n) {x : α} (hx : l[k]? = some x) : ok x = true := by
  have := upTo_at h hk
  unfold upAt at this
  rw [hx] at this
  simp only [Bool.and_eq_true] at this
  exact this.1
theorem upTo_step {α : Type} {ok : α → Bool} {id : α → Int} {l : List α} {n : Nat} (h : upTo ok id l n = true) {k : Nat} (hk : k + 1 < n) {x y : α} (hx : l[k]? = some x) (hy : l[k + 1]? = some y) : id x < id y := by
  have := upTo_at h hk
  unfold upAt at this
  rw [hy] at this
  simp only [Nat.add_sub_cancel, hx, Bool.and_eq_true, Bool.or_eq_true, decide_eq_true_eq] at this
  rcases this.2 with h0 | h0
  · omega
  · exact h0
theorem upTo_lt {α : Type} {ok : α → Bool} {id : α → Int} {l : List α} {n : Nat} (h : upTo ok id l n = true) (hn : n ≤ l.length) {i : Nat} : ∀ d {x y : α}, i + d + 1 < n → l[i]? = some x → l[i + d + 1]? = some y → id x < id y := by
  intro d
  induction d with
  | zero => intro x y hk hx hy; exact upTo_step h hk hx hy
  | succ d ih =>
    intro x y hk hx hy
    obtain ⟨z, hz, _⟩ := at_lt (l := l) (k := i + d + 1) (by omega)
    have h1 := ih (by omega) hx hz
    have h2 := upTo_step (k := i + d + 1) h (by omega) hz (by rw [← hy]; rfl)
    omega
/-- rising numbers: the later one is greater -/
theorem up_less {α : Type} {ok : α → Bool} {id : α → Int} {l : List α} (h : upTo ok id l l.length = true) {i j : Nat} {x y : α} (hij : i < j) (hx : l[i]? = some x) (hy : l[j]? = some y) : id x < id y := by
  have hj := (List.getElem?_eq_some_iff.1 hy).1
  exact upTo_lt h (Nat.le_refl _) (j - i - 1) (by omega) hx (by rw [← hy]; congr 1; omega)
/-- a loop with fuel, from k on, by an invariant -/
theorem lp_is {σ ρ : Type} {f : σ → (σ → Option ρ) → (σ → Option ρ) → Option ρ} {fin : σ → Option ρ} {n : Nat} (r : ρ) (I : Nat → σ → Prop)
    (step : ∀ k s nx, k < n → I k s → (∀ s', I (k + 1) s' → nx s' = some r) → f s nx fin = some r) (done : ∀ s nx, I n s → f s nx fin = some r) (fuel : Nat) (k : Nat) (s : σ) (hk : k ≤ n) (hf : n - k < fuel) (hI : I k s) : loopK f fuel s fin = some r := by
  obtain ⟨r', h, rfl⟩ := lp_ex (Q := fun x => x = r) I (fun k s nx hk hI hn => ⟨r, step k s nx hk hI (fun s' h' => by obtain ⟨_, h, rfl⟩ := hn s' h'; exact h), rfl⟩) (fun s nx h => ⟨r, done s nx h, rfl⟩) fuel k s hk hf hI
  exact h
theorem most_eq (a b : Int) (h : (if b < a then a else b) = max a b := by omega) : (if b < a then a else b) = max a b := h
end Go.Proofs.YtdgbigkcophjoaaDoor.QUp

