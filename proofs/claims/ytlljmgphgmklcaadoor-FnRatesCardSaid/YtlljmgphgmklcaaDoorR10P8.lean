/- Texts on which the proofs of several laws stand, one behind the other (8 of 10). No condition of their own. -/
import Derived.Test.YtlljmgphgmklcaaDoorChecked
import Derived.Test.YtlljmgphgmklcaaDoorR10P1
import Derived.Test.YtlljmgphgmklcaaDoorR10P2
import Derived.Test.YtlljmgphgmklcaaDoorR10P4
import Derived.Test.YtlljmgphgmklcaaDoorR10P5
import Derived.Test.YtlljmgphgmklcaaDoorR10P6
import Derived.Test.YtlljmgphgmklcaaDoorR10P7
import Derived.WalkKit
import Derived.WalkSpells
import Derived.WalkLawsBesides
import Derived.BigQuiet
import Derived.OwnWalk
import Derived.Deep.LoopGhost
import Derived.Deep.QuietTactic
import Derived.IntWalk
import Derived.Lib.QuietBelow
import Derived.Test.YtlljmgphgmklcaaDoorRows
import Derived.LaidSub
import Derived.Lib.LaidTab
import Derived.Lib.ItoaNum
import Derived.KernelRfl
/- loop.example/g01062/laws.FnRates as a plain function, and the contract of the program's: where the plain one has an answer, the program has it. Conditions: slices read as lists. -/
namespace Go.Proofs.YtlljmgphgmklcaaDoor.GlFnRates
set_option linter.unusedVariables false
set_option linter.unusedSimpArgs false
open Go.RowKit
open Go.Proofs.YtlljmgphgmklcaaDoor.Rowed Go.Proofs.YtlljmgphgmklcaaDoor.Turn Go.Proofs.YtlljmgphgmklcaaDoor.Aid Go.Proofs.YtlljmgphgmklcaaDoor.GoP Go.Proofs.YtlljmgphgmklcaaDoor.GoM Go.Proofs.YtlljmgphgmklcaaDoor.Tab

def l0 (t_5a : (List Go.Proofs.YtlljmgphgmklcaaDoor.PRate.Rate)) (t_5b : Int) (t_5c : Int) (t_16a : (List Go.Proofs.YtlljmgphgmklcaaDoor.PIntA3.IntA3)) (k0 : Nat) (s : Unit) (nx0 bk0 : Unit → Option (Bool)) : Option (Bool) :=
  
  Option.bind (idx t_16a (k0 : Int)) fun (yt_56 : Go.Proofs.YtlljmgphgmklcaaDoor.PIntA3.IntA3) =>
  unIntA3 yt_56 fun (t_56_x0 : Int) (t_56_x1 : Int) (t_56_x2 : Int) =>
  bind2 (Go.Proofs.YtlljmgphgmklcaaDoor.GiRateFor.P t_5a t_56_x0 t_5b t_5c) fun (t_61a : Int) (t_61b : Bool) =>
  Option.bind (idx t_16a (k0 : Int)) fun (yt_70 : Go.Proofs.YtlljmgphgmklcaaDoor.PIntA3.IntA3) =>
  unIntA3 yt_70 fun (t_70_x0 : Int) (t_70_x1 : Int) (t_70_x2 : Int) =>
  bind2 (Go.Proofs.YtlljmgphgmklcaaDoor.GiRateFor.P t_5a t_70_x1 t_5b t_5c) fun (t_75a : Int) (t_75b : Bool) =>
  Option.bind (idx t_16a (k0 : Int)) fun (yt_84 : Go.Proofs.YtlljmgphgmklcaaDoor.PIntA3.IntA3) =>
  unIntA3 yt_84 fun (t_84_x0 : Int) (t_84_x1 : Int) (t_84_x2 : Int) =>
  letK (IntKind.i64.wrap (t_84_x0 - 1)) fun (t_87 : Int) =>
  bind2 (Go.Proofs.YtlljmgphgmklcaaDoor.GiRateFor.P t_5a t_87 t_5b t_5c) fun (t_90a : Int) (t_90b : Bool) =>
  Option.bind (idx t_16a (k0 : Int)) fun (yt_99 : Go.Proofs.YtlljmgphgmklcaaDoor.PIntA3.IntA3) =>
  unIntA3 yt_99 fun (t_99_x0 : Int) (t_99_x1 : Int) (t_99_x2 : Int) =>
  letK (IntKind.i64.wrap (t_99_x1 + 1)) fun (t_102 : Int) =>
  bind2 (Go.Proofs.YtlljmgphgmklcaaDoor.GiRateFor.P t_5a t_102 t_5b t_5c) fun (t_105a : Int) (t_105b : Bool) =>
  letK (!t_61b) fun (t_112 : Bool) =>
  joinK (fun (t_116 : Bool) =>
  joinK (fun (t_125 : Bool) =>
  joinK (fun (t_130 : Bool) =>
  joinK (fun (t_135 : Bool) =>
  joinK (fun (t_140 : Bool) =>
  iteK t_140
  (some false)
  (appK nx0 ())) fun jt_140 => iteK t_135 (appK jt_140 true) (letK (t_105a == t_61a) fun (t_139 : Bool) =>
  appK jt_140 t_139)) fun jt_135 => iteK t_130 (appK jt_135 true) (letK (t_90a == t_61a) fun (t_134 : Bool) =>
  appK jt_135 t_134)) fun jt_130 => iteK t_125 (appK jt_130 true) (letK (t_75a != t_61a) fun (t_129 : Bool) =>
  appK jt_130 t_129)) fun jt_125 => iteK t_116 (appK jt_125 true) (Option.bind (idx t_16a (k0 : Int)) fun (yt_121 : Go.Proofs.YtlljmgphgmklcaaDoor.PIntA3.IntA3) =>
  unIntA3 yt_121 fun (t_121_x0 : Int) (t_121_x1 : Int) (t_121_x2 : Int) =>
  letK (t_61a != t_121_x2) fun (t_124 : Bool) =>
  appK jt_125 t_124)) fun jt_116 => iteK t_112 (appK jt_116 true) (letK (!t_75b) fun (t_115 : Bool) =>
  appK jt_116 t_115)

def j1 (code : (List Int)) (tapes : List Int → Go.Proofs.YtlljmgphgmklcaaDoor.GoC.Tape) (s : Unit) : Option (Bool) :=
  Option.bind (Go.Proofs.YtlljmgphgmklcaaDoor.GsDrawRateText.P tapes code) fun (t_263 : Go.Proofs.YtlljmgphgmklcaaDoor.PRate.Rate) =>
  unRate t_263 fun (t_263_zone : Int) (t_263_grams : Int) (t_263_from_ : Int) (t_263_until_ : Int) (t_263_cents : Int) =>
  bind2 (Go.Proofs.YtlljmgphgmklcaaDoor.GiRateText.P (Go.Proofs.YtlljmgphgmklcaaDoor.PRate.Rate.mk t_263_zone t_263_grams t_263_from_ t_263_until_ t_263_cents)) fun (t_267a : ByteArray) (t_267b : Bool) =>
  bind2 (Go.Proofs.YtlljmgphgmklcaaDoor.GsRateText.P (Go.Proofs.YtlljmgphgmklcaaDoor.PRate.Rate.mk t_263_zone t_263_grams t_263_from_ t_263_until_ t_263_cents)) fun (t_274a : ByteArray) (t_274b : Bool) =>
  letK (t_267a.toList == t_274a.toList) fun (t_282 : Bool) =>
  joinK (fun (t_287 : Bool) =>
  joinK (fun (t_293 : Bool) =>
  some t_293) fun jt_293 => iteK t_287 (Option.bind (Go.Proofs.YtlljmgphgmklcaaDoor.GiIsRate.P (Go.Proofs.YtlljmgphgmklcaaDoor.PRate.Rate.mk t_263_zone t_263_grams t_263_from_ t_263_until_ t_263_cents)) fun (t_291 : Bool) =>
  letK (t_267b == t_291) fun (t_292 : Bool) =>
  appK jt_293 t_292) (appK jt_293 false)) fun jt_287 => iteK t_282 (letK (t_267b == t_274b) fun (t_286 : Bool) =>
  appK jt_287 t_286) (appK jt_287 false)

def j0 (code : (List Int)) (fuel : Nat) (tapes : List Int → Go.Proofs.YtlljmgphgmklcaaDoor.GoC.Tape) (s : Unit) : Option (Bool) :=
  bind4 (Go.Proofs.YtlljmgphgmklcaaDoor.GsDrawFirstWithout.P fuel tapes code) fun (t_205a : (List Go.Proofs.YtlljmgphgmklcaaDoor.PRate.Rate)) (t_205b : Int) (t_205c : Int) (t_205d : Int) =>
  bind2 (Go.Proofs.YtlljmgphgmklcaaDoor.GiFirstWithout.P t_205a t_205b t_205c t_205d) fun (t_219a : Int) (t_219b : Bool) =>
  bind2 (Go.Proofs.YtlljmgphgmklcaaDoor.GsFirstWithout.P fuel t_205a t_205b t_205c t_205d) fun (t_229a : Int) (t_229b : Bool) =>
  letK (t_219a != t_229a) fun (t_237 : Bool) =>
  joinK (fun (t_242 : Bool) =>
  iteK t_242
  (some false)
  (iteK t_219b
  (bind2 (Go.Proofs.YtlljmgphgmklcaaDoor.GiRateFor.P t_205a t_219a t_205b t_205c) fun (t_249a : Int) (t_249b : Bool) =>
  joinK (fun (t_260 : Bool) =>
  iteK t_260
  (some false)
  (j1 code tapes ())) fun jt_260 => iteK t_249b (appK jt_260 true) (letK (decide (t_219a < t_205d)) fun (t_259 : Bool) =>
  appK jt_260 t_259))
  (j1 code tapes ()))) fun jt_242 => iteK t_237 (appK jt_242 true) (letK (!(t_219b == t_229b)) fun (t_241 : Bool) =>
  appK jt_242 t_241)

def e0 (code : (List Int)) (fuel : Nat) (tapes : List Int → Go.Proofs.YtlljmgphgmklcaaDoor.GoC.Tape) (s : Unit) : Option (Bool) :=
  
  bind4 (Go.Proofs.YtlljmgphgmklcaaDoor.GsDrawRateFor.P fuel tapes code) fun (t_146a : (List Go.Proofs.YtlljmgphgmklcaaDoor.PRate.Rate)) (t_146b : Int) (t_146c : Int) (t_146d : Int) =>
  bind2 (Go.Proofs.YtlljmgphgmklcaaDoor.GiRateFor.P t_146a t_146b t_146c t_146d) fun (t_160a : Int) (t_160b : Bool) =>
  bind2 (Go.Proofs.YtlljmgphgmklcaaDoor.GsRateFor.P fuel t_146a t_146b t_146c t_146d) fun (t_170a : Int) (t_170b : Bool) =>
  letK (t_160a != t_170a) fun (t_178 : Bool) =>
  joinK (fun (t_183 : Bool) =>
  iteK t_183
  (some false)
  (iteK t_160b
  (bind2 (Go.Proofs.YtlljmgphgmklcaaDoor.GiHeaviestFor.P t_146a t_146b t_146c t_160a) fun (t_190a : Int) (t_190b : Bool) =>
  letK (!t_190b) fun (t_197 : Bool) =>
  joinK (fun (t_202 : Bool) =>
  iteK t_202
  (some false)
  (j0 code fuel tapes ())) fun jt_202 => iteK t_197 (appK jt_202 true) (letK (decide (t_190a < t_146d)) fun (t_201 : Bool) =>
  appK jt_202 t_201))
  (j0 code fuel tapes ()))) fun jt_183 => iteK t_178 (appK jt_183 true) (letK (!(t_160b == t_170b)) fun (t_182 : Bool) =>
  appK jt_183 t_182)

def P (fuel : Nat) (tapes : List Int → Go.Proofs.YtlljmgphgmklcaaDoor.GoC.Tape) (code : (List Int)) : Option (Bool) :=
  Option.bind (Go.Proofs.YtlljmgphgmklcaaDoor.GlVBig.P code) fun (t_2 : Bool) =>
  iteK t_2
  (some true)
  (bind3 (Go.Proofs.YtlljmgphgmklcaaDoor.GsDrawRateSpans.P fuel tapes code) fun (t_5a : (List Go.Proofs.YtlljmgphgmklcaaDoor.PRate.Rate)) (t_5b : Int) (t_5c : Int) =>
  bind2 (Go.Proofs.YtlljmgphgmklcaaDoor.GiRateSpans.P t_5a t_5b t_5c) fun (t_16a : (List Go.Proofs.YtlljmgphgmklcaaDoor.PIntA3.IntA3)) (t_16b : Bool) =>
  bind2 (Go.Proofs.YtlljmgphgmklcaaDoor.GsRateSpans.P fuel t_5a t_5b t_5c) fun (t_25a : (List Go.Proofs.YtlljmgphgmklcaaDoor.PIntA3.IntA3)) (t_25b : Bool) =>
  letK (!(t_16b == t_25b)) fun (t_33 : Bool) =>
  joinK (fun (t_39 : Bool) =>
  joinK (fun (t_46 : Bool) =>
  iteK t_46
  (some false)
  (cntK (l0 t_5a t_5b t_5c t_16a) (t_16a.length) 0 () (e0 code fuel tapes))) fun jt_46 => iteK t_39 (appK jt_46 true) (Option.bind (Go.Proofs.YtlljmgphgmklcaaDoor.GiAreRates.P t_5a) fun (t_42 : Bool) =>
  Option.bind (Go.Proofs.YtlljmgphgmklcaaDoor.GsAreRates.P fuel t_5a) fun (t_44 : Bool) =>
  letK (!(t_42 == t_44)) fun (t_45 : Bool) =>
  appK jt_46 t_45)) fun jt_39 => iteK t_33 (appK jt_39 true) (Option.bind (Go.Proofs.YtlljmgphgmklcaaDoor.GlVTriples.P t_16a t_25a) fun (t_37 : Bool) =>
  letK (!t_37) fun (t_38 : Bool) =>
  appK jt_39 t_38))

set_option maxRecDepth 100000 in
set_option maxHeartbeats 2000000 in
theorem C (fuel : Nat) (tapes : List Int → Go.Proofs.YtlljmgphgmklcaaDoor.GoC.Tape) (code : (List Int)) (A0 : Option Addr) (c0 : Nat)  (w : World) (HT : Hid (Tab w)) (HE : Hid (Go.Proofs.YtlljmgphgmklcaaDoor.GoC.Tells tapes)) (M0 : Hid (Cells w 1 A0 code.length (Go.Proofs.YtlljmgphgmklcaaDoor.GoC.u8s code))) (N0 : Hid (code.length ≤ 9223372036854775807)) (V0 : Hid (∀ z ∈ code, 0 ≤ z ∧ z ≤ 255))  {r : Bool} (H : Hid (P fuel tapes code = some r)) :
    Calls Tryd.prog 3 #[.slice A0 code.length c0] w (Gives (.bool r) w) := by
  have HB := Lib.hid (Below.refl w.heap.size w)
  unfold P at H
  have N0o := N0.out
  go_enter Tryd.func3, Tryd.ntmps3
  replace H := bind_hid H
  obtain ⟨t_2, qt_2, H⟩ := H
  go_wp2_with fail
  go_at_call 4
  refine (Go.Proofs.YtlljmgphgmklcaaDoor.GlVBig.C (code) A0 c0 _   (Lib.hid (Cells.below M0.out HB.out)) N0 V0 qt_2).mono ?_
  rintro e_t_2 wt_2 ⟨rfl, bt_2⟩
  have HBwt_2 := Lib.hid (Below.step HB.out bt_2)
  clear bt_2
  cases t_2 with
  | false =>
    replace H := ite_f H
    replace H := bind3_hid H
    obtain ⟨t_5a, t_5b, t_5c, qt_5, H⟩ := H
    go_wp2_with fail
    go_at_call 5
    refine (Go.Proofs.YtlljmgphgmklcaaDoor.GsDrawRateSpans.C fuel tapes (code) A0 c0 _  HE (Lib.hid (Cells.below M0.out HBwt_2.out)) N0 V0 qt_5).mono ?_
    rintro e_t_5 wt_5 ⟨At_5a, ct_5a, rfl, ot_5a, bt_5⟩
    have Ot_5a := Lib.hid (own_lower ot_5a HBwt_2.out.size)
    clear ot_5a
    have HBwt_5 := Lib.hid (Below.step HBwt_2.out bt_5)
    clear bt_5
    replace H := bind2_hid H
    obtain ⟨t_16a, t_16b, qt_16, H⟩ := H
    go_wp2_with fail
    go_at_call 6
    refine (Go.Proofs.YtlljmgphgmklcaaDoor.GiRateSpans.C (t_5a) (t_5b) (t_5c) At_5a ct_5a _   (Lib.hid (own_cells Ot_5a.out)) (Lib.hid (own_max Ot_5a.out)) qt_16).mono ?_
    rintro e_t_16 wt_16 ⟨At_16a, ct_16a, rfl, ot_16a, bt_16⟩
    have Dt_16a_t_5a := Lib.hid (apart_call ot_16a Ot_5a.out)
    have Ot_16a := Lib.hid (own_lower ot_16a HBwt_5.out.size)
    clear ot_16a
    have HBwt_16 := Lib.hid (Below.step HBwt_5.out bt_16)
    replace Ot_5a := Lib.hid (own_below Ot_5a.out bt_16)
    clear bt_16
    replace H := bind2_hid H
    obtain ⟨t_25a, t_25b, qt_25, H⟩ := H
    go_wp2_with fail
    go_at_call 7
    refine (Go.Proofs.YtlljmgphgmklcaaDoor.GsRateSpans.C fuel (t_5a) (t_5b) (t_5c) At_5a ct_5a _   (Lib.hid (own_cells Ot_5a.out)) (Lib.hid (own_max Ot_5a.out)) qt_25).mono ?_
    rintro e_t_25 wt_25 ⟨At_25a, ct_25a, rfl, ot_25a, bt_25⟩
    have Dt_25a_t_5a := Lib.hid (apart_call ot_25a Ot_5a.out)
    have Dt_25a_t_16a := Lib.hid (apart_call ot_25a Ot_16a.out)
    have Ot_25a := Lib.hid (own_lower ot_25a HBwt_16.out.size)
    clear ot_25a
    have HBwt_25 := Lib.hid (Below.step HBwt_16.out bt_25)
    replace Ot_5a := Lib.hid (own_below Ot_5a.out bt_25)
    replace Ot_16a := Lib.hid (own_below Ot_16a.out bt_25)
    clear bt_25
    replace H := let_hid H
    obtain ⟨t_33, ht_33, H⟩ := H
    replace H := join_hid H
    cases t_33 with
    | false =>
      replace H := ite_f H
      replace H := bind_hid H
      obtain ⟨t_37, qt_37, H⟩ := H
      go_wp2_with fail
      go_at_call 8
      refine (Go.Proofs.YtlljmgphgmklcaaDoor.GlVTriples.C (t_16a) (t_25a) At_16a ct_16a At_25a ct_25a _   (Lib.hid (own_cells Ot_16a.out)) (Lib.hid (own_max Ot_16a.out)) (Lib.hid (own_cells Ot_25a.out)) (Lib.hid (own_max Ot_25a.out)) qt_37).mono ?_
      rintro e_t_37 wt_37 ⟨rfl, bt_37⟩
      have HBwt_37 := Lib.hid (Below.step HBwt_25.out bt_37)
      replace Ot_5a := Lib.hid (own_below Ot_5a.out bt_37)
      replace Ot_16a := Lib.hid (own_below Ot_16a.out bt_37)
      replace Ot_25a := Lib.hid (own_below Ot_25a.out bt_37)
      clear bt_37
      cases t_37 with
      | false =>
        replace H := let_hid H
        obtain ⟨t_38, ht_38, H⟩ := H
        obtain rfl : t_38 = true := ht_38.symm
        replace H := app_hid H
        replace H := join_hid H
        replace H := ite_t H
        replace H := app_hid H
        replace H := ite_t H
        obtain rfl := ret_hid H
        go_wp2_with fail
        go_ret
        exact ⟨rfl, HBwt_37.out⟩
      | true =>
        replace H := let_hid H
        obtain ⟨t_38, ht_38, H⟩ := H
        obtain rfl : t_38 = false := ht_38.symm
        replace H := app_hid H
        replace H := join_hid H
        replace H := ite_f H
        replace H := bind_hid H
        obtain ⟨t_42, qt_42, H⟩ := H
        go_wp2_with fail
        go_at_call 9
        refine (Go.Proofs.YtlljmgphgmklcaaDoor.GiAreRates.C (t_5a) At_5a ct_5a _   (Lib.hid (own_cells Ot_5a.out)) (Lib.hid (own_max Ot_5a.out)) qt_42).mono ?_
        rintro e_t_42 wt_42 ⟨rfl, bt_42⟩
        have HBwt_42 := Lib.hid (Below.step HBwt_37.out bt_42)
        replace Ot_5a := Lib.hid (own_below Ot_5a.out bt_42)
        replace Ot_16a := Lib.hid (own_below Ot_16a.out bt_42)
        replace Ot_25a := Lib.hid (own_below Ot_25a.out bt_42)
        clear bt_42
        replace H := bind_hid H
        obtain ⟨t_44, qt_44, H⟩ := H
        go_wp2_with fail
        go_at_call 10
        refine (Go.Proofs.YtlljmgphgmklcaaDoor.GsAreRates.C fuel (t_5a) At_5a ct_5a _   (Lib.hid (own_cells Ot_5a.out)) (Lib.hid (own_max Ot_5a.out)) qt_44).mono ?_
        rintro e_t_44 wt_44 ⟨rfl, bt_44⟩
        have HBwt_44 := Lib.hid (Below.step HBwt_42.out bt_44)
        replace Ot_5a := Lib.hid (own_below Ot_5a.out bt_44)
        replace Ot_16a := Lib.hid (own_below Ot_16a.out bt_44)
        replace Ot_25a := Lib.hid (own_below Ot_25a.out bt_44)
        clear bt_44
        replace H := let_hid H
        obtain ⟨t_45, ht_45, H⟩ := H
        replace H := app_hid H
        cases t_45 with
        | false =>
          replace H := ite_f H
          have hb_0 : t_16a.length ≤ 9223372036854775807 := own_max Ot_16a.out
          go_wp2_with fail
          go_loopg [10] (t_16a.length) (fun m_ v10_ wr => ∃ (k0 : Nat) , k0 + m_ = t_16a.length ∧ v10_ = .int .i64 (k0 : Int) ∧ Hid (cntK (l0 t_5a t_5b t_5c t_16a) m_ k0 () (e0 code fuel tapes) = some r) ∧ Hid (Below w.heap.size w wr) ∧ Hid (wr.ownsRow w.heap.size 38 5 (.slice At_5a t_5a.length ct_5a) t_5a.length (Go.Proofs.YtlljmgphgmklcaaDoor.PRate.flat t_5a)) ∧ Hid (wr.ownsRow w.heap.size 34 3 (.slice At_16a t_16a.length ct_16a) t_16a.length (Go.Proofs.YtlljmgphgmklcaaDoor.PIntA3.flat t_16a)) ∧ Hid (wr.ownsRow w.heap.size 34 3 (.slice At_25a t_25a.length ct_25a) t_25a.length (Go.Proofs.YtlljmgphgmklcaaDoor.PIntA3.flat t_25a)))
          case atStart => exact ⟨0, by omega, rfl, H, HBwt_44, Ot_5a, Ot_16a, Ot_25a⟩
          case round =>
            obtain ⟨k0, hkm0, rfl, H, HBwr0, Ot_5a, Ot_16a, Ot_25a⟩ := hrel
            rename World => wr0
            cases gk with
            | zero =>
              obtain rfl : k0 = t_16a.length := by omega
              have hc0 : decide (((t_16a.length : Nat) : Int) < ((t_16a.length : Nat) : Int)) = false := by simp
              replace H := cnt_zero H
              unfold e0 at H
              replace H := bind4_hid H
              obtain ⟨t_146a, t_146b, t_146c, t_146d, qt_146, H⟩ := H
              go_wp2_with fail
              go_at_call 12
              refine (Go.Proofs.YtlljmgphgmklcaaDoor.GsDrawRateFor.C fuel tapes (code) A0 c0 _  HE (Lib.hid (Cells.below M0.out HBwr0.out)) N0 V0 qt_146).mono ?_
              rintro e_t_146 wt_146 ⟨At_146a, ct_146a, rfl, ot_146a, bt_146⟩
              have Dt_146a_t_5a := Lib.hid (apart_call ot_146a Ot_5a.out)
              have Dt_146a_t_16a := Lib.hid (apart_call ot_146a Ot_16a.out)
              have Dt_146a_t_25a := Lib.hid (apart_call ot_146a Ot_25a.out)
              have Ot_146a := Lib.hid (own_lower ot_146a HBwr0.out.size)
              clear ot_146a
              have HBwt_146 := Lib.hid (Below.step HBwr0.out bt_146)
              replace Ot_5a := Lib.hid (own_below Ot_5a.out bt_146)
              replace Ot_16a := Lib.hid (own_below Ot_16a.out bt_146)
              replace Ot_25a := Lib.hid (own_below Ot_25a.out bt_146)
              clear bt_146
              replace H := bind2_hid H
              obtain ⟨t_160a, t_160b, qt_160, H⟩ := H
              go_wp2_with fail
              go_at_call 11
              refine (Go.Proofs.YtlljmgphgmklcaaDoor.GiRateFor.C (t_146a) (t_146b) (t_146c) (t_146d) At_146a ct_146a _   (Lib.hid (own_cells Ot_146a.out)) (Lib.hid (own_max Ot_146a.out)) qt_160).mono ?_
              rintro e_t_160 wt_160 ⟨rfl, bt_160⟩
              have HBwt_160 := Lib.hid (Below.step HBwt_146.out bt_160)
              replace Ot_5a := Lib.hid (own_below Ot_5a.out bt_160)
              replace Ot_16a := Lib.hid (own_below Ot_16a.out bt_160)
              replace Ot_25a := Lib.hid (own_below Ot_25a.out bt_160)
              replace Ot_146a := Lib.hid (own_below Ot_146a.out bt_160)
              clear bt_160
              replace H := bind2_hid H
              obtain ⟨t_170a, t_170b, qt_170, H⟩ := H
              go_wp2_with fail
              go_at_call 13
              refine (Go.Proofs.YtlljmgphgmklcaaDoor.GsRateFor.C fuel (t_146a) (t_146b) (t_146c) (t_146d) At_146a ct_146a _   (Lib.hid (own_cells Ot_146a.out)) (Lib.hid (own_max Ot_146a.out)) qt_170).mono ?_
              rintro e_t_170 wt_170 ⟨rfl, bt_170⟩
              have HBwt_170 := Lib.hid (Below.step HBwt_160.out bt_170)
              replace Ot_5a := Lib.hid (own_below Ot_5a.out bt_170)
              replace Ot_16a := Lib.hid (own_below Ot_16a.out bt_170)
              replace Ot_25a := Lib.hid (own_below Ot_25a.out bt_170)
              replace Ot_146a := Lib.hid (own_below Ot_146a.out bt_170)
              clear bt_170
              replace H := let_hid H
              obtain ⟨t_178, ht_178, H⟩ := H
              replace H := join_hid H
              cases t_178 with
              | false =>
                replace H := ite_f H
                replace H := let_hid H
                obtain ⟨t_182, ht_182, H⟩ := H
                replace H := app_hid H
                cases t_182 with
                | false =>
                  replace H := ite_f H
                  cases t_160b with
                  | false =>
                    obtain rfl : t_170b = false := by revert ht_182; cases t_170b <;> simp
                    replace H := ite_f H
                    unfold j0 at H
                    replace H := bind4_hid H
                    obtain ⟨t_205a, t_205b, t_205c, t_205d, qt_205, H⟩ := H
                    go_wp2_with fail
                    go_at_call 15
                    refine (Go.Proofs.YtlljmgphgmklcaaDoor.GsDrawFirstWithout.C fuel tapes (code) A0 c0 _  HE (Lib.hid (Cells.below M0.out HBwt_170.out)) N0 V0 qt_205).mono ?_
                    rintro e_t_205 wt_205 ⟨At_205a, ct_205a, rfl, ot_205a, bt_205⟩
                    have Dt_205a_t_5a := Lib.hid (apart_call ot_205a Ot_5a.out)
                    have Dt_205a_t_16a := Lib.hid (apart_call ot_205a Ot_16a.out)
                    have Dt_205a_t_25a := Lib.hid (apart_call ot_205a Ot_25a.out)
                    have Dt_205a_t_146a := Lib.hid (apart_call ot_205a Ot_146a.out)
                    have Ot_205a := Lib.hid (own_lower ot_205a HBwt_170.out.size)
                    clear ot_205a
                    have HBwt_205 := Lib.hid (Below.step HBwt_170.out bt_205)
                    replace Ot_5a := Lib.hid (own_below Ot_5a.out bt_205)
                    replace Ot_16a := Lib.hid (own_below Ot_16a.out bt_205)
                    replace Ot_25a := Lib.hid (own_below Ot_25a.out bt_205)
                    replace Ot_146a := Lib.hid (own_below Ot_146a.out bt_205)
                    clear bt_205
                    replace H := bind2_hid H
                    obtain ⟨t_219a, t_219b, qt_219, H⟩ := H
                    go_wp2_with fail
                    go_at_call 16
                    refine (Go.Proofs.YtlljmgphgmklcaaDoor.GiFirstWithout.C (t_205a) (t_205b) (t_205c) (t_205d) At_205a ct_205a _   (Lib.hid (own_cells Ot_205a.out)) (Lib.hid (own_max Ot_205a.out)) qt_219).mono ?_
                    rintro e_t_219 wt_219 ⟨rfl, bt_219⟩
                    have HBwt_219 := Lib.hid (Below.step HBwt_205.out bt_219)
                    replace Ot_5a := Lib.hid (own_below Ot_5a.out bt_219)
                    replace Ot_16a := Lib.hid (own_below Ot_16a.out bt_219)
                    replace Ot_25a := Lib.hid (own_below Ot_25a.out bt_219)
                    replace Ot_146a := Lib.hid (own_below Ot_146a.out bt_219)
                    replace Ot_205a := Lib.hid (own_below Ot_205a.out bt_219)
                    clear bt_219
                    replace H := bind2_hid H
                    obtain ⟨t_229a, t_229b, qt_229, H⟩ := H
                    go_wp2_with fail
                    go_at_call 17
                    refine (Go.Proofs.YtlljmgphgmklcaaDoor.GsFirstWithout.C fuel (t_205a) (t_205b) (t_205c) (t_205d) At_205a ct_205a _   (Lib.hid (own_cells Ot_205a.out)) (Lib.hid (own_max Ot_205a.out)) qt_229).mono ?_
                    rintro e_t_229 wt_229 ⟨rfl, bt_229⟩
                    have HBwt_229 := Lib.hid (Below.step HBwt_219.out bt_229)
                    replace Ot_5a := Lib.hid (own_below Ot_5a.out bt_229)
                    replace Ot_16a := Lib.hid (own_below Ot_16a.out bt_229)
                    replace Ot_25a := Lib.hid (own_below Ot_25a.out bt_229)
                    replace Ot_146a := Lib.hid (own_below Ot_146a.out bt_229)
                    replace Ot_205a := Lib.hid (own_below Ot_205a.out bt_229)
                    clear bt_229
                    replace H := let_hid H
                    obtain ⟨t_237, ht_237, H⟩ := H
                    replace H := join_hid H
                    cases t_237 with
                    | false =>
                      replace H := ite_f H
                      replace H := let_hid H
                      obtain ⟨t_241, ht_241, H⟩ := H
                      replace H := app_hid H
                      cases t_241 with
                      | false =>
                        replace H := ite_f H
                        cases t_219b with
                        | false =>
                          obtain rfl : t_229b = false := by revert ht_241; cases t_229b <;> simp
                          replace H := ite_f H
                          unfold j1 at H
                          replace H := bind_hid H
                          obtain ⟨t_263, qt_263, H⟩ := H
                          obtain ⟨t_263_zone, t_263_grams, t_263_from_, t_263_until_, t_263_cents⟩ := t_263
                          replace H := unRate_hid H
                          go_wp2_with fail
                          go_at_call 18
                          refine (Go.Proofs.YtlljmgphgmklcaaDoor.GsDrawRateText.C tapes (code) A0 c0 _  HE (Lib.hid (Cells.below M0.out HBwt_229.out)) N0 V0 qt_263).mono ?_
                          rintro e_t_263 wt_263 ⟨rfl, bt_263⟩
                          unfold Go.Proofs.YtlljmgphgmklcaaDoor.PRate.Rate.val
                          have HBwt_263 := Lib.hid (Below.step HBwt_229.out bt_263)
                          replace Ot_5a := Lib.hid (own_below Ot_5a.out bt_263)
                          replace Ot_16a := Lib.hid (own_below Ot_16a.out bt_263)
                          replace Ot_25a := Lib.hid (own_below Ot_25a.out bt_263)
                          replace Ot_146a := Lib.hid (own_below Ot_146a.out bt_263)
                          replace Ot_205a := Lib.hid (own_below Ot_205a.out bt_263)
                          clear bt_263
                          obtain ⟨w_r_264, hw_r_264⟩ : ∃ x, wt_263.alloc (.cells #[.int .i64 t_263_zone, .int .i64 t_263_grams, .int .i64 t_263_from_, .int .i64 t_263_until_, .int .i64 t_263_cents] 38) = x := ⟨_, rfl⟩
                          have bw_r_264 : Below wt_263.heap.size wt_263 w_r_264 := by rw [← hw_r_264]; exact (Below.refl _ _).alloc (Nat.le_refl _) _
                          have Dr_264_t_5a := Lib.hid (apart_fresh Ot_5a.out)
                          have Dr_264_t_16a := Lib.hid (apart_fresh Ot_16a.out)
                          have Dr_264_t_25a := Lib.hid (apart_fresh Ot_25a.out)
                          have Dr_264_t_146a := Lib.hid (apart_fresh Ot_146a.out)
                          have Dr_264_t_205a := Lib.hid (apart_fresh Ot_205a.out)
                          have HBw_r_264 := Lib.hid (Below.step HBwt_263.out bw_r_264)
                          replace Ot_5a := Lib.hid (own_below Ot_5a.out bw_r_264)
                          replace Ot_16a := Lib.hid (own_below Ot_16a.out bw_r_264)
                          replace Ot_25a := Lib.hid (own_below Ot_25a.out bw_r_264)
                          replace Ot_146a := Lib.hid (own_below Ot_146a.out bw_r_264)
                          replace Ot_205a := Lib.hid (own_below Ot_205a.out bw_r_264)
                          clear bw_r_264
                          have kr_264_0 : w_r_264.cell? ⟨wt_263.heap.size, 0, none⟩ = some (.int .i64 t_263_zone) := by rw [← hw_r_264]; exact box_new _ _ _ 0 _ rfl
                          have kr_264_1 : w_r_264.cell? ⟨wt_263.heap.size, 1, none⟩ = some (.int .i64 t_263_grams) := by rw [← hw_r_264]; exact box_new _ _ _ 1 _ rfl
                          have kr_264_2 : w_r_264.cell? ⟨wt_263.heap.size, 2, none⟩ = some (.int .i64 t_263_from_) := by rw [← hw_r_264]; exact box_new _ _ _ 2 _ rfl
                          have kr_264_3 : w_r_264.cell? ⟨wt_263.heap.size, 3, none⟩ = some (.int .i64 t_263_until_) := by rw [← hw_r_264]; exact box_new _ _ _ 3 _ rfl
                          have kr_264_4 : w_r_264.cell? ⟨wt_263.heap.size, 4, none⟩ = some (.int .i64 t_263_cents) := by rw [← hw_r_264]; exact box_new _ _ _ 4 _ rfl
                          replace H := bind2_hid H
                          obtain ⟨t_267a, t_267b, qt_267, H⟩ := H
                          go_wp2_with fail
                          go_at_call 19
                          refine (Go.Proofs.YtlljmgphgmklcaaDoor.GiRateText.C ((Go.Proofs.YtlljmgphgmklcaaDoor.PRate.Rate.mk t_263_zone t_263_grams t_263_from_ t_263_until_ t_263_cents))  _ (tab_below HBw_r_264.out HT)   qt_267).mono ?_
                          rintro e_t_267 wt_267 ⟨rfl, bt_267⟩
                          have HBwt_267 := Lib.hid (Below.step HBw_r_264.out bt_267)
                          replace kr_264_0 := cell_below bt_267 kr_264_0
                          replace kr_264_1 := cell_below bt_267 kr_264_1
                          replace kr_264_2 := cell_below bt_267 kr_264_2
                          replace kr_264_3 := cell_below bt_267 kr_264_3
                          replace kr_264_4 := cell_below bt_267 kr_264_4
                          replace Ot_5a := Lib.hid (own_below Ot_5a.out bt_267)
                          replace Ot_16a := Lib.hid (own_below Ot_16a.out bt_267)
                          replace Ot_25a := Lib.hid (own_below Ot_25a.out bt_267)
                          replace Ot_146a := Lib.hid (own_below Ot_146a.out bt_267)
                          replace Ot_205a := Lib.hid (own_below Ot_205a.out bt_267)
                          clear bt_267
                          replace H := bind2_hid H
                          obtain ⟨t_274a, t_274b, qt_274, H⟩ := H
                          go_wp2_with fail
                          go_at_call 20
                          refine (Go.Proofs.YtlljmgphgmklcaaDoor.GsRateText.C ((Go.Proofs.YtlljmgphgmklcaaDoor.PRate.Rate.mk t_263_zone t_263_grams t_263_from_ t_263_until_ t_263_cents))  _    qt_274).mono ?_
                          rintro e_t_274 wt_274 ⟨rfl, bt_274⟩
                          have HBwt_274 := Lib.hid (Below.step HBwt_267.out bt_274)
                          replace kr_264_0 := cell_below bt_274 kr_264_0
                          replace kr_264_1 := cell_below bt_274 kr_264_1
                          replace kr_264_2 := cell_below bt_274 kr_264_2
                          replace kr_264_3 := cell_below bt_274 kr_264_3
                          replace kr_264_4 := cell_below bt_274 kr_264_4
                          replace Ot_5a := Lib.hid (own_below Ot_5a.out bt_274)
                          replace Ot_16a := Lib.hid (own_below Ot_16a.out bt_274)
                          replace Ot_25a := Lib.hid (own_below Ot_25a.out bt_274)
                          replace Ot_146a := Lib.hid (own_below Ot_146a.out bt_274)
                          replace Ot_205a := Lib.hid (own_below Ot_205a.out bt_274)
                          clear bt_274
                          replace H := let_hid H
                          obtain ⟨t_282, ht_282, H⟩ := H
                          replace H := join_hid H
                          cases t_282 with
                          | false =>
                            replace H := ite_f H
                            replace H := app_hid H
                            replace H := join_hid H
                            replace H := ite_f H
                            replace H := app_hid H
                            obtain rfl := ret_hid H
                            go_wp2_with fail
                            go_ret
                            exact ⟨rfl, HBwt_274.out⟩
                          | true =>
                            replace H := ite_t H
                            replace H := let_hid H
                            obtain ⟨t_286, ht_286, H⟩ := H
                            replace H := app_hid H
                            replace H := join_hid H
                            cases t_286 with
                            | false =>
                              replace H := ite_f H
                              replace H := app_hid H
                              obtain rfl := ret_hid H
                              go_wp2_with fail
                              go_ret
                              exact ⟨rfl, HBwt_274.out⟩
                            | true =>
                              replace H := ite_t H
                              replace H := bind_hid H
                              obtain ⟨t_291, qt_291, H⟩ := H
                              go_wp2_with fail
                              go_at_call 21
                              refine (Go.Proofs.YtlljmgphgmklcaaDoor.GiIsRate.C ((Go.Proofs.YtlljmgphgmklcaaDoor.PRate.Rate.mk t_263_zone t_263_grams t_263_from_ t_263_until_ t_263_cents))  _    qt_291).mono ?_
                              rintro e_t_291 wt_291 ⟨rfl, bt_291⟩
                              have HBwt_291 := Lib.hid (Below.step HBwt_274.out bt_291)
                              replace kr_264_0 := cell_below bt_291 kr_264_0
                              replace kr_264_1 := cell_below bt_291 kr_264_1
                              replace kr_264_2 := cell_below bt_291 kr_264_2
                              replace kr_264_3 := cell_below bt_291 kr_264_3
                              replace kr_264_4 := cell_below bt_291 kr_264_4
                              replace Ot_5a := Lib.hid (own_below Ot_5a.out bt_291)
                              replace Ot_16a := Lib.hid (own_below Ot_16a.out bt_291)
                              replace Ot_25a := Lib.hid (own_below Ot_25a.out bt_291)
                              replace Ot_146a := Lib.hid (own_below Ot_146a.out bt_291)
                              replace Ot_205a := Lib.hid (own_below Ot_205a.out bt_291)
                              clear bt_291
                              replace H := let_hid H
                              obtain ⟨t_292, ht_292, H⟩ := H
                              replace H := app_hid H
                              obtain rfl := ret_hid H
                              go_wp2_with fail
                              go_ret
                              exact ⟨rfl, HBwt_291.out⟩
                        | true =>
                          obtain rfl : t_229b = true := by revert ht_241; cases t_229b <;> simp
                          replace H := ite_t H
                          replace H := bind2_hid H
                          obtain ⟨t_249a, t_249b, qt_249, H⟩ := H
                          go_wp2_with fail
                          go_at_call 11
                          refine (Go.Proofs.YtlljmgphgmklcaaDoor.GiRateFor.C (t_205a) (t_219a) (t_205b) (t_205c) At_205a ct_205a _   (Lib.hid (own_cells Ot_205a.out)) (Lib.hid (own_max Ot_205a.out)) qt_249).mono ?_
                          rintro e_t_249 wt_249 ⟨rfl, bt_249⟩
                          have HBwt_249 := Lib.hid (Below.step HBwt_229.out bt_249)
                          replace Ot_5a := Lib.hid (own_below Ot_5a.out bt_249)
                          replace Ot_16a := Lib.hid (own_below Ot_16a.out bt_249)
                          replace Ot_25a := Lib.hid (own_below Ot_25a.out bt_249)
                          replace Ot_146a := Lib.hid (own_below Ot_146a.out bt_249)
                          replace Ot_205a := Lib.hid (own_below Ot_205a.out bt_249)
                          clear bt_249
                          replace H := join_hid H
                          cases t_249b with
                          | false =>
                            replace H := ite_f H
                            replace H := let_hid H
                            obtain ⟨t_259, ht_259, H⟩ := H
                            replace H := app_hid H
                            cases t_259 with
                            | false =>
                              replace H := ite_f H
                              unfold j1 at H
                              replace H := bind_hid H
                              obtain ⟨t_263, qt_263, H⟩ := H
                              obtain ⟨t_263_zone, t_263_grams, t_263_from_, t_263_until_, t_263_cents⟩ := t_263
                              replace H := unRate_hid H
                              go_wp2_with fail
                              go_at_call 18
                              refine (Go.Proofs.YtlljmgphgmklcaaDoor.GsDrawRateText.C tapes (code) A0 c0 _  HE (Lib.hid (Cells.below M0.out HBwt_249.out)) N0 V0 qt_263).mono ?_
                              rintro e_t_263 wt_263 ⟨rfl, bt_263⟩
                              unfold Go.Proofs.YtlljmgphgmklcaaDoor.PRate.Rate.val
                              have HBwt_263 := Lib.hid (Below.step HBwt_249.out bt_263)
                              replace Ot_5a := Lib.hid (own_below Ot_5a.out bt_263)
                              replace Ot_16a := Lib.hid (own_below Ot_16a.out bt_263)
                              replace Ot_25a := Lib.hid (own_below Ot_25a.out bt_263)
                              replace Ot_146a := Lib.hid (own_below Ot_146a.out bt_263)
                              replace Ot_205a := Lib.hid (own_below Ot_205a.out bt_263)
                              clear bt_263
                              obtain ⟨w_r_264, hw_r_264⟩ : ∃ x, wt_263.alloc (.cells #[.int .i64 t_263_zone, .int .i64 t_263_grams, .int .i64 t_263_from_, .int .i64 t_263_until_, .int .i64 t_263_cents] 38) = x := ⟨_, rfl⟩
                              have bw_r_264 : Below wt_263.heap.size wt_263 w_r_264 := by rw [← hw_r_264]; exact (Below.refl _ _).alloc (Nat.le_refl _) _
                              have Dr_264_t_5a := Lib.hid (apart_fresh Ot_5a.out)
                              have Dr_264_t_16a := Lib.hid (apart_fresh Ot_16a.out)
                              have Dr_264_t_25a := Lib.hid (apart_fresh Ot_25a.out)
                              have Dr_264_t_146a := Lib.hid (apart_fresh Ot_146a.out)
                              have Dr_264_t_205a := Lib.hid (apart_fresh Ot_205a.out)
                              have HBw_r_264 := Lib.hid (Below.step HBwt_263.out bw_r_264)
                              replace Ot_5a := Lib.hid (own_below Ot_5a.out bw_r_264)
                              replace Ot_16a := Lib.hid (own_below Ot_16a.out bw_r_264)
                              replace Ot_25a := Lib.hid (own_below Ot_25a.out bw_r_264)
                              replace Ot_146a := Lib.hid (own_below Ot_146a.out bw_r_264)
                              replace Ot_205a := Lib.hid (own_below Ot_205a.out bw_r_264)
                              clear bw_r_264
                              have kr_264_0 : w_r_264.cell? ⟨wt_263.heap.size, 0, none⟩ = some (.int .i64 t_263_zone) := by rw [← hw_r_264]; exact box_new _ _ _ 0 _ rfl
                              have kr_264_1 : w_r_264.cell? ⟨wt_263.heap.size, 1, none⟩ = some (.int .i64 t_263_grams) := by rw [← hw_r_264]; exact box_new _ _ _ 1 _ rfl
                              have kr_264_2 : w_r_264.cell? ⟨wt_263.heap.size, 2, none⟩ = some (.int .i64 t_263_from_) := by rw [← hw_r_264]; exact box_new _ _ _ 2 _ rfl
                              have kr_264_3 : w_r_264.cell? ⟨wt_263.heap.size, 3, none⟩ = some (.int .i64 t_263_until_) := by rw [← hw_r_264]; exact box_new _ _ _ 3 _ rfl
                              have kr_264_4 : w_r_264.cell? ⟨wt_263.heap.size, 4, none⟩ = some (.int .i64 t_263_cents) := by rw [← hw_r_264]; exact box_new _ _ _ 4 _ rfl
                              replace H := bind2_hid H
                              obtain ⟨t_267a, t_267b, qt_267, H⟩ := H
                              go_wp2_with fail
                              go_at_call 19
                              refine (Go.Proofs.YtlljmgphgmklcaaDoor.GiRateText.C ((Go.Proofs.YtlljmgphgmklcaaDoor.PRate.Rate.mk t_263_zone t_263_grams t_263_from_ t_263_until_ t_263_cents))  _ (tab_below HBw_r_264.out HT)   qt_267).mono ?_
                              rintro e_t_267 wt_267 ⟨rfl, bt_267⟩
                              have HBwt_267 := Lib.hid (Below.step HBw_r_264.out bt_267)
                              replace kr_264_0 := cell_below bt_267 kr_264_0
                              replace kr_264_1 := cell_below bt_267 kr_264_1
                              replace kr_264_2 := cell_below bt_267 kr_264_2
                              replace kr_264_3 := cell_below bt_267 kr_264_3
                              replace kr_264_4 := cell_below bt_267 kr_264_4
                              replace Ot_5a := Lib.hid (own_below Ot_5a.out bt_267)
                              replace Ot_16a := Lib.hid (own_below Ot_16a.out bt_267)
                              replace Ot_25a := Lib.hid (own_below Ot_25a.out bt_267)
                              replace Ot_146a := Lib.hid (own_below Ot_146a.out bt_267)
                              replace Ot_205a := Lib.hid (own_below Ot_205a.out bt_267)
                              clear bt_267
                              replace H := bind2_hid H
                              obtain ⟨t_274a, t_274b, qt_274, H⟩ := H
                              go_wp2_with fail
                              go_at_call 20
                              refine (Go.Proofs.YtlljmgphgmklcaaDoor.GsRateText.C ((Go.Proofs.YtlljmgphgmklcaaDoor.PRate.Rate.mk t_263_zone t_263_grams t_263_from_ t_263_until_ t_263_cents))  _    qt_274).mono ?_
                              rintro e_t_274 wt_274 ⟨rfl, bt_274⟩
                              have HBwt_274 := Lib.hid (Below.step HBwt_267.out bt_274)
                              replace kr_264_0 := cell_below bt_274 kr_264_0
                              replace kr_264_1 := cell_below bt_274 kr_264_1
                              replace kr_264_2 := cell_below bt_274 kr_264_2
                              replace kr_264_3 := cell_below bt_274 kr_264_3
                              replace kr_264_4 := cell_below bt_274 kr_264_4
                              replace Ot_5a := Lib.hid (own_below Ot_5a.out bt_274)
                              replace Ot_16a := Lib.hid (own_below Ot_16a.out bt_274)
                              replace Ot_25a := Lib.hid (own_below Ot_25a.out bt_274)
                              replace Ot_146a := Lib.hid (own_below Ot_146a.out bt_274)
                              replace Ot_205a := Lib.hid (own_below Ot_205a.out bt_274)
                              clear bt_274
                              replace H := let_hid H
                              obtain ⟨t_282, ht_282, H⟩ := H
                              replace H := join_hid H
                              cases t_282 with
                              | false =>
                                replace H := ite_f H
                                replace H := app_hid H
                                replace H := join_hid H
                                replace H := ite_f H
                                replace H := app_hid H
                                obtain rfl := ret_hid H
                                go_wp2_with fail
                                go_ret
                                exact ⟨rfl, HBwt_274.out⟩
                              | true =>
                                replace H := ite_t H
                                replace H := let_hid H
                                obtain ⟨t_286, ht_286, H⟩ := H
                                replace H := app_hid H
                                replace H := join_hid H
                                cases t_286 with
                                | false =>
                                  replace H := ite_f H
                                  replace H := app_hid H
                                  obtain rfl := ret_hid H
                                  go_wp2_with fail
                                  go_ret
                                  exact ⟨rfl, HBwt_274.out⟩
                                | true =>
                                  replace H := ite_t H
                                  replace H := bind_hid H
                                  obtain ⟨t_291, qt_291, H⟩ := H
                                  go_wp2_with fail
                                  go_at_call 21
                                  refine (Go.Proofs.YtlljmgphgmklcaaDoor.GiIsRate.C ((Go.Proofs.YtlljmgphgmklcaaDoor.PRate.Rate.mk t_263_zone t_263_grams t_263_from_ t_263_until_ t_263_cents))  _    qt_291).mono ?_
                                  rintro e_t_291 wt_291 ⟨rfl, bt_291⟩
                                  have HBwt_291 := Lib.hid (Below.step HBwt_274.out bt_291)
                                  replace kr_264_0 := cell_below bt_291 kr_264_0
                                  replace kr_264_1 := cell_below bt_291 kr_264_1
                                  replace kr_264_2 := cell_below bt_291 kr_264_2
                                  replace kr_264_3 := cell_below bt_291 kr_264_3
                                  replace kr_264_4 := cell_below bt_291 kr_264_4
                                  replace Ot_5a := Lib.hid (own_below Ot_5a.out bt_291)
                                  replace Ot_16a := Lib.hid (own_below Ot_16a.out bt_291)
                                  replace Ot_25a := Lib.hid (own_below Ot_25a.out bt_291)
                                  replace Ot_146a := Lib.hid (own_below Ot_146a.out bt_291)
                                  replace Ot_205a := Lib.hid (own_below Ot_205a.out bt_291)
                                  clear bt_291
                                  replace H := let_hid H
                                  obtain ⟨t_292, ht_292, H⟩ := H
                                  replace H := app_hid H
                                  obtain rfl := ret_hid H
                                  go_wp2_with fail
                                  go_ret
                                  exact ⟨rfl, HBwt_291.out⟩
                            | true =>
                              replace H := ite_t H
                              obtain rfl := ret_hid H
                              go_wp2_with fail
                              go_ret
                              exact ⟨rfl, HBwt_249.out⟩
                          | true =>
                            replace H := ite_t H
                            replace H := app_hid H
                            replace H := ite_t H
                            obtain rfl := ret_hid H
                            go_wp2_with fail
                            go_ret
                            exact ⟨rfl, HBwt_249.out⟩
                      | true =>
                        replace H := ite_t H
                        obtain rfl := ret_hid H
                        go_wp2_with fail
                        go_ret
                        exact ⟨rfl, HBwt_229.out⟩
                    | true =>
                      replace H := ite_t H
                      replace H := app_hid H
                      replace H := ite_t H
                      obtain rfl := ret_hid H
                      go_wp2_with fail
                      go_ret
                      exact ⟨rfl, HBwt_229.out⟩
                  | true =>
                    obtain rfl : t_170b = true := by revert ht_182; cases t_170b <;> simp
                    replace H := ite_t H
                    replace H := bind2_hid H
                    obtain ⟨t_190a, t_190b, qt_190, H⟩ := H
                    go_wp2_with fail
                    go_at_call 14
                    refine (Go.Proofs.YtlljmgphgmklcaaDoor.GiHeaviestFor.C (t_146a) (t_146b) (t_146c) (t_160a) At_146a ct_146a _   (Lib.hid (own_cells Ot_146a.out)) (Lib.hid (own_max Ot_146a.out)) qt_190).mono ?_
                    rintro e_t_190 wt_190 ⟨rfl, bt_190⟩
                    have HBwt_190 := Lib.hid (Below.step HBwt_170.out bt_190)
                    replace Ot_5a := Lib.hid (own_below Ot_5a.out bt_190)
                    replace Ot_16a := Lib.hid (own_below Ot_16a.out bt_190)
                    replace Ot_25a := Lib.hid (own_below Ot_25a.out bt_190)
                    replace Ot_146a := Lib.hid (own_below Ot_146a.out bt_190)
                    clear bt_190
                    cases t_190b with
                    | false =>
                      replace H := let_hid H
                      obtain ⟨t_197, ht_197, H⟩ := H
                      obtain rfl : t_197 = true := ht_197.symm
                      replace H := join_hid H
                      replace H := ite_t H
                      replace H := app_hid H
                      replace H := ite_t H
                      obtain rfl := ret_hid H
                      go_wp2_with fail
                      go_ret
                      exact ⟨rfl, HBwt_190.out⟩
                    | true =>
                      replace H := let_hid H
                      obtain ⟨t_197, ht_197, H⟩ := H
                      obtain rfl : t_197 = false := ht_197.symm
                      replace H := join_hid H
                      replace H := ite_f H
                      replace H := let_hid H
                      obtain ⟨t_201, ht_201, H⟩ := H
                      replace H := app_hid H
                      cases t_201 with
                      | false =>
                        replace H := ite_f H
                        unfold j0 at H
                        replace H := bind4_hid H
                        obtain ⟨t_205a, t_205b, t_205c, t_205d, qt_205, H⟩ := H
                        go_wp2_with fail
                        go_at_call 15
                        refine (Go.Proofs.YtlljmgphgmklcaaDoor.GsDrawFirstWithout.C fuel tapes (code) A0 c0 _  HE (Lib.hid (Cells.below M0.out HBwt_190.out)) N0 V0 qt_205).mono ?_
                        rintro e_t_205 wt_205 ⟨At_205a, ct_205a, rfl, ot_205a, bt_205⟩
                        have Dt_205a_t_5a := Lib.hid (apart_call ot_205a Ot_5a.out)
                        have Dt_205a_t_16a := Lib.hid (apart_call ot_205a Ot_16a.out)
                        have Dt_205a_t_25a := Lib.hid (apart_call ot_205a Ot_25a.out)
                        have Dt_205a_t_146a := Lib.hid (apart_call ot_205a Ot_146a.out)
                        have Ot_205a := Lib.hid (own_lower ot_205a HBwt_190.out.size)
                        clear ot_205a
                        have HBwt_205 := Lib.hid (Below.step HBwt_190.out bt_205)
                        replace Ot_5a := Lib.hid (own_below Ot_5a.out bt_205)
                        replace Ot_16a := Lib.hid (own_below Ot_16a.out bt_205)
                        replace Ot_25a := Lib.hid (own_below Ot_25a.out bt_205)
                        replace Ot_146a := Lib.hid (own_below Ot_146a.out bt_205)
                        clear bt_205
                        replace H := bind2_hid H
                        obtain ⟨t_219a, t_219b, qt_219, H⟩ := H
                        go_wp2_with fail
                        go_at_call 16
                        refine (Go.Proofs.YtlljmgphgmklcaaDoor.GiFirstWithout.C (t_205a) (t_205b) (t_205c) (t_205d) At_205a ct_205a _   (Lib.hid (own_cells Ot_205a.out)) (Lib.hid (own_max Ot_205a.out)) qt_219).mono ?_
                        rintro e_t_219 wt_219 ⟨rfl, bt_219⟩
                        have HBwt_219 := Lib.hid (Below.step HBwt_205.out bt_219)
                        replace Ot_5a := Lib.hid (own_below Ot_5a.out bt_219)
                        replace Ot_16a := Lib.hid (own_below Ot_16a.out bt_219)
                        replace Ot_25a := Lib.hid (own_below Ot_25a.out bt_219)
                        replace Ot_146a := Lib.hid (own_below Ot_146a.out bt_219)
                        replace Ot_205a := Lib.hid (own_below Ot_205a.out bt_219)
                        clear bt_219
                        replace H := bind2_hid H
                        obtain ⟨t_229a, t_229b, qt_229, H⟩ := H
                        go_wp2_with fail
                        go_at_call 17
                        refine (Go.Proofs.YtlljmgphgmklcaaDoor.GsFirstWithout.C fuel (t_205a) (t_205b) (t_205c) (t_205d) At_205a ct_205a _   (Lib.hid (own_cells Ot_205a.out)) (Lib.hid (own_max Ot_205a.out)) qt_229).mono ?_
                        rintro e_t_229 wt_229 ⟨rfl, bt_229⟩
                        have HBwt_229 := Lib.hid (Below.step HBwt_219.out bt_229)
                        replace Ot_5a := Lib.hid (own_below Ot_5a.out bt_229)
                        replace Ot_16a := Lib.hid (own_below Ot_16a.out bt_229)
                        replace Ot_25a := Lib.hid (own_below Ot_25a.out bt_229)
                        replace Ot_146a := Lib.hid (own_below Ot_146a.out bt_229)
                        replace Ot_205a := Lib.hid (own_below Ot_205a.out bt_229)
                        clear bt_229
                        replace H := let_hid H
                        obtain ⟨t_237, ht_237, H⟩ := H
                        replace H := join_hid H
                        cases t_237 with
                        | false =>
                          replace H := ite_f H
                          replace H := let_hid H
                          obtain ⟨t_241, ht_241, H⟩ := H
                          replace H := app_hid H
                          cases t_241 with
                          | false =>
                            replace H := ite_f H
                            cases t_219b with
                            | false =>
                              obtain rfl : t_229b = false := by revert ht_241; cases t_229b <;> simp
                              replace H := ite_f H
                              unfold j1 at H
                              replace H := bind_hid H
                              obtain ⟨t_263, qt_263, H⟩ := H
                              obtain ⟨t_263_zone, t_263_grams, t_263_from_, t_263_until_, t_263_cents⟩ := t_263
                              replace H := unRate_hid H
                              go_wp2_with fail
                              go_at_call 18
                              refine (Go.Proofs.YtlljmgphgmklcaaDoor.GsDrawRateText.C tapes (code) A0 c0 _  HE (Lib.hid (Cells.below M0.out HBwt_229.out)) N0 V0 qt_263).mono ?_
                              rintro e_t_263 wt_263 ⟨rfl, bt_263⟩
                              unfold Go.Proofs.YtlljmgphgmklcaaDoor.PRate.Rate.val
                              have HBwt_263 := Lib.hid (Below.step HBwt_229.out bt_263)
                              replace Ot_5a := Lib.hid (own_below Ot_5a.out bt_263)
                              replace Ot_16a := Lib.hid (own_below Ot_16a.out bt_263)
                              replace Ot_25a := Lib.hid (own_below Ot_25a.out bt_263)
                              replace Ot_146a := Lib.hid (own_below Ot_146a.out bt_263)
                              replace Ot_205a := Lib.hid (own_below Ot_205a.out bt_263)
                              clear bt_263
                              obtain ⟨w_r_264, hw_r_264⟩ : ∃ x, wt_263.alloc (.cells #[.int .i64 t_263_zone, .int .i64 t_263_grams, .int .i64 t_263_from_, .int .i64 t_263_until_, .int .i64 t_263_cents] 38) = x := ⟨_, rfl⟩
                              have bw_r_264 : Below wt_263.heap.size wt_263 w_r_264 := by rw [← hw_r_264]; exact (Below.refl _ _).alloc (Nat.le_refl _) _
                              have Dr_264_t_5a := Lib.hid (apart_fresh Ot_5a.out)
                              have Dr_264_t_16a := Lib.hid (apart_fresh Ot_16a.out)
                              have Dr_264_t_25a := Lib.hid (apart_fresh Ot_25a.out)
                              have Dr_264_t_146a := Lib.hid (apart_fresh Ot_146a.out)
                              have Dr_264_t_205a := Lib.hid (apart_fresh Ot_205a.out)
                              have HBw_r_264 := Lib.hid (Below.step HBwt_263.out bw_r_264)
                              replace Ot_5a := Lib.hid (own_below Ot_5a.out bw_r_264)
                              replace Ot_16a := Lib.hid (own_below Ot_16a.out bw_r_264)
                              replace Ot_25a := Lib.hid (own_below Ot_25a.out bw_r_264)
                              replace Ot_146a := Lib.hid (own_below Ot_146a.out bw_r_264)
                              replace Ot_205a := Lib.hid (own_below Ot_205a.out bw_r_264)
                              clear bw_r_264
                              have kr_264_0 : w_r_264.cell? ⟨wt_263.heap.size, 0, none⟩ = some (.int .i64 t_263_zone) := by rw [← hw_r_264]; exact box_new _ _ _ 0 _ rfl
                              have kr_264_1 : w_r_264.cell? ⟨wt_263.heap.size, 1, none⟩ = some (.int .i64 t_263_grams) := by rw [← hw_r_264]; exact box_new _ _ _ 1 _ rfl
                              have kr_264_2 : w_r_264.cell? ⟨wt_263.heap.size, 2, none⟩ = some (.int .i64 t_263_from_) := by rw [← hw_r_264]; exact box_new _ _ _ 2 _ rfl
                              have kr_264_3 : w_r_264.cell? ⟨wt_263.heap.size, 3, none⟩ = some (.int .i64 t_263_until_) := by rw [← hw_r_264]; exact box_new _ _ _ 3 _ rfl
                              have kr_264_4 : w_r_264.cell? ⟨wt_263.heap.size, 4, none⟩ = some (.int .i64 t_263_cents) := by rw [← hw_r_264]; exact box_new _ _ _ 4 _ rfl
                              replace H := bind2_hid H
                              obtain ⟨t_267a, t_267b, qt_267, H⟩ := H
                              go_wp2_with fail
                              go_at_call 19
                              refine (Go.Proofs.YtlljmgphgmklcaaDoor.GiRateText.C ((Go.Proofs.YtlljmgphgmklcaaDoor.PRate.Rate.mk t_263_zone t_263_grams t_263_from_ t_263_until_ t_263_cents))  _ (tab_below HBw_r_264.out HT)   qt_267).mono ?_
                              rintro e_t_267 wt_267 ⟨rfl, bt_267⟩
                              have HBwt_267 := Lib.hid (Below.step HBw_r_264.out bt_267)
                              replace kr_264_0 := cell_below bt_267 kr_264_0
                              replace kr_264_1 := cell_below bt_267 kr_264_1
                              replace kr_264_2 := cell_below bt_267 kr_264_2
                              replace kr_264_3 := cell_below bt_267 kr_264_3
                              replace kr_264_4 := cell_below bt_267 kr_264_4
                              replace Ot_5a := Lib.hid (own_below Ot_5a.out bt_267)
                              replace Ot_16a := Lib.hid (own_below Ot_16a.out bt_267)
                              replace Ot_25a := Lib.hid (own_below Ot_25a.out bt_267)
                              replace Ot_146a := Lib.hid (own_below Ot_146a.out bt_267)
                              replace Ot_205a := Lib.hid (own_below Ot_205a.out bt_267)
                              clear bt_267
                              replace H := bind2_hid H
                              obtain ⟨t_274a, t_274b, qt_274, H⟩ := H
                              go_wp2_with fail
                              go_at_call 20
                              refine (Go.Proofs.YtlljmgphgmklcaaDoor.GsRateText.C ((Go.Proofs.YtlljmgphgmklcaaDoor.PRate.Rate.mk t_263_zone t_263_grams t_263_from_ t_263_until_ t_263_cents))  _    qt_274).mono ?_
                              rintro e_t_274 wt_274 ⟨rfl, bt_274⟩
                              have HBwt_274 := Lib.hid (Below.step HBwt_267.out bt_274)
                              replace kr_264_0 := cell_below bt_274 kr_264_0
                              replace kr_264_1 := cell_below bt_274 kr_264_1
                              replace kr_264_2 := cell_below bt_274 kr_264_2
                              replace kr_264_3 := cell_below bt_274 kr_264_3
                              replace kr_264_4 := cell_below bt_274 kr_264_4
                              replace Ot_5a := Lib.hid (own_below Ot_5a.out bt_274)
                              replace Ot_16a := Lib.hid (own_below Ot_16a.out bt_274)
                              replace Ot_25a := Lib.hid (own_below Ot_25a.out bt_274)
                              replace Ot_146a := Lib.hid (own_below Ot_146a.out bt_274)
                              replace Ot_205a := Lib.hid (own_below Ot_205a.out bt_274)
                              clear bt_274
                              replace H := let_hid H
                              obtain ⟨t_282, ht_282, H⟩ := H
                              replace H := join_hid H
                              cases t_282 with
                              | false =>
                                replace H := ite_f H
                                replace H := app_hid H
                                replace H := join_hid H
                                replace H := ite_f H
                                replace H := app_hid H
                                obtain rfl := ret_hid H
                                go_wp2_with fail
                                go_ret
                                exact ⟨rfl, HBwt_274.out⟩
                              | true =>
                                replace H := ite_t H
                                replace H := let_hid H
                                obtain ⟨t_286, ht_286, H⟩ := H
                                replace H := app_hid H
                                replace H := join_hid H
                                cases t_286 with
                                | false =>
                                  replace H := ite_f H
                                  replace H := app_hid H
                                  obtain rfl := ret_hid H
                                  go_wp2_with fail
                                  go_ret
                                  exact ⟨rfl, HBwt_274.out⟩
                                | true =>
                                  replace H := ite_t H
                                  replace H := bind_hid H
                                  obtain ⟨t_291, qt_291, H⟩ := H
                                  go_wp2_with fail
                                  go_at_call 21
                                  refine (Go.Proofs.YtlljmgphgmklcaaDoor.GiIsRate.C ((Go.Proofs.YtlljmgphgmklcaaDoor.PRate.Rate.mk t_263_zone t_263_grams t_263_from_ t_263_until_ t_263_cents))  _    qt_291).mono ?_
                                  rintro e_t_291 wt_291 ⟨rfl, bt_291⟩
                                  have HBwt_291 := Lib.hid (Below.step HBwt_274.out bt_291)
                                  replace kr_264_0 := cell_below bt_291 kr_264_0
                                  replace kr_264_1 := cell_below bt_291 kr_264_1
                                  replace kr_264_2 := cell_below bt_291 kr_264_2
                                  replace kr_264_3 := cell_below bt_291 kr_264_3
                                  replace kr_264_4 := cell_below bt_291 kr_264_4
                                  replace Ot_5a := Lib.hid (own_below Ot_5a.out bt_291)
                                  replace Ot_16a := Lib.hid (own_below Ot_16a.out bt_291)
                                  replace Ot_25a := Lib.hid (own_below Ot_25a.out bt_291)
                                  replace Ot_146a := Lib.hid (own_below Ot_146a.out bt_291)
                                  replace Ot_205a := Lib.hid (own_below Ot_205a.out bt_291)
                                  clear bt_291
                                  replace H := let_hid H
                                  obtain ⟨t_292, ht_292, H⟩ := H
                                  replace H := app_hid H
                                  obtain rfl := ret_hid H
                                  go_wp2_with fail
                                  go_ret
                                  exact ⟨rfl, HBwt_291.out⟩
                            | true =>
                              obtain rfl : t_229b = true := by revert ht_241; cases t_229b <;> simp
                              replace H := ite_t H
                              replace H := bind2_hid H
                              obtain ⟨t_249a, t_249b, qt_249, H⟩ := H
                              go_wp2_with fail
                              go_at_call 11
                              refine (Go.Proofs.YtlljmgphgmklcaaDoor.GiRateFor.C (t_205a) (t_219a) (t_205b) (t_205c) At_205a ct_205a _   (Lib.hid (own_cells Ot_205a.out)) (Lib.hid (own_max Ot_205a.out)) qt_249).mono ?_
                              rintro e_t_249 wt_249 ⟨rfl, bt_249⟩
                              have HBwt_249 := Lib.hid (Below.step HBwt_229.out bt_249)
                              replace Ot_5a := Lib.hid (own_below Ot_5a.out bt_249)
                              replace Ot_16a := Lib.hid (own_below Ot_16a.out bt_249)
                              replace Ot_25a := Lib.hid (own_below Ot_25a.out bt_249)
                              replace Ot_146a := Lib.hid (own_below Ot_146a.out bt_249)
                              replace Ot_205a := Lib.hid (own_below Ot_205a.out bt_249)
                              clear bt_249
                              replace H := join_hid H
                              cases t_249b with
                              | false =>
                                replace H := ite_f H
                                replace H := let_hid H
                                obtain ⟨t_259, ht_259, H⟩ := H
                                replace H := app_hid H
                                cases t_259 with
                                | false =>
                                  replace H := ite_f H
                                  unfold j1 at H
                                  replace H := bind_hid H
                                  obtain ⟨t_263, qt_263, H⟩ := H
                                  obtain ⟨t_263_zone, t_263_grams, t_263_from_, t_263_until_, t_263_cents⟩ := t_263
                                  replace H := unRate_hid H
                                  go_wp2_with fail
                                  go_at_call 18
                                  refine (Go.Proofs.YtlljmgphgmklcaaDoor.GsDrawRateText.C tapes (code) A0 c0 _  HE (Lib.hid (Cells.below M0.out HBwt_249.out)) N0 V0 qt_263).mono ?_
                                  rintro e_t_263 wt_263 ⟨rfl, bt_263⟩
                                  unfold Go.Proofs.YtlljmgphgmklcaaDoor.PRate.Rate.val
                                  have HBwt_263 := Lib.hid (Below.step HBwt_249.out bt_263)
                                  replace Ot_5a := Lib.hid (own_below Ot_5a.out bt_263)
                                  replace Ot_16a := Lib.hid (own_below Ot_16a.out bt_263)
                                  replace Ot_25a := Lib.hid (own_below Ot_25a.out bt_263)
                                  replace Ot_146a := Lib.hid (own_below Ot_146a.out bt_263)
                                  replace Ot_205a := Lib.hid (own_below Ot_205a.out bt_263)
                                  clear bt_263
                                  obtain ⟨w_r_264, hw_r_264⟩ : ∃ x, wt_263.alloc (.cells #[.int .i64 t_263_zone, .int .i64 t_263_grams, .int .i64 t_263_from_, .int .i64 t_263_until_, .int .i64 t_263_cents] 38) = x := ⟨_, rfl⟩
                                  have bw_r_264 : Below wt_263.heap.size wt_263 w_r_264 := by rw [← hw_r_264]; exact (Below.refl _ _).alloc (Nat.le_refl _) _
                                  have Dr_264_t_5a := Lib.hid (apart_fresh Ot_5a.out)
                                  have Dr_264_t_16a := Lib.hid (apart_fresh Ot_16a.out)
                                  have Dr_264_t_25a := Lib.hid (apart_fresh Ot_25a.out)
                                  have Dr_264_t_146a := Lib.hid (apart_fresh Ot_146a.out)
                                  have Dr_264_t_205a := Lib.hid (apart_fresh Ot_205a.out)
                                  have HBw_r_264 := Lib.hid (Below.step HBwt_263.out bw_r_264)
                                  replace Ot_5a := Lib.hid (own_below Ot_5a.out bw_r_264)
                                  replace Ot_16a := Lib.hid (own_below Ot_16a.out bw_r_264)
                                  replace Ot_25a := Lib.hid (own_below Ot_25a.out bw_r_264)
                                  replace Ot_146a := Lib.hid (own_below Ot_146a.out bw_r_264)
                                  replace Ot_205a := Lib.hid (own_below Ot_205a.out bw_r_264)
                                  clear bw_r_264
                                  have kr_264_0 : w_r_264.cell? ⟨wt_263.heap.size, 0, none⟩ = some (.int .i64 t_263_zone) := by rw [← hw_r_264]; exact box_new _ _ _ 0 _ rfl
                                  have kr_264_1 : w_r_264.cell? ⟨wt_263.heap.size, 1, none⟩ = some (.int .i64 t_263_grams) := by rw [← hw_r_264]; exact box_new _ _ _ 1 _ rfl
                                  have kr_264_2 : w_r_264.cell? ⟨wt_263.heap.size, 2, none⟩ = some (.int .i64 t_263_from_) := by rw [← hw_r_264]; exact box_new _ _ _ 2 _ rfl
                                  have kr_264_3 : w_r_264.cell? ⟨wt_263.heap.size, 3, none⟩ = some (.int .i64 t_263_until_) := by rw [← hw_r_264]; exact box_new _ _ _ 3 _ rfl
                                  have kr_264_4 : w_r_264.cell? ⟨wt_263.heap.size, 4, none⟩ = some (.int .i64 t_263_cents) := by rw [← hw_r_264]; exact box_new _ _ _ 4 _ rfl
                                  replace H := bind2_hid H
                                  obtain ⟨t_267a, t_267b, qt_267, H⟩ := H
                                  go_wp2_with fail
                                  go_at_call 19
                                  refine (Go.Proofs.YtlljmgphgmklcaaDoor.GiRateText.C ((Go.Proofs.YtlljmgphgmklcaaDoor.PRate.Rate.mk t_263_zone t_263_grams t_263_from_ t_263_until_ t_263_cents))  _ (tab_below HBw_r_264.out HT)   qt_267).mono ?_
                                  rintro e_t_267 wt_267 ⟨rfl, bt_267⟩
                                  have HBwt_267 := Lib.hid (Below.step HBw_r_264.out bt_267)
                                  replace kr_264_0 := cell_below bt_267 kr_264_0
                                  replace kr_264_1 := cell_below bt_267 kr_264_1
                                  replace kr_264_2 := cell_below bt_267 kr_264_2
                                  replace kr_264_3 := cell_below bt_267 kr_264_3
                                  replace kr_264_4 := cell_below bt_267 kr_264_4
                                  replace Ot_5a := Lib.hid (own_below Ot_5a.out bt_267)
                                  replace Ot_16a := Lib.hid (own_below Ot_16a.out bt_267)
                                  replace Ot_25a := Lib.hid (own_below Ot_25a.out bt_267)
                                  replace Ot_146a := Lib.hid (own_below Ot_146a.out bt_267)
                                  replace Ot_205a := Lib.hid (own_below Ot_205a.out bt_267)
                                  clear bt_267
                                  replace H := bind2_hid H
                                  obtain ⟨t_274a, t_274b, qt_274, H⟩ := H
                                  go_wp2_with fail
                                  go_at_call 20
                                  refine (Go.Proofs.YtlljmgphgmklcaaDoor.GsRateText.C ((Go.Proofs.YtlljmgphgmklcaaDoor.PRate.Rate.mk t_263_zone t_263_grams t_263_from_ t_263_until_ t_263_cents))  _    qt_274).mono ?_
                                  rintro e_t_274 wt_274 ⟨rfl, bt_274⟩
                                  have HBwt_274 := Lib.hid (Below.step HBwt_267.out bt_274)
                                  replace kr_264_0 := cell_below bt_274 kr_264_0
                                  replace kr_264_1 := cell_below bt_274 kr_264_1
                                  replace kr_264_2 := cell_below bt_274 kr_264_2
                                  replace kr_264_3 := cell_below bt_274 kr_264_3
                                  replace kr_264_4 := cell_below bt_274 kr_264_4
                                  replace Ot_5a := Lib.hid (own_below Ot_5a.out bt_274)
                                  replace Ot_16a := Lib.hid (own_below Ot_16a.out bt_274)
                                  replace Ot_25a := Lib.hid (own_below Ot_25a.out bt_274)
                                  replace Ot_146a := Lib.hid (own_below Ot_146a.out bt_274)
                                  replace Ot_205a := Lib.hid (own_below Ot_205a.out bt_274)
                                  clear bt_274
                                  replace H := let_hid H
                                  obtain ⟨t_282, ht_282, H⟩ := H
                                  replace H := join_hid H
                                  cases t_282 with
                                  | false =>
                                    replace H := ite_f H
                                    replace H := app_hid H
                                    replace H := join_hid H
                                    replace H := ite_f H
                                    replace H := app_hid H
                                    obtain rfl := ret_hid H
                                    go_wp2_with fail
                                    go_ret
                                    exact ⟨rfl, HBwt_274.out⟩
                                  | true =>
                                    replace H := ite_t H
                                    replace H := let_hid H
                                    obtain ⟨t_286, ht_286, H⟩ := H
                                    replace H := app_hid H
                                    replace H := join_hid H
                                    cases t_286 with
                                    | false =>
                                      replace H := ite_f H
                                      replace H := app_hid H
                                      obtain rfl := ret_hid H
                                      go_wp2_with fail
                                      go_ret
                                      exact ⟨rfl, HBwt_274.out⟩
                                    | true =>
                                      replace H := ite_t H
                                      replace H := bind_hid H
                                      obtain ⟨t_291, qt_291, H⟩ := H
                                      go_wp2_with fail
                                      go_at_call 21
                                      refine (Go.Proofs.YtlljmgphgmklcaaDoor.GiIsRate.C ((Go.Proofs.YtlljmgphgmklcaaDoor.PRate.Rate.mk t_263_zone t_263_grams t_263_from_ t_263_until_ t_263_cents))  _    qt_291).mono ?_
                                      rintro e_t_291 wt_291 ⟨rfl, bt_291⟩
                                      have HBwt_291 := Lib.hid (Below.step HBwt_274.out bt_291)
                                      replace kr_264_0 := cell_below bt_291 kr_264_0
                                      replace kr_264_1 := cell_below bt_291 kr_264_1
                                      replace kr_264_2 := cell_below bt_291 kr_264_2
                                      replace kr_264_3 := cell_below bt_291 kr_264_3
                                      replace kr_264_4 := cell_below bt_291 kr_264_4
                                      replace Ot_5a := Lib.hid (own_below Ot_5a.out bt_291)
                                      replace Ot_16a := Lib.hid (own_below Ot_16a.out bt_291)
                                      replace Ot_25a := Lib.hid (own_below Ot_25a.out bt_291)
                                      replace Ot_146a := Lib.hid (own_below Ot_146a.out bt_291)
                                      replace Ot_205a := Lib.hid (own_below Ot_205a.out bt_291)
                                      clear bt_291
                                      replace H := let_hid H
                                      obtain ⟨t_292, ht_292, H⟩ := H
                                      replace H := app_hid H
                                      obtain rfl := ret_hid H
                                      go_wp2_with fail
                                      go_ret
                                      exact ⟨rfl, HBwt_291.out⟩
                                | true =>
                                  replace H := ite_t H
                                  obtain rfl := ret_hid H
                                  go_wp2_with fail
                                  go_ret
                                  exact ⟨rfl, HBwt_249.out⟩
                              | true =>
                                replace H := ite_t H
                                replace H := app_hid H
                                replace H := ite_t H
                                obtain rfl := ret_hid H
                                go_wp2_with fail
                                go_ret
                                exact ⟨rfl, HBwt_249.out⟩
                          | true =>
                            replace H := ite_t H
                            obtain rfl := ret_hid H
                            go_wp2_with fail
                            go_ret
                            exact ⟨rfl, HBwt_229.out⟩
                        | true =>
                          replace H := ite_t H
                          replace H := app_hid H
                          replace H := ite_t H
                          obtain rfl := ret_hid H
                          go_wp2_with fail
                          go_ret
                          exact ⟨rfl, HBwt_229.out⟩
                      | true =>
                        replace H := ite_t H
                        obtain rfl := ret_hid H
                        go_wp2_with fail
                        go_ret
                        exact ⟨rfl, HBwt_190.out⟩
                | true =>
                  replace H := ite_t H
                  obtain rfl := ret_hid H
                  go_wp2_with fail
                  go_ret
                  exact ⟨rfl, HBwt_170.out⟩
              | true =>
                replace H := ite_t H
                replace H := app_hid H
                replace H := ite_t H
                obtain rfl := ret_hid H
                go_wp2_with fail
                go_ret
                exact ⟨rfl, HBwt_170.out⟩
            | succ m0 =>
              have hlt0 : k0 < t_16a.length := by omega
              have hc0 : decide ((k0 : Int) < ((t_16a.length : Nat) : Int)) = true := by simp; omega
              replace H := cnt_succ H
              unfold l0 at H
              replace H := idx_hid H
              obtain ⟨nt_56, yt_56, et_56, lt_56, gt_56, H⟩ := H
              obtain rfl : k0 = nt_56 := by omega
              clear et_56
              obtain ⟨t_56_x0, t_56_x1, t_56_x2⟩ := yt_56
              replace H := unIntA3_hid H
              obtain ⟨qt_56, Qt_56⟩ := own_some Ot_16a.out (by omega)
              subst Qt_56
              obtain ⟨ab_t_56, ao_t_56, zt_56, At_56, z_t_56, ct_56_0, ct_56_1, ct_56_2⟩ := Go.Proofs.YtlljmgphgmklcaaDoor.OIntA3.at_ (own_cells Ot_16a.out) (k := k0) (by omega)
              obtain rfl := Option.some.inj (gt_56.out.symm.trans z_t_56)
              simp only [Option.some.injEq, Addr.mk.injEq] at At_56
              obtain ⟨rfl, rfl, _⟩ := At_56
              clear z_t_56
              simp only [Nat.zero_add] at ct_56_0 ct_56_1 ct_56_2
              have b0t_56 : (0 : Int) ≤ (k0 : Int) := by omega
              have b1t_56 : (k0 : Int) < ((t_16a.length : Nat) : Int) := by omega
              have b2t_56 : ((k0 : Int)).toNat = k0 := by omega
              replace H := bind2_hid H
              obtain ⟨t_61a, t_61b, qt_61, H⟩ := H
              go_wp2_with fail
              go_at_call 11
              refine (Go.Proofs.YtlljmgphgmklcaaDoor.GiRateFor.C (t_5a) (t_56_x0) (t_5b) (t_5c) At_5a ct_5a _   (Lib.hid (own_cells Ot_5a.out)) (Lib.hid (own_max Ot_5a.out)) qt_61).mono ?_
              rintro e_t_61 wt_61 ⟨rfl, bt_61⟩
              have HBwt_61 := Lib.hid (Below.step HBwr0.out bt_61)
              replace ct_56_0 := cell_below bt_61 ct_56_0
              replace ct_56_1 := cell_below bt_61 ct_56_1
              replace ct_56_2 := cell_below bt_61 ct_56_2
              replace Ot_5a := Lib.hid (own_below Ot_5a.out bt_61)
              replace Ot_16a := Lib.hid (own_below Ot_16a.out bt_61)
              replace Ot_25a := Lib.hid (own_below Ot_25a.out bt_61)
              clear bt_61
              replace H := idx_hid H
              obtain ⟨nt_70, yt_70, et_70, lt_70, gt_70, H⟩ := H
              obtain rfl : k0 = nt_70 := by omega
              clear et_70
              obtain rfl := Option.some.inj (gt_56.out.symm.trans gt_70.out)
              clear gt_70 lt_70
              replace H := unIntA3_hid H
              replace H := bind2_hid H
              obtain ⟨t_75a, t_75b, qt_75, H⟩ := H
              go_wp2_with fail
              go_at_call 11
              refine (Go.Proofs.YtlljmgphgmklcaaDoor.GiRateFor.C (t_5a) (t_56_x1) (t_5b) (t_5c) At_5a ct_5a _   (Lib.hid (own_cells Ot_5a.out)) (Lib.hid (own_max Ot_5a.out)) qt_75).mono ?_
              rintro e_t_75 wt_75 ⟨rfl, bt_75⟩
              have HBwt_75 := Lib.hid (Below.step HBwt_61.out bt_75)
              replace ct_56_0 := cell_below bt_75 ct_56_0
              replace ct_56_1 := cell_below bt_75 ct_56_1
              replace ct_56_2 := cell_below bt_75 ct_56_2
              replace Ot_5a := Lib.hid (own_below Ot_5a.out bt_75)
              replace Ot_16a := Lib.hid (own_below Ot_16a.out bt_75)
              replace Ot_25a := Lib.hid (own_below Ot_25a.out bt_75)
              clear bt_75
              replace H := idx_hid H
              obtain ⟨nt_84, yt_84, et_84, lt_84, gt_84, H⟩ := H
              obtain rfl : k0 = nt_84 := by omega
              clear et_84
              obtain rfl := Option.some.inj (gt_56.out.symm.trans gt_84.out)
              clear gt_84 lt_84
              replace H := unIntA3_hid H
              replace H := let_hid H
              obtain ⟨t_87, ht_87, H⟩ := H
              replace H := bind2_hid H
              obtain ⟨t_90a, t_90b, qt_90, H⟩ := H
              go_wp2_with fail
              go_at_call 11
              refine (Go.Proofs.YtlljmgphgmklcaaDoor.GiRateFor.C (t_5a) (t_87) (t_5b) (t_5c) At_5a ct_5a _   (Lib.hid (own_cells Ot_5a.out)) (Lib.hid (own_max Ot_5a.out)) qt_90).mono ?_
              rintro e_t_90 wt_90 ⟨rfl, bt_90⟩
              have HBwt_90 := Lib.hid (Below.step HBwt_75.out bt_90)
              replace ct_56_0 := cell_below bt_90 ct_56_0
              replace ct_56_1 := cell_below bt_90 ct_56_1
              replace ct_56_2 := cell_below bt_90 ct_56_2
              replace Ot_5a := Lib.hid (own_below Ot_5a.out bt_90)
              replace Ot_16a := Lib.hid (own_below Ot_16a.out bt_90)
              replace Ot_25a := Lib.hid (own_below Ot_25a.out bt_90)
              clear bt_90
              replace H := idx_hid H
              obtain ⟨nt_99, yt_99, et_99, lt_99, gt_99, H⟩ := H
              obtain rfl : k0 = nt_99 := by omega
              clear et_99
              obtain rfl := Option.some.inj (gt_56.out.symm.trans gt_99.out)
              clear gt_99 lt_99
              replace H := unIntA3_hid H
              replace H := let_hid H
              obtain ⟨t_102, ht_102, H⟩ := H
              replace H := bind2_hid H
              obtain ⟨t_105a, t_105b, qt_105, H⟩ := H
              go_wp2_with fail
              go_at_call 11
              refine (Go.Proofs.YtlljmgphgmklcaaDoor.GiRateFor.C (t_5a) (t_102) (t_5b) (t_5c) At_5a ct_5a _   (Lib.hid (own_cells Ot_5a.out)) (Lib.hid (own_max Ot_5a.out)) qt_105).mono ?_
              rintro e_t_105 wt_105 ⟨rfl, bt_105⟩
              have HBwt_105 := Lib.hid (Below.step HBwt_90.out bt_105)
              replace ct_56_0 := cell_below bt_105 ct_56_0
              replace ct_56_1 := cell_below bt_105 ct_56_1
              replace ct_56_2 := cell_below bt_105 ct_56_2
              replace Ot_5a := Lib.hid (own_below Ot_5a.out bt_105)
              replace Ot_16a := Lib.hid (own_below Ot_16a.out bt_105)
              replace Ot_25a := Lib.hid (own_below Ot_25a.out bt_105)
              clear bt_105
              cases t_61b with
              | false =>
                replace H := let_hid H
                obtain ⟨t_112, ht_112, H⟩ := H
                obtain rfl : t_112 = true := ht_112.symm
                replace H := join_hid H
                replace H := ite_t H
                replace H := app_hid H
                replace H := join_hid H
                replace H := ite_t H
                replace H := app_hid H
                replace H := join_hid H
                replace H := ite_t H
                replace H := app_hid H
                replace H := join_hid H
                replace H := ite_t H
                replace H := app_hid H
                replace H := join_hid H
                replace H := ite_t H
                replace H := app_hid H
                replace H := ite_t H
                obtain rfl := ret_hid H
                go_wp2_with fail
                go_ret
                exact ⟨rfl, HBwt_105.out⟩
              | true =>
                replace H := let_hid H
                obtain ⟨t_112, ht_112, H⟩ := H
                obtain rfl : t_112 = false := ht_112.symm
                replace H := join_hid H
                replace H := ite_f H
                cases t_75b with
                | false =>
                  replace H := let_hid H
                  obtain ⟨t_115, ht_115, H⟩ := H
                  obtain rfl : t_115 = true := ht_115.symm
                  replace H := app_hid H
                  replace H := join_hid H
                  replace H := ite_t H
                  replace H := app_hid H
                  replace H := join_hid H
                  replace H := ite_t H
                  replace H := app_hid H
                  replace H := join_hid H
                  replace H := ite_t H
                  replace H := app_hid H
                  replace H := join_hid H
                  replace H := ite_t H
                  replace H := app_hid H
                  replace H := ite_t H
                  obtain rfl := ret_hid H
                  go_wp2_with fail
                  go_ret
                  exact ⟨rfl, HBwt_105.out⟩
                | true =>
                  replace H := let_hid H
                  obtain ⟨t_115, ht_115, H⟩ := H
                  obtain rfl : t_115 = false := ht_115.symm
                  replace H := app_hid H
                  replace H := join_hid H
                  replace H := ite_f H
                  replace H := idx_hid H
                  obtain ⟨nt_121, yt_121, et_121, lt_121, gt_121, H⟩ := H
                  obtain rfl : k0 = nt_121 := by omega
                  clear et_121
                  obtain rfl := Option.some.inj (gt_56.out.symm.trans gt_121.out)
                  clear gt_121 lt_121
                  replace H := unIntA3_hid H
                  replace H := let_hid H
                  obtain ⟨t_124, ht_124, H⟩ := H
                  replace H := app_hid H
                  replace H := join_hid H
                  cases t_124 with
                  | false =>
                    replace H := ite_f H
                    replace H := let_hid H
                    obtain ⟨t_129, ht_129, H⟩ := H
                    replace H := app_hid H
                    replace H := join_hid H
                    cases t_129 with
                    | false =>
                      replace H := ite_f H
                      replace H := let_hid H
                      obtain ⟨t_134, ht_134, H⟩ := H
                      replace H := app_hid H
                      replace H := join_hid H
                      cases t_134 with
                      | false =>
                        replace H := ite_f H
                        replace H := let_hid H
                        obtain ⟨t_139, ht_139, H⟩ := H
                        replace H := app_hid H
                        cases t_139 with
                        | false =>
                          replace H := ite_f H
                          replace H := app_hid H
                          go_wp2_with fail
                          go_roundg m0
                          case measure => omega
                          case rel => exact ⟨k0 + 1, by omega, by go_num, H, HBwt_105, Ot_5a, Ot_16a, Ot_25a⟩
                        | true =>
                          replace H := ite_t H
                          obtain rfl := ret_hid H
                          go_wp2_with fail
                          go_ret
                          exact ⟨rfl, HBwt_105.out⟩
                      | true =>
                        replace H := ite_t H
                        replace H := app_hid H
                        replace H := ite_t H
                        obtain rfl := ret_hid H
                        go_wp2_with fail
                        go_ret
                        exact ⟨rfl, HBwt_105.out⟩
                    | true =>
                      replace H := ite_t H
                      replace H := app_hid H
                      replace H := join_hid H
                      replace H := ite_t H
                      replace H := app_hid H
                      replace H := ite_t H
                      obtain rfl := ret_hid H
                      go_wp2_with fail
                      go_ret
                      exact ⟨rfl, HBwt_105.out⟩
                  | true =>
                    replace H := ite_t H
                    replace H := app_hid H
                    replace H := join_hid H
                    replace H := ite_t H
                    replace H := app_hid H
                    replace H := join_hid H
                    replace H := ite_t H
                    replace H := app_hid H
                    replace H := ite_t H
                    obtain rfl := ret_hid H
                    go_wp2_with fail
                    go_ret
                    exact ⟨rfl, HBwt_105.out⟩
        | true =>
          replace H := ite_t H
          obtain rfl := ret_hid H
          go_wp2_with fail
          go_ret
          exact ⟨rfl, HBwt_44.out⟩
    | true =>
      replace H := ite_t H
      replace H := app_hid H
      replace H := join_hid H
      replace H := ite_t H
      replace H := app_hid H
      replace H := ite_t H
      obtain rfl := ret_hid H
      go_wp2_with fail
      go_ret
      exact ⟨rfl, HBwt_25.out⟩
  | true =>
    replace H := ite_t H
    obtain rfl := ret_hid H
    go_wp2_with fail
    go_ret
    exact ⟨rfl, HBwt_2.out⟩
end Go.Proofs.YtlljmgphgmklcaaDoor.GlFnRates

/- What the rows' lists of the library's tables give: the table of powers of ten holds what Itoa reads. Condition: the row's list is met. -/
namespace Go.Proofs.YtlljmgphgmklcaaDoor.DoorLaid

theorem gPow : Tryd.prog.globalNamed "internal/strconv.uint64pow10" = some 0 := by kernel_rfl
def keepPow (x : String × DataW Unit) : Bool := x.1 == "internal/strconv.uint64pow10"
theorem gPowType : (Tryd.prog.globals[0]?).map (·.type) = some 89 := by kernel_rfl
theorem cellsPow : Tryd.prog.cellsOf 89 = 20 := by kernel_rfl
theorem cellsU64 : Tryd.prog.cellsOf 44 = 1 := by kernel_rfl

/-- Of whatever list holds the table at its own datum: the table is there. -/
theorem pow10 {l : List (String × DataW Unit)} {W : World} (h : laidMetH Tryd.prog l W) (hl : l.filter keepPow = [("internal/strconv.uint64pow10", Lib.tabData .u64 Lib.pow10Tab)]) :
    Lib.TabIs Tryd.prog W "internal/strconv.uint64pow10" .u64 Lib.pow10Tab := by
  have h1 := laidMetH.filter keepPow h
  rw [hl] at h1
  exact Lib.tabIs_of_head (rest := []) gPow gPowType Tryd.underlying89 Tryd.underlying44 cellsU64 cellsPow h1
end Go.Proofs.YtlljmgphgmklcaaDoor.DoorLaid

/- Plain words on stamps: what a stamp is, when one is valid, when a list of them is; the cells of a list of records. No condition. -/
namespace Go.Proofs.YtlljmgphgmklcaaDoor.PlainStamp
set_option linter.unusedVariables false

/-- a number lies in a..b -/
def inB (x a b : Int) : Bool := decide (a ≤ x ∧ x ≤ b)
theorem inB_yes {x a b : Int} (h1 : a ≤ x) (h2 : x ≤ b) : inB x a b = true := by unfold inB; exact decide_eq_true ⟨h1, h2⟩
theorem inB_of {x a b : Int} (h : inB x a b = true) : a ≤ x ∧ x ≤ b := by unfold inB at h; exact of_decide_eq_true h
theorem inB_no {x a b : Int} (h : x < a ∨ b < x) : inB x a b = false := by unfold inB; exact decide_eq_false (by omega)

structure St where
  id : Int
  face : Int
  color : Int
  year : Int
deriving DecidableEq

def St.cells (s : St) : List Value := [.int .i64 s.id, .int .i64 s.face, .int .i64 s.color, .int .i64 s.year]
def St.val (s : St) : Value := .agg #[.int .i64 s.id, .int .i64 s.face, .int .i64 s.color, .int .i64 s.year]
/-- each field fits an int -/
def St.fits (s : St) : Prop := (Lit.int .i64 s.id).wf = true ∧ (Lit.int .i64 s.face).wf = true ∧ (Lit.int .i64 s.color).wf = true ∧ (Lit.int .i64 s.year).wf = true

def okSt (s : St) : Bool := inB s.id 1 999 && inB s.face 0 9999 && inB s.color 0 99 && inB s.year 1840 2100
theorem okSt_yes {s : St} (h : okSt s = true) : (1 ≤ s.id ∧ s.id ≤ 999) ∧ (0 ≤ s.face ∧ s.face ≤ 9999) ∧ (0 ≤ s.color ∧ s.color ≤ 99) ∧ (1840 ≤ s.year ∧ s.year ≤ 2100) := by
  unfold okSt at h
  simp only [Bool.and_eq_true] at h
  exact ⟨inB_of h.1.1.1, inB_of h.1.1.2, inB_of h.1.2, inB_of h.2⟩

/-- the stamp at k is valid, and its id is above the one ahead of it -/
def okAt (l : List St) (k : Nat) : Bool :=
  match l[k]? with
  | none => true
  | some s => okSt s && (decide (k = 0) || (match l[k-1]? with | none => true | some r => decide (r.id < s.id)))
def okUp (l : List St) (k : Nat) : Bool := (List.range k).all (okAt l)
theorem okUp_zero (l : List St) : okUp l 0 = true := by simp [okUp]
theorem okUp_succ (l : List St) (k : Nat) : okUp l (k + 1) = (okUp l k && okAt l k) := by simp [okUp, List.range_succ, List.all_append]
theorem okUp_not {l : List St} {k n : Nat} (h : okAt l k = false) (hk : k < n) : okUp l n = false := by
  unfold okUp
  rw [Bool.eq_false_iff]
  intro hall
  have := List.all_eq_true.1 hall k (List.mem_range.2 hk)
  rw [h] at this; exact absurd this (by simp)
/-- a list of at most twelve valid stamps with rising ids -/
def okSts (l : List St) : Bool := decide (l.length ≤ 12) && okUp l l.length
theorem okAt_of {l : List St} {k : Nat} {s : St} (hs : l[k]? = some s) (h : okAt l k = true) : okSt s = true ∧ ∀ r, 0 < k → l[k-1]? = some r → r.id < s.id := by
  unfold okAt at h
  rw [hs] at h
  simp only [Bool.and_eq_true, Bool.or_eq_true, decide_eq_true_eq] at h
  refine ⟨h.1, fun r hk hr => ?_⟩
  rcases h.2 with h0 | h0
  · omega
  · rw [hr] at h0; simpa using h0
theorem okSts_len {l : List St} (h : okSts l = true) : l.length ≤ 12 := by unfold okSts at h; simp only [Bool.and_eq_true, decide_eq_true_eq] at h; exact h.1
theorem okSts_at {l : List St} (h : okSts l = true) {k : Nat} {s : St} (hs : l[k]? = some s) : okSt s = true ∧ ∀ r, 0 < k → l[k-1]? = some r → r.id < s.id := by
  unfold okSts at h
  simp only [Bool.and_eq_true, decide_eq_true_eq] at h
  exact okAt_of hs (List.all_eq_true.1 h.2 k (List.mem_range.2 (List.getElem?_eq_some_iff.1 hs).1))
theorem okSts_mem {l : List St} (h : okSts l = true) {s : St} (hs : s ∈ l) : okSt s = true := by
  obtain ⟨k, hk⟩ := List.getElem?_of_mem hs
  exact (okSts_at h hk).1

/-- the cells of a list of stamps, one after the other -/
def flat (l : List St) : List Value := l.flatMap St.cells
theorem flat_nil : flat [] = [] := rfl
theorem flat_cons (s : St) (l : List St) : flat (s :: l) = s.cells ++ flat l := by simp [flat]
theorem flat_len (l : List St) : (flat l).length = l.length * 4 := by
  induction l with
  | nil => rfl
  | cons s l ih => rw [flat_cons, List.length_append, ih]; simp [St.cells]; omega
theorem flat_at : ∀ (l : List St) (k : Nat) (s : St), l[k]? = some s → ∀ j, j < 4 → (flat l)[k * 4 + j]? = s.cells[j]?
  | [], k, s, h, _, _ => by simp at h
  | r :: l, 0, s, h, j, hj => by
    obtain rfl : r = s := by simpa using h
    rw [flat_cons, List.getElem?_append_left (by simp [St.cells]; omega)]; simp
  | r :: l, k + 1, s, h, j, hj => by
    rw [flat_cons, List.getElem?_append_right (by simp [St.cells]; omega), show (k + 1) * 4 + j - r.cells.length = k * 4 + j by simp [St.cells]; omega]
    exact flat_at l k s (by simpa using h) j hj
end Go.Proofs.YtlljmgphgmklcaaDoor.PlainStamp

/- Words for reckoning with plain functions; within and l1In. No condition. -/
namespace Go.Proofs.YtlljmgphgmklcaaDoor.QBase
set_option linter.unusedVariables false
set_option linter.unusedSimpArgs false
open Go.RowKit
open Go.Proofs.YtlljmgphgmklcaaDoor.GoP Go.Proofs.YtlljmgphgmklcaaDoor.PlainStamp

theorem iteK_if {ρ : Type} (c : Bool) (a b : Option ρ) : iteK c a b = if c = true then a else b := by cases c <;> rfl
theorem bind2_some {α β ρ : Type} (a : α) (b : β) (f : α → β → Option ρ) : bind2 (some (a, b)) f = f a b := rfl
theorem bind3_some {α β γ ρ : Type} (a : α) (b : β) (c : γ) (f : α → β → γ → Option ρ) : bind3 (some (a, b, c)) f = f a b c := rfl
theorem unp2_mk {α β ρ : Type} (a : α) (b : β) (f : α → β → Option ρ) : unp2 (a, b) f = f a b := rfl
theorem unp3_mk {α β γ ρ : Type} (a : α) (b : β) (c : γ) (f : α → β → γ → Option ρ) : unp3 (a, b, c) f = f a b c := rfl
theorem guardK_pos {ρ : Type} {p : Prop} [Decidable p] {a : Option ρ} (h : p) : guardK p a = a := if_pos h
theorem cut2 {α β : Type} {x : Option (α × β)} {p : α × β} (h : x = some p) : x = some (p.1, p.2) := h
theorem cut3 {α β γ : Type} {x : Option (α × β × γ)} {p : α × β × γ} (h : x = some p) : x = some (p.1, p.2.1, p.2.2) := h
theorem within_eq (n a b : Int) : GiWithin.P n a b = some (inB n a b) := by
  simp only [GiWithin.P, letK, joinK, appK, iteK_if, inB]
  by_cases h1 : a ≤ n <;> by_cases h2 : n ≤ b <;> simp [h1, h2]
theorem l1In_eq (n a b : Int) : GsL1In.P n a b = some (inB n a b) := by
  simp only [GsL1In.P, letK, joinK, appK, iteK_if, inB]
  by_cases h1 : a ≤ n <;> by_cases h2 : n ≤ b <;> simp [h1, h2]
end Go.Proofs.YtlljmgphgmklcaaDoor.QBase

/- Reckoning with the loops of plain functions; lists of valid records with rising ids. No condition. -/
namespace Go.Proofs.YtlljmgphgmklcaaDoor.QLoop
set_option linter.unusedVariables false
open Go.RowKit
open Go.Proofs.YtlljmgphgmklcaaDoor.GoP Go.Proofs.YtlljmgphgmklcaaDoor.QBase

theorem cnt_ex {σ ρ : Type} {f : Nat → σ → (σ → Option ρ) → (σ → Option ρ) → Option ρ} {fin : σ → Option ρ} {Q : ρ → Prop} {n : Nat} (I : Nat → σ → Prop)
    (step : ∀ k s nx, k < n → I k s → (∀ s', I (k + 1) s' → ∃ r, nx s' = some r ∧ Q r) → ∃ r, f k s nx fin = some r ∧ Q r) (done : ∀ s, I n s → ∃ r, fin s = some r ∧ Q r) :
    ∀ m k s, k + m = n → I k s → ∃ r, cntK f m k s fin = some r ∧ Q r := by
  intro m
  induction m with
  | zero => intro k s hk hI; obtain rfl : k = n := by omega
            exact done s hI
  | succ m ih => intro k s hk hI; exact step k s _ (by omega) hI (fun s' h' => ih (k + 1) s' (by omega) h')
theorem cnt_is {σ ρ : Type} {f : Nat → σ → (σ → Option ρ) → (σ → Option ρ) → Option ρ} {fin : σ → Option ρ} {n : Nat} (r : ρ) (I : Nat → σ → Prop)
    (step : ∀ k s nx, k < n → I k s → (∀ s', I (k + 1) s' → nx s' = some r) → f k s nx fin = some r) (done : ∀ s, I n s → fin s = some r) (s : σ) (h0 : I 0 s) : cntK f n 0 s fin = some r := by
  obtain ⟨r', h, rfl⟩ := cnt_ex (Q := fun x => x = r) I (fun k s nx hk hI hn => ⟨r, step k s nx hk hI (fun s' h' => by obtain ⟨_, h, rfl⟩ := hn s' h'; exact h), rfl⟩) (fun s h => ⟨r, done s h, rfl⟩) n 0 s (by omega) h0
  exact h
theorem at_lt {α : Type} {l : List α} {k : Nat} (h : k < l.length) : ∃ x, l[k]? = some x ∧ idx l (k : Int) = some x := ⟨l[k], List.getElem?_eq_getElem h, by rw [idx_nat, List.getElem?_eq_getElem h]⟩
theorem idx_pred {α : Type} {l : List α} {k : Nat} {x : α} (hk : 0 < k) (hb : k ≤ 9223372036854775807) (h : l[k - 1]? = some x) : idx l (IntKind.i64.wrap ((k : Int) - 1)) = some x := by
  rw [IntWalk.i64_in _ (by omega), show ((k : Int) - 1) = ((k - 1 : Nat) : Int) by omega, idx_nat, h]
theorem take_next {α : Type} {l : List α} {k : Nat} {x : α} (h : l[k]? = some x) : l.take (k + 1) = l.take k ++ [x] := by
  obtain ⟨hk, e⟩ := List.getElem?_eq_some_iff.1 h
  rw [List.take_succ_eq_append_getElem hk, e]
theorem all_next {α : Type} {p : α → Bool} {l : List α} {k : Nat} {x : α} (h : l[k]? = some x) : (l.take (k + 1)).all p = ((l.take k).all p && p x) := by
  rw [take_next h]; simp
theorem not_all {α : Type} {p : α → Bool} {l : List α} {k : Nat} {x : α} (h : l[k]? = some x) (hp : p x = false) : l.all p = false := by
  rw [Bool.eq_false_iff]
  intro ha
  have := List.all_eq_true.1 ha x (List.mem_of_getElem? h)
  rw [hp] at this; exact absurd this (by simp)
theorem wrap_in {x : Int} (h1 : -9223372036854775808 ≤ x) (h2 : x ≤ 9223372036854775807) : IntKind.i64.wrap x = x := IntWalk.i64_in _ (by omega)

/-- valid, and above the one ahead of it -/
def upAt {α : Type} (ok : α → Bool) (id : α → Int) (l : List α) (k : Nat) : Bool :=
  match l[k]? with
  | none => true
  | some s => ok s && (decide (k = 0) || (match l[k-1]? with | none => true | some r => decide (id r < id s)))
def upTo {α : Type} (ok : α → Bool) (id : α → Int) (l : List α) (k : Nat) : Bool := (List.range k).all (upAt ok id l)
theorem upTo_zero {α : Type} (ok : α → Bool) (id : α → Int) (l : List α) : upTo ok id l 0 = true := rfl
theorem upTo_succ {α : Type} (ok : α → Bool) (id : α → Int) (l : List α) (k : Nat) : upTo ok id l (k + 1) = (upTo ok id l k && upAt ok id l k) := by simp [upTo, List.range_succ, List.all_append]
theorem upTo_not {α : Type} {ok : α → Bool} {id : α → Int} {l : List α} {k n : Nat} (h : upAt ok id l k = false) (hk : k < n) : upTo ok id l n = false := by
  unfold upTo
  rw [Bool.eq_false_iff]
  intro ha
  have := List.all_eq_true.1 ha k (List.mem_range.2 hk)
  rw [h] at this; exact absurd this (by simp)
/-- a list of at most m valid records with rising ids -/
def upL {α : Type} (m : Nat) (ok : α → Bool) (id : α → Int) (l : List α) : Bool := decide (l.length ≤ m) && upTo ok id l l.length
theorem upAt_bad {α : Type} {ok : α → Bool} {id : α → Int} {l : List α} {k : Nat} {s : α} (hs : l[k]? = some s) (h : ok s = false) : upAt ok id l k = false := by unfold upAt; rw [hs]; simp [h]
theorem upAt_first {α : Type} {ok : α → Bool} {id : α → Int} {l : List α} {s : α} (hs : l[0]? = some s) (h : ok s = true) : upAt ok id l 0 = true := by unfold upAt; rw [hs]; simp [h]
theorem upAt_next {α : Type} {ok : α → Bool} {id : α → Int} {l : List α} {k : Nat} {s r : α} (hs : l[k]? = some s) (hr : l[k-1]? = some r) (hk : 0 < k) (h : ok s = true) : upAt ok id l k = decide (id r < id s) := by
  unfold upAt; rw [hs]; simp only [hr, h, Bool.true_and, decide_eq_false (show ¬ k = 0 by omega), Bool.false_or]
theorem upL_len {α : Type} {m : Nat} {ok : α → Bool} {id : α → Int} {l : List α} (h : upL m ok id l = true) : l.length ≤ m := by unfold upL at h; simp only [Bool.and_eq_true, decide_eq_true_eq] at h; exact h.1
theorem upL_ok {α : Type} {m : Nat} {ok : α → Bool} {id : α → Int} {l : List α} (h : upL m ok id l = true) {k : Nat} {s : α} (hs : l[k]? = some s) : ok s = true := by
  unfold upL at h
  simp only [Bool.and_eq_true, decide_eq_true_eq] at h
  have := List.all_eq_true.1 h.2 k (List.mem_range.2 (List.getElem?_eq_some_iff.1 hs).1)
  unfold upAt at this
  rw [hs] at this
  simp only [Bool.and_eq_true] at this
  exact this.1
theorem upL_mem {α : Type} {m : Nat} {ok : α → Bool} {id : α → Int} {l : List α} (h : upL m ok id l = true) {s : α} (hs : s ∈ l) : ok s = true := by
  obtain ⟨k, hk⟩ := List.getElem?_of_mem hs
  exact upL_ok h hk
/-- a loop that goes through a list of records and stops with 'false' at the first that is bad -/
theorem up_loop {α : Type} {ok : α → Bool} {id : α → Int} {l : List α} {R : Type} {no : R} {f : Nat → Unit → (Unit → Option R) → (Unit → Option R) → Option R} {fin : Unit → Option R}
    (step : ∀ k nx s, l[k]? = some s → (ok s = false → f k () nx fin = some no) ∧ (ok s = true → (k = 0 → f k () nx fin = nx ()) ∧ (0 < k → ∀ r, l[k-1]? = some r → (id r < id s → f k () nx fin = nx ()) ∧ (id s ≤ id r → f k () nx fin = some no)))) :
    cntK f l.length 0 () fin = if upTo ok id l l.length then fin () else some no := by
  have key : ∀ m k, k + m = l.length → upTo ok id l k = true → cntK f m k () fin = if upTo ok id l l.length then fin () else some no := by
    intro m
    induction m with
    | zero => intro k hk hu; obtain rfl : k = l.length := by omega
              rw [hu]; rfl
    | succ m ih =>
      intro k hk hu
      have hlt : k < l.length := by omega
      obtain ⟨s, hs, _⟩ := at_lt hlt
      obtain ⟨h1, h2⟩ := step k (fun s' => cntK f m (k + 1) s' fin) s hs
      show f k () _ fin = _
      cases hok : ok s with
      | false => rw [h1 hok, upTo_not (upAt_bad hs hok) hlt]; rfl
      | true =>
        obtain ⟨h3, h4⟩ := h2 hok
        by_cases hk0 : k = 0
        · rw [h3 hk0]
          subst hk0
          exact ih 1 (by omega) (by rw [upTo_succ, hu, upAt_first hs hok]; rfl)
        · obtain ⟨r, hr, _⟩ := at_lt (l := l) (k := k - 1) (by omega)
          obtain ⟨h5, h6⟩ := h4 (by omega) r hr
          by_cases hlt2 : id r < id s
          · rw [h5 hlt2]
            exact ih (k + 1) (by omega) (by rw [upTo_succ, hu, upAt_next hs hr (by omega) hok]; simpa using hlt2)
          · rw [h6 (by omega), upTo_not (by rw [upAt_next hs hr (by omega) hok]; simpa using hlt2) hlt]; rfl
  exact key l.length 0 (by omega) (upTo_zero ok id l)
end Go.Proofs.YtlljmgphgmklcaaDoor.QLoop

/- Draws on tapes: each gives something within its bounds. (QDraw) No condition but those of each theorem. -/
namespace Go.Proofs.YtlljmgphgmklcaaDoor.QDraw
set_option linter.unusedVariables false
set_option linter.unusedSimpArgs false
open Go.RowKit
open Go.Proofs.YtlljmgphgmklcaaDoor.GoP Go.Proofs.YtlljmgphgmklcaaDoor.PlainStamp Go.Proofs.YtlljmgphgmklcaaDoor.QBase Go.Proofs.YtlljmgphgmklcaaDoor.QLoop

/-- a tape that may be asked m times more -/
def good (t : GoC.Tape) (m : Nat) : Prop := m ≤ t.left ∧ ∀ i, 0 ≤ t.vals i ∧ t.vals i ≤ 255
theorem good_less {t : GoC.Tape} {m n : Nat} (h : good t m) (hn : n ≤ m) : good t n := ⟨Nat.le_trans hn h.1, h.2⟩
theorem good_of {tapes : List Int → GoC.Tape} (h : GoC.Tells tapes) (code : List Int) {m : Nat} (hm : m ≤ 4611686018427387904) : good (tapes code) m := ⟨by rw [h.1]; exact hm, h.2.1 code⟩
theorem next_ok {t : GoC.Tape} {m : Nat} (h : good t (m + 1)) : ∃ b t', GsL1CurNext.P t = some (b, t') ∧ (0 ≤ b ∧ b ≤ 255) ∧ good t' m := by
  unfold GsL1CurNext.P
  rw [if_pos (by have := h.1; omega)]
  exact ⟨_, _, rfl, h.2 0, by have := h.1; show m ≤ t.left - 1; omega, fun i => h.2 (i + 1)⟩
theorem pick_ok {t : GoC.Tape} {m : Nat} {n : Int} (h : good t (m + 2)) : ∃ x t', GsL1CurPick.P t n = some (x, t') ∧ 0 ≤ x ∧ (x < n ∨ n ≤ 1 ∧ x = 0) ∧ x ≤ 65535 ∧ good t' m := by
  simp only [GsL1CurPick.P, letK, iteK_if]
  by_cases hn : n ≤ 1
  · rw [if_pos (by simpa using hn)]
    exact ⟨0, t, rfl, by omega, by omega, by omega, good_less h (by omega)⟩
  · rw [if_neg (by simpa using hn)]
    obtain ⟨b, t1, e1, hb, h1⟩ := next_ok (m := m + 1) h
    rw [e1]
    simp only [bind2_some]
    by_cases h2 : 200 < n
    · rw [if_pos (by simpa using h2)]
      obtain ⟨b2, t2, e2, hb2, h3⟩ := next_ok (m := m) h1
      rw [e2]
      simp only [bind2_some, GsL1CurPick.j0, unp2, letK]
      rw [guardK_pos (by omega), wrap_in (x := b * 256) (by omega) (by omega), wrap_in (by omega) (by omega), Int.tmod_eq_emod_of_nonneg (by omega)]
      have k1 := Int.emod_nonneg (b * 256 + b2) (show n ≠ 0 by omega)
      have k2 := Int.emod_lt_of_pos (b * 256 + b2) (show 0 < n by omega)
      have k3 : (b * 256 + b2) % n ≤ 65535 := by
        by_cases hq : n ≤ 65536
        · omega
        · rw [Int.emod_eq_of_lt (by omega) (by omega)]; omega
      exact ⟨_, _, rfl, k1, .inl k2, by omega, h3⟩
    · rw [if_neg (by simpa using h2)]
      simp only [GsL1CurPick.j0, unp2, letK]
      rw [guardK_pos (by omega), Int.tmod_eq_emod_of_nonneg (by omega)]
      have k1 := Int.emod_nonneg b (show n ≠ 0 by omega)
      have k2 := Int.emod_lt_of_pos b (show 0 < n by omega)
      exact ⟨_, _, rfl, k1, .inl k2, by omega, good_less h1 (by omega)⟩
theorem among_ok {t : GoC.Tape} {m : Nat} {l : List Int} (h : good t (m + 2)) (h0 : 0 < l.length) : ∃ x t', GsL1CurAmong.P t l = some (x, t') ∧ x ∈ l ∧ good t' m := by
  obtain ⟨x, t', e, hx0, hx, _, hg⟩ := pick_ok (n := (l.length : Int)) h
  simp only [GsL1CurAmong.P, e, bind2_some]
  obtain ⟨y, hy, hyi⟩ := at_lt (l := l) (k := x.toNat) (by omega)
  rw [show ((x.toNat : Nat) : Int) = x by omega] at hyi
  exact ⟨y, t', by rw [hyi]; rfl, List.mem_of_getElem? hy, hg⟩
theorem one_ok {t : GoC.Tape} {m : Nat} {n : Int} (h : good t (m + 2)) : ∃ b t', GsL1CurOne.P t n = some (b, t') ∧ good t' m := by
  obtain ⟨x, t', e, _, _, _, hg⟩ := pick_ok (n := n) h
  exact ⟨x == 0, t', by simp only [GsL1CurOne.P, e, bind2_some, letK], hg⟩
end Go.Proofs.YtlljmgphgmklcaaDoor.QDraw

