/- Texts on which the proofs of several laws stand, one behind the other (7 of 9). No condition of their own. -/
import Derived.Test.YtaepibmmpdfjcaaChecked
import Derived.Test.YtaepibmmpdfjcaaXBP1
import Derived.Test.YtaepibmmpdfjcaaXBP3
import Derived.Test.YtaepibmmpdfjcaaXBP4
import Derived.Test.YtaepibmmpdfjcaaXBP5
import Derived.Test.YtaepibmmpdfjcaaXBP2
import Derived.Test.YtaepibmmpdfjcaaXBP6
import Derived.WalkKit
import Derived.WalkSpells
import Derived.WalkLawsBesides
import Derived.BigQuiet
import Derived.OwnWalk
import Derived.Deep.LoopGhost
import Derived.Deep.QuietTactic
import Derived.IntWalk
import Derived.Lib.QuietBelow
import Derived.Deep.DeepCutAuto
/- loop.example/g01062/laws.FnBlocks as a plain function, and the contract of the program's: where the plain one has an answer, the program has it. Conditions: slices read as lists. -/
namespace Go.Proofs.Ytaepibmmpdfjcaa.GlFnBlocks
set_option linter.unusedVariables false
set_option linter.unusedSimpArgs false
open Go.RowKit
open Go.Proofs.Ytaepibmmpdfjcaa.Rowed Go.Proofs.Ytaepibmmpdfjcaa.Turn Go.Proofs.Ytaepibmmpdfjcaa.Aid Go.Proofs.Ytaepibmmpdfjcaa.GoP Go.Proofs.Ytaepibmmpdfjcaa.GoM

def q1 (nx0 : (Unit) → Option (Bool)) (s : Bool) : Option (Bool) :=
  letK s fun t_128q1 =>
  iteK t_128q1
  (some false)
  (appK nx0 ())

def l0 (t_5a : (List ByteArray)) (t_5b_rows : (List ByteArray)) (t_14a : (List Go.Proofs.Ytaepibmmpdfjcaa.PIntA2.IntA2)) (k0 : Nat) (s : Unit) (nx0 bk0 : Unit → Option (Bool)) : Option (Bool) :=
  
  Option.bind (idx t_14a (k0 : Int)) fun (yt_57 : Go.Proofs.Ytaepibmmpdfjcaa.PIntA2.IntA2) =>
  unIntA2 yt_57 fun (t_57_x0 : Int) (t_57_x1 : Int) =>
  Option.bind (idx t_14a (k0 : Int)) fun (yt_62 : Go.Proofs.Ytaepibmmpdfjcaa.PIntA2.IntA2) =>
  unIntA2 yt_62 fun (t_62_x0 : Int) (t_62_x1 : Int) =>
  bind2 (Go.Proofs.Ytaepibmmpdfjcaa.GiLayBlock.P t_5a t_5b_rows t_57_x0 t_62_x1) fun (t_65a : (List ByteArray)) (t_65b : Bool) =>
  bind2 (Go.Proofs.Ytaepibmmpdfjcaa.GiPointsOn.P t_5a) fun (t_72a : Int) (t_72b : Bool) =>
  bind2 (Go.Proofs.Ytaepibmmpdfjcaa.GiPointsOn.P t_65a) fun (t_79a : Int) (t_79b : Bool) =>
  letK (!t_65b) fun (t_86 : Bool) =>
  joinK (fun (t_90 : Bool) =>
  joinK (fun (t_94 : Bool) =>
  joinK (fun (t_99 : Bool) =>
  q1 nx0 (t_99)) fun jt_99 => iteK t_94 (appK jt_99 true) (letK (decide (t_72a < t_79a)) fun (t_98 : Bool) =>
  appK jt_99 t_98)) fun jt_94 => iteK t_90 (appK jt_94 true) (letK (!t_79b) fun (t_93 : Bool) =>
  appK jt_94 t_93)) fun jt_90 => iteK t_86 (appK jt_90 true) (letK (!t_72b) fun (t_89 : Bool) =>
  appK jt_90 t_89)

def q5  (s : Bool) : Option (Bool) :=
  letK s fun t_2q5 =>
  some t_2q5

def q4 (code : (List Int)) (fuel : Nat) (tapes : List Int → Go.Proofs.Ytaepibmmpdfjcaa.GoC.Tape) (s : Bool) : Option (Bool) :=
  letK s fun t_231q4 =>
  iteK t_231q4
  (some false)
  (Option.bind (Go.Proofs.Ytaepibmmpdfjcaa.GsDrawBlockText.P fuel tapes code) fun (t_237 : Go.Proofs.Ytaepibmmpdfjcaa.PBlock.Block) =>
  unBlock t_237 fun (t_237_rows : (List ByteArray)) =>
  bind2 (Go.Proofs.Ytaepibmmpdfjcaa.GiBlockText.P t_237_rows) fun (t_241a : ByteArray) (t_241b : Bool) =>
  bind2 (Go.Proofs.Ytaepibmmpdfjcaa.GsBlockText.P fuel t_237_rows) fun (t_248a : ByteArray) (t_248b : Bool) =>
  letK (t_241a.toList == t_248a.toList) fun (t_256 : Bool) =>
  joinK (fun (t_261 : Bool) =>
  q5  (t_261)) fun jt_261 => iteK t_256 (letK (t_241b == t_248b) fun (t_260 : Bool) =>
  appK jt_261 t_260) (appK jt_261 false))

def q3 (code : (List Int)) (fuel : Nat) (tapes : List Int → Go.Proofs.Ytaepibmmpdfjcaa.GoC.Tape) (s : Bool) : Option (Bool) :=
  letK s fun t_211q3 =>
  iteK t_211q3
  (some false)
  (Option.bind (Go.Proofs.Ytaepibmmpdfjcaa.GsDrawPointsOn.P fuel tapes code) fun (t_211 : (List ByteArray)) =>
  bind2 (Go.Proofs.Ytaepibmmpdfjcaa.GiPointsOn.P t_211) fun (t_214a : Int) (t_214b : Bool) =>
  bind2 (Go.Proofs.Ytaepibmmpdfjcaa.GsPointsOn.P fuel t_211) fun (t_221a : Int) (t_221b : Bool) =>
  letK (t_214a != t_221a) fun (t_229 : Bool) =>
  joinK (fun (t_234 : Bool) =>
  q4 code fuel tapes (t_234)) fun jt_234 => iteK t_229 (appK jt_234 true) (letK (!(t_214b == t_221b)) fun (t_233 : Bool) =>
  appK jt_234 t_233))

def q2 (code : (List Int)) (fuel : Nat) (tapes : List Int → Go.Proofs.Ytaepibmmpdfjcaa.GoC.Tape) (s : Bool) : Option (Bool) :=
  letK s fun t_160q2 =>
  iteK t_160q2
  (some false)
  (bind4 (Go.Proofs.Ytaepibmmpdfjcaa.GsDrawDoAgree.P fuel tapes code) fun (t_147a : Go.Proofs.Ytaepibmmpdfjcaa.PBlock.Block) (t_147b : Go.Proofs.Ytaepibmmpdfjcaa.PBlock.Block) (t_147c : Int) (t_147d : Int) =>
  unBlock t_147a fun (t_147a_rows : (List ByteArray)) =>
  unBlock t_147b fun (t_147b_rows : (List ByteArray)) =>
  bind2 (Go.Proofs.Ytaepibmmpdfjcaa.GiDoAgree.P t_147a_rows t_147b_rows t_147c t_147d) fun (t_163a : Bool) (t_163b : Bool) =>
  letK (IntKind.i64.wrap (-t_147c)) fun (t_172 : Int) =>
  letK (IntKind.i64.wrap (-t_147d)) fun (t_174 : Int) =>
  bind2 (Go.Proofs.Ytaepibmmpdfjcaa.GiDoAgree.P t_147b_rows t_147a_rows t_172 t_174) fun (t_175a : Bool) (t_175b : Bool) =>
  bind2 (Go.Proofs.Ytaepibmmpdfjcaa.GsDoAgree.P fuel t_147a_rows t_147b_rows t_147c t_147d) fun (t_185a : Bool) (t_185b : Bool) =>
  letK (!(t_163a == t_185a)) fun (t_193 : Bool) =>
  joinK (fun (t_198 : Bool) =>
  joinK (fun (t_203 : Bool) =>
  joinK (fun (t_208 : Bool) =>
  q3 code fuel tapes (t_208)) fun jt_208 => iteK t_203 (appK jt_208 true) (letK (!(t_175a == t_163a)) fun (t_207 : Bool) =>
  appK jt_208 t_207)) fun jt_203 => iteK t_198 (appK jt_203 true) (letK (!(t_175b == t_163b)) fun (t_202 : Bool) =>
  appK jt_203 t_202)) fun jt_198 => iteK t_193 (appK jt_198 true) (letK (!(t_163b == t_185b)) fun (t_197 : Bool) =>
  appK jt_198 t_197))

def e0 (code : (List Int)) (fuel : Nat) (tapes : List Int → Go.Proofs.Ytaepibmmpdfjcaa.GoC.Tape) (s : Unit) : Option (Bool) :=
  
  bind4 (Go.Proofs.Ytaepibmmpdfjcaa.GsDrawLayBlock.P fuel tapes code) fun (t_105a : (List ByteArray)) (t_105b : Go.Proofs.Ytaepibmmpdfjcaa.PBlock.Block) (t_105c : Int) (t_105d : Int) =>
  unBlock t_105b fun (t_105b_rows : (List ByteArray)) =>
  bind2 (Go.Proofs.Ytaepibmmpdfjcaa.GiLayBlock.P t_105a t_105b_rows t_105c t_105d) fun (t_120a : (List ByteArray)) (t_120b : Bool) =>
  bind2 (Go.Proofs.Ytaepibmmpdfjcaa.GsLayBlock.P fuel t_105a t_105b_rows t_105c t_105d) fun (t_130a : (List ByteArray)) (t_130b : Bool) =>
  letK (!(t_120b == t_130b)) fun (t_138 : Bool) =>
  joinK (fun (t_144 : Bool) =>
  q2 code fuel tapes (t_144)) fun jt_144 => iteK t_138 (appK jt_144 true) (Option.bind (Go.Proofs.Ytaepibmmpdfjcaa.GlVTexts.P t_120a t_130a) fun (t_142 : Bool) =>
  letK (!t_142) fun (t_143 : Bool) =>
  appK jt_144 t_143)

def q0 (code : (List Int)) (fuel : Nat) (tapes : List Int → Go.Proofs.Ytaepibmmpdfjcaa.GoC.Tape) (t_5a : (List ByteArray)) (t_5b_rows : (List ByteArray)) (t_14a : (List Go.Proofs.Ytaepibmmpdfjcaa.PIntA2.IntA2)) (s : Bool) : Option (Bool) :=
  letK s fun t_81q0 =>
  iteK t_81q0
  (some false)
  (cntK (l0 t_5a t_5b_rows t_14a) (t_14a.length) 0 () (e0 code fuel tapes))

def P (fuel : Nat) (tapes : List Int → Go.Proofs.Ytaepibmmpdfjcaa.GoC.Tape) (code : (List Int)) : Option (Bool) :=
  Option.bind (Go.Proofs.Ytaepibmmpdfjcaa.GlVBig.P code) fun (t_2 : Bool) =>
  iteK t_2
  (some true)
  (bind2 (Go.Proofs.Ytaepibmmpdfjcaa.GsDrawPlacesFor.P fuel tapes code) fun (t_5a : (List ByteArray)) (t_5b : Go.Proofs.Ytaepibmmpdfjcaa.PBlock.Block) =>
  unBlock t_5b fun (t_5b_rows : (List ByteArray)) =>
  bind2 (Go.Proofs.Ytaepibmmpdfjcaa.GiPlacesFor.P t_5a t_5b_rows) fun (t_14a : (List Go.Proofs.Ytaepibmmpdfjcaa.PIntA2.IntA2)) (t_14b : Bool) =>
  bind2 (Go.Proofs.Ytaepibmmpdfjcaa.GsPlacesFor.P fuel t_5a t_5b_rows) fun (t_22a : (List Go.Proofs.Ytaepibmmpdfjcaa.PIntA2.IntA2)) (t_22b : Bool) =>
  letK (!(t_14b == t_22b)) fun (t_30 : Bool) =>
  joinK (fun (t_36 : Bool) =>
  joinK (fun (t_46 : Bool) =>
  q0 code fuel tapes t_5a t_5b_rows t_14a (t_46)) fun jt_46 => iteK t_36 (appK jt_46 true) (Option.bind (Go.Proofs.Ytaepibmmpdfjcaa.GiIsSheet.P t_5a) fun (t_40 : Bool) =>
  joinK (fun (t_44 : Bool) =>
  letK (!(t_14b == t_44)) fun (t_45 : Bool) =>
  appK jt_46 t_45) fun jt_44 => iteK t_40 (Option.bind (Go.Proofs.Ytaepibmmpdfjcaa.GiIsBlock.P t_5b_rows) fun (t_43 : Bool) =>
  appK jt_44 t_43) (appK jt_44 false))) fun jt_36 => iteK t_30 (appK jt_36 true) (Option.bind (Go.Proofs.Ytaepibmmpdfjcaa.GlVPairs.P t_14a t_22a) fun (t_34 : Bool) =>
  letK (!t_34) fun (t_35 : Bool) =>
  appK jt_36 t_35))

set_option maxRecDepth 100000 in
set_option maxHeartbeats 20000000 in
theorem C (fuel : Nat) (tapes : List Int → Go.Proofs.Ytaepibmmpdfjcaa.GoC.Tape) (code : (List Int)) (A0 : Option Addr) (c0 : Nat)  (w : World) (HE : Hid (Go.Proofs.Ytaepibmmpdfjcaa.GoC.Tells tapes)) (M0 : Hid (Cells w 1 A0 code.length (Go.Proofs.Ytaepibmmpdfjcaa.GoC.u8s code))) (N0 : Hid (code.length ≤ 9223372036854775807)) (V0 : Hid (∀ z ∈ code, 0 ≤ z ∧ z ≤ 255))  {r : Bool} (H : Hid (P fuel tapes code = some r)) :
    Calls Try.prog 3 #[.slice A0 code.length c0] w (Gives (.bool r) w) := by
  have HB := Lib.hid (Below.refl w.heap.size w)
  unfold P at H
  have N0o := N0.out
  go_enter Try.func3, Try.ntmps3
  replace H := bind_hid H
  obtain ⟨t_2, qt_2, H⟩ := H
  go_wp2_with fail
  go_at_call 10
  refine (Go.Proofs.Ytaepibmmpdfjcaa.GlVBig.C (code) A0 c0 _   (Lib.hid (Cells.below M0.out HB.out)) N0 V0 qt_2).mono ?_
  rintro e_t_2 wt_2 ⟨rfl, bt_2⟩
  have HBwt_2 := Lib.hid (Below.step HB.out bt_2)
  clear bt_2
  cases t_2 with
  | false =>
    replace H := ite_f H
    replace H := bind2_hid H
    obtain ⟨t_5a, t_5b, qt_5, H⟩ := H
    obtain ⟨t_5b_rows⟩ := t_5b
    replace H := unBlock_hid H
    go_wp2_with fail
    go_at_call 11
    refine (Go.Proofs.Ytaepibmmpdfjcaa.GsDrawPlacesFor.C fuel tapes (code) A0 c0 _  HE (Lib.hid (Cells.below M0.out HBwt_2.out)) N0 V0 qt_5).mono ?_
    rintro e_t_5 wt_5 ⟨At_5a, ct_5a, At_5b_rows, ct_5b_rows, rfl, ot_5a, ot_5b_rows, d0_1, bt_5⟩
    have Dt_5a_t_5b_rows := Lib.hid d0_1
    have Ot_5a := Lib.hid (own_lower ot_5a HBwt_2.out.size)
    clear ot_5a
    have Ot_5b_rows := Lib.hid (own_lower ot_5b_rows HBwt_2.out.size)
    clear ot_5b_rows
    have HBwt_5 := Lib.hid (Below.step HBwt_2.out bt_5)
    clear bt_5
    obtain ⟨w_b_9, hw_b_9⟩ : ∃ x, wt_5.alloc (.cells #[.slice At_5b_rows t_5b_rows.length ct_5b_rows] 26) = x := ⟨_, rfl⟩
    have bw_b_9 : Below wt_5.heap.size wt_5 w_b_9 := by rw [← hw_b_9]; exact (Below.refl _ _).alloc (Nat.le_refl _) _
    have Db_9_t_5a := Lib.hid (apart_fresh Ot_5a.out)
    have Db_9_t_5b_rows := Lib.hid (apart_fresh Ot_5b_rows.out)
    have HBw_b_9 := Lib.hid (Below.step HBwt_5.out bw_b_9)
    replace Ot_5a := Lib.hid (own_below Ot_5a.out bw_b_9)
    replace Ot_5b_rows := Lib.hid (own_below Ot_5b_rows.out bw_b_9)
    clear bw_b_9
    have kb_9_0 : w_b_9.cell? ⟨wt_5.heap.size, 0, none⟩ = some (.slice At_5b_rows t_5b_rows.length ct_5b_rows) := by rw [← hw_b_9]; exact box_new _ _ _ 0 _ rfl
    replace H := bind2_hid H
    obtain ⟨t_14a, t_14b, qt_14, H⟩ := H
    go_wp2_with fail
    go_at_call 12
    refine (Go.Proofs.Ytaepibmmpdfjcaa.GiPlacesFor.C (t_5a) (t_5b_rows) At_5a ct_5a At_5b_rows ct_5b_rows _   (Lib.hid (own_cells Ot_5a.out)) (Lib.hid (own_max Ot_5a.out)) (Lib.hid (own_cells Ot_5b_rows.out)) (Lib.hid (own_max Ot_5b_rows.out)) qt_14).mono ?_
    rintro e_t_14 wt_14 ⟨At_14a, ct_14a, rfl, ot_14a, bt_14⟩
    have Dt_14a_t_5a := Lib.hid (apart_call ot_14a Ot_5a.out)
    have Dt_14a_t_5b_rows := Lib.hid (apart_call ot_14a Ot_5b_rows.out)
    have Dt_14a_b_9 := Lib.hid (apart_callbox ot_14a kb_9_0)
    have Ot_14a := Lib.hid (own_lower ot_14a HBw_b_9.out.size)
    clear ot_14a
    have HBwt_14 := Lib.hid (Below.step HBw_b_9.out bt_14)
    replace kb_9_0 := cell_below bt_14 kb_9_0
    replace Ot_5a := Lib.hid (own_below Ot_5a.out bt_14)
    replace Ot_5b_rows := Lib.hid (own_below Ot_5b_rows.out bt_14)
    clear bt_14
    replace H := bind2_hid H
    obtain ⟨t_22a, t_22b, qt_22, H⟩ := H
    go_wp2_with fail
    go_at_call 13
    refine (Go.Proofs.Ytaepibmmpdfjcaa.GsPlacesFor.C fuel (t_5a) (t_5b_rows) At_5a ct_5a At_5b_rows ct_5b_rows _   (Lib.hid (own_cells Ot_5a.out)) (Lib.hid (own_max Ot_5a.out)) (Lib.hid (own_cells Ot_5b_rows.out)) (Lib.hid (own_max Ot_5b_rows.out)) qt_22).mono ?_
    rintro e_t_22 wt_22 ⟨At_22a, ct_22a, rfl, ot_22a, bt_22⟩
    have Dt_22a_t_5a := Lib.hid (apart_call ot_22a Ot_5a.out)
    have Dt_22a_t_5b_rows := Lib.hid (apart_call ot_22a Ot_5b_rows.out)
    have Dt_22a_t_14a := Lib.hid (apart_call ot_22a Ot_14a.out)
    have Dt_22a_b_9 := Lib.hid (apart_callbox ot_22a kb_9_0)
    have Ot_22a := Lib.hid (own_lower ot_22a HBwt_14.out.size)
    clear ot_22a
    have HBwt_22 := Lib.hid (Below.step HBwt_14.out bt_22)
    replace kb_9_0 := cell_below bt_22 kb_9_0
    replace Ot_5a := Lib.hid (own_below Ot_5a.out bt_22)
    replace Ot_5b_rows := Lib.hid (own_below Ot_5b_rows.out bt_22)
    replace Ot_14a := Lib.hid (own_below Ot_14a.out bt_22)
    clear bt_22
    go_upto_region 6 with fail
    go_cut [81] (fun v81_ wr => ∃ (t_81q0 : Bool), v81_ = .bool t_81q0 ∧ Hid (q0 code fuel tapes t_5a t_5b_rows t_14a (t_81q0) = some r) ∧ Hid (Below w.heap.size w wr) ∧ wr.cell? ⟨wt_5.heap.size, 0, none⟩ = some (.slice At_5b_rows t_5b_rows.length ct_5b_rows) ∧ Hid (wr.ownsRow w.heap.size 9 1 (.slice At_5a t_5a.length ct_5a) t_5a.length (t_5a.map Value.string)) ∧ Hid (wr.ownsRow w.heap.size 9 1 (.slice At_5b_rows t_5b_rows.length ct_5b_rows) t_5b_rows.length (t_5b_rows.map Value.string)) ∧ Hid (wr.ownsRow w.heap.size 37 2 (.slice At_14a t_14a.length ct_14a) t_14a.length (Go.Proofs.Ytaepibmmpdfjcaa.PIntA2.flat t_14a)) ∧ Hid (wr.ownsRow w.heap.size 37 2 (.slice At_22a t_22a.length ct_22a) t_22a.length (Go.Proofs.Ytaepibmmpdfjcaa.PIntA2.flat t_22a)))
    case first =>
      as_aux_lemma =>
        replace H := let_hid H
        obtain ⟨t_30, ht_30, H⟩ := H
        replace H := join_hid H
        cases t_30 with
        | false =>
          replace H := ite_f H
          replace H := bind_hid H
          obtain ⟨t_34, qt_34, H⟩ := H
          go_wp2_with fail
          go_at_call 14
          refine (Go.Proofs.Ytaepibmmpdfjcaa.GlVPairs.C (t_14a) (t_22a) At_14a ct_14a At_22a ct_22a _   (Lib.hid (own_cells Ot_14a.out)) (Lib.hid (own_max Ot_14a.out)) (Lib.hid (own_cells Ot_22a.out)) (Lib.hid (own_max Ot_22a.out)) qt_34).mono ?_
          rintro e_t_34 wt_34 ⟨rfl, bt_34⟩
          have HBwt_34 := Lib.hid (Below.step HBwt_22.out bt_34)
          replace kb_9_0 := cell_below bt_34 kb_9_0
          replace Ot_5a := Lib.hid (own_below Ot_5a.out bt_34)
          replace Ot_5b_rows := Lib.hid (own_below Ot_5b_rows.out bt_34)
          replace Ot_14a := Lib.hid (own_below Ot_14a.out bt_34)
          replace Ot_22a := Lib.hid (own_below Ot_22a.out bt_34)
          clear bt_34
          cases t_34 with
          | false =>
            replace H := let_hid H
            obtain ⟨t_35, ht_35, H⟩ := H
            obtain rfl : t_35 = true := ht_35.symm
            replace H := app_hid H
            replace H := join_hid H
            replace H := ite_t H
            replace H := app_hid H
            go_wp2_with fail
            go_meet
            case rel => exact ⟨_, rfl, H, HBwt_34, kb_9_0, Ot_5a, Ot_5b_rows, Ot_14a, Ot_22a⟩
          | true =>
            replace H := let_hid H
            obtain ⟨t_35, ht_35, H⟩ := H
            obtain rfl : t_35 = false := ht_35.symm
            replace H := app_hid H
            replace H := join_hid H
            replace H := ite_f H
            replace H := bind_hid H
            obtain ⟨t_40, qt_40, H⟩ := H
            go_wp2_with fail
            go_at_call 15
            refine (Go.Proofs.Ytaepibmmpdfjcaa.GiIsSheet.C (t_5a) At_5a ct_5a _   (Lib.hid (own_cells Ot_5a.out)) (Lib.hid (own_max Ot_5a.out)) qt_40).mono ?_
            rintro e_t_40 wt_40 ⟨rfl, bt_40⟩
            have HBwt_40 := Lib.hid (Below.step HBwt_34.out bt_40)
            replace kb_9_0 := cell_below bt_40 kb_9_0
            replace Ot_5a := Lib.hid (own_below Ot_5a.out bt_40)
            replace Ot_5b_rows := Lib.hid (own_below Ot_5b_rows.out bt_40)
            replace Ot_14a := Lib.hid (own_below Ot_14a.out bt_40)
            replace Ot_22a := Lib.hid (own_below Ot_22a.out bt_40)
            clear bt_40
            replace H := join_hid H
            cases t_40 with
            | false =>
              replace H := ite_f H
              replace H := app_hid H
              cases t_14b with
              | false =>
                obtain rfl : t_22b = false := by revert ht_30; cases t_22b <;> simp
                replace H := let_hid H
                obtain ⟨t_45, ht_45, H⟩ := H
                obtain rfl : t_45 = false := ht_45.symm
                replace H := app_hid H
                go_wp2_with fail
                go_meet
                case rel => exact ⟨_, rfl, H, HBwt_40, kb_9_0, Ot_5a, Ot_5b_rows, Ot_14a, Ot_22a⟩
              | true =>
                obtain rfl : t_22b = true := by revert ht_30; cases t_22b <;> simp
                replace H := let_hid H
                obtain ⟨t_45, ht_45, H⟩ := H
                obtain rfl : t_45 = true := ht_45.symm
                replace H := app_hid H
                go_wp2_with fail
                go_meet
                case rel => exact ⟨_, rfl, H, HBwt_40, kb_9_0, Ot_5a, Ot_5b_rows, Ot_14a, Ot_22a⟩
            | true =>
              replace H := ite_t H
              replace H := bind_hid H
              obtain ⟨t_43, qt_43, H⟩ := H
              go_wp2_with fail
              go_at_call 16
              refine (Go.Proofs.Ytaepibmmpdfjcaa.GiIsBlock.C (t_5b_rows) At_5b_rows ct_5b_rows _   (Lib.hid (own_cells Ot_5b_rows.out)) (Lib.hid (own_max Ot_5b_rows.out)) qt_43).mono ?_
              rintro e_t_43 wt_43 ⟨rfl, bt_43⟩
              have HBwt_43 := Lib.hid (Below.step HBwt_40.out bt_43)
              replace kb_9_0 := cell_below bt_43 kb_9_0
              replace Ot_5a := Lib.hid (own_below Ot_5a.out bt_43)
              replace Ot_5b_rows := Lib.hid (own_below Ot_5b_rows.out bt_43)
              replace Ot_14a := Lib.hid (own_below Ot_14a.out bt_43)
              replace Ot_22a := Lib.hid (own_below Ot_22a.out bt_43)
              clear bt_43
              replace H := app_hid H
              replace H := let_hid H
              obtain ⟨t_45, ht_45, H⟩ := H
              replace H := app_hid H
              go_wp2_with fail
              go_meet
              case rel => exact ⟨_, rfl, H, HBwt_43, kb_9_0, Ot_5a, Ot_5b_rows, Ot_14a, Ot_22a⟩
        | true =>
          replace H := ite_t H
          replace H := app_hid H
          replace H := join_hid H
          replace H := ite_t H
          replace H := app_hid H
          go_wp2_with fail
          go_meet
          case rel => exact ⟨_, rfl, H, HBwt_22, kb_9_0, Ot_5a, Ot_5b_rows, Ot_14a, Ot_22a⟩
    case rest =>
      as_aux_lemma =>
        obtain ⟨t_81q0, rfl, H, HBwq0, kb_9_0, Ot_5a, Ot_5b_rows, Ot_14a, Ot_22a⟩ := hcut
        rename World => wq0
        unfold q0 at H
        replace H := let_hid H
        obtain ⟨_, rfl, H⟩ := H
        cases t_81q0 with
        | false =>
          replace H := ite_f H
          have hb_0 : t_14a.length ≤ 9223372036854775807 := own_max Ot_14a.out
          go_wp2_with fail
          go_loopg [9] (t_14a.length) (fun m_ v9_ wr => ∃ (k0 : Nat) , k0 + m_ = t_14a.length ∧ v9_ = .int .i64 (k0 : Int) ∧ Hid (cntK (l0 t_5a t_5b_rows t_14a) m_ k0 () (e0 code fuel tapes) = some r) ∧ Hid (Below w.heap.size w wr) ∧ wr.cell? ⟨wt_5.heap.size, 0, none⟩ = some (.slice At_5b_rows t_5b_rows.length ct_5b_rows) ∧ Hid (wr.ownsRow w.heap.size 9 1 (.slice At_5a t_5a.length ct_5a) t_5a.length (t_5a.map Value.string)) ∧ Hid (wr.ownsRow w.heap.size 9 1 (.slice At_5b_rows t_5b_rows.length ct_5b_rows) t_5b_rows.length (t_5b_rows.map Value.string)) ∧ Hid (wr.ownsRow w.heap.size 37 2 (.slice At_14a t_14a.length ct_14a) t_14a.length (Go.Proofs.Ytaepibmmpdfjcaa.PIntA2.flat t_14a)) ∧ Hid (wr.ownsRow w.heap.size 37 2 (.slice At_22a t_22a.length ct_22a) t_22a.length (Go.Proofs.Ytaepibmmpdfjcaa.PIntA2.flat t_22a)))
          case atStart => exact ⟨0, by omega, rfl, H, HBwq0, kb_9_0, Ot_5a, Ot_5b_rows, Ot_14a, Ot_22a⟩
          case round =>
            obtain ⟨k0, hkm0, rfl, H, HBwr0, kb_9_0, Ot_5a, Ot_5b_rows, Ot_14a, Ot_22a⟩ := hrel
            rename World => wr0
            cases gk with
            | zero =>
              obtain rfl : k0 = t_14a.length := by omega
              have hc0 : decide (((t_14a.length : Nat) : Int) < ((t_14a.length : Nat) : Int)) = false := by simp
              replace H := cnt_zero H
              unfold e0 at H
              replace H := bind4_hid H
              obtain ⟨t_105a, t_105b, t_105c, t_105d, qt_105, H⟩ := H
              obtain ⟨t_105b_rows⟩ := t_105b
              replace H := unBlock_hid H
              go_wp2_with fail
              go_at_call 19
              refine (Go.Proofs.Ytaepibmmpdfjcaa.GsDrawLayBlock.C fuel tapes (code) A0 c0 _  HE (Lib.hid (Cells.below M0.out HBwr0.out)) N0 V0 qt_105).mono ?_
              rintro e_t_105 wt_105 ⟨At_105a, ct_105a, At_105b_rows, ct_105b_rows, rfl, ot_105a, ot_105b_rows, d0_1, bt_105⟩
              have Dt_105a_t_5a := Lib.hid (apart_call ot_105a Ot_5a.out)
              have Dt_105a_t_5b_rows := Lib.hid (apart_call ot_105a Ot_5b_rows.out)
              have Dt_105a_t_14a := Lib.hid (apart_call ot_105a Ot_14a.out)
              have Dt_105a_t_22a := Lib.hid (apart_call ot_105a Ot_22a.out)
              have Dt_105a_b_9 := Lib.hid (apart_callbox ot_105a kb_9_0)
              have Dt_105b_rows_t_5a := Lib.hid (apart_call ot_105b_rows Ot_5a.out)
              have Dt_105b_rows_t_5b_rows := Lib.hid (apart_call ot_105b_rows Ot_5b_rows.out)
              have Dt_105b_rows_t_14a := Lib.hid (apart_call ot_105b_rows Ot_14a.out)
              have Dt_105b_rows_t_22a := Lib.hid (apart_call ot_105b_rows Ot_22a.out)
              have Dt_105b_rows_b_9 := Lib.hid (apart_callbox ot_105b_rows kb_9_0)
              have Dt_105a_t_105b_rows := Lib.hid d0_1
              have Ot_105a := Lib.hid (own_lower ot_105a HBwr0.out.size)
              clear ot_105a
              have Ot_105b_rows := Lib.hid (own_lower ot_105b_rows HBwr0.out.size)
              clear ot_105b_rows
              have HBwt_105 := Lib.hid (Below.step HBwr0.out bt_105)
              replace kb_9_0 := cell_below bt_105 kb_9_0
              replace Ot_5a := Lib.hid (own_below Ot_5a.out bt_105)
              replace Ot_5b_rows := Lib.hid (own_below Ot_5b_rows.out bt_105)
              replace Ot_14a := Lib.hid (own_below Ot_14a.out bt_105)
              replace Ot_22a := Lib.hid (own_below Ot_22a.out bt_105)
              clear bt_105
              obtain ⟨w_y_111, hw_y_111⟩ : ∃ x, wt_105.alloc (.cells #[.slice At_105b_rows t_105b_rows.length ct_105b_rows] 26) = x := ⟨_, rfl⟩
              have bw_y_111 : Below wt_105.heap.size wt_105 w_y_111 := by rw [← hw_y_111]; exact (Below.refl _ _).alloc (Nat.le_refl _) _
              have Dy_111_t_5a := Lib.hid (apart_fresh Ot_5a.out)
              have Dy_111_t_5b_rows := Lib.hid (apart_fresh Ot_5b_rows.out)
              have Dy_111_t_14a := Lib.hid (apart_fresh Ot_14a.out)
              have Dy_111_t_22a := Lib.hid (apart_fresh Ot_22a.out)
              have Dy_111_t_105a := Lib.hid (apart_fresh Ot_105a.out)
              have Dy_111_t_105b_rows := Lib.hid (apart_fresh Ot_105b_rows.out)
              have HBw_y_111 := Lib.hid (Below.step HBwt_105.out bw_y_111)
              have kb_9_0__63 := cell_below bw_y_111 kb_9_0
              replace Ot_5a := Lib.hid (own_below Ot_5a.out bw_y_111)
              replace Ot_5b_rows := Lib.hid (own_below Ot_5b_rows.out bw_y_111)
              replace Ot_14a := Lib.hid (own_below Ot_14a.out bw_y_111)
              replace Ot_22a := Lib.hid (own_below Ot_22a.out bw_y_111)
              replace Ot_105a := Lib.hid (own_below Ot_105a.out bw_y_111)
              replace Ot_105b_rows := Lib.hid (own_below Ot_105b_rows.out bw_y_111)
              clear bw_y_111
              have ky_111_0 : w_y_111.cell? ⟨wt_105.heap.size, 0, none⟩ = some (.slice At_105b_rows t_105b_rows.length ct_105b_rows) := by rw [← hw_y_111]; exact box_new _ _ _ 0 _ rfl
              replace H := bind2_hid H
              obtain ⟨t_120a, t_120b, qt_120, H⟩ := H
              go_wp2_with fail
              clear kb_9_0
              go_at_call 17
              refine (Go.Proofs.Ytaepibmmpdfjcaa.GiLayBlock.C (t_105a) (t_105b_rows) (t_105c) (t_105d) At_105a ct_105a At_105b_rows ct_105b_rows _   (Lib.hid (own_cells Ot_105a.out)) (Lib.hid (own_max Ot_105a.out)) (Lib.hid (own_room Ot_105a.out)) (Lib.hid (own_cells Ot_105b_rows.out)) (Lib.hid (own_max Ot_105b_rows.out)) (Lib.hid (own_room Ot_105b_rows.out)) qt_120).mono ?_
              rintro e_t_120 wt_120 ⟨At_120a, ct_120a, rfl, ot_120a, bt_120⟩
              have Dt_120a_t_5a := Lib.hid (apart_call ot_120a Ot_5a.out)
              have Dt_120a_t_5b_rows := Lib.hid (apart_call ot_120a Ot_5b_rows.out)
              have Dt_120a_t_14a := Lib.hid (apart_call ot_120a Ot_14a.out)
              have Dt_120a_t_22a := Lib.hid (apart_call ot_120a Ot_22a.out)
              have Dt_120a_t_105a := Lib.hid (apart_call ot_120a Ot_105a.out)
              have Dt_120a_t_105b_rows := Lib.hid (apart_call ot_120a Ot_105b_rows.out)
              have Dt_120a_b_9 := Lib.hid (apart_callbox ot_120a kb_9_0__63)
              have Dt_120a_y_111 := Lib.hid (apart_callbox ot_120a ky_111_0)
              have Ot_120a := Lib.hid (own_lower ot_120a HBw_y_111.out.size)
              clear ot_120a
              have HBwt_120 := Lib.hid (Below.step HBw_y_111.out bt_120)
              replace kb_9_0__63 := cell_below bt_120 kb_9_0__63
              replace ky_111_0 := cell_below bt_120 ky_111_0
              replace Ot_5a := Lib.hid (own_below Ot_5a.out bt_120)
              replace Ot_5b_rows := Lib.hid (own_below Ot_5b_rows.out bt_120)
              replace Ot_14a := Lib.hid (own_below Ot_14a.out bt_120)
              replace Ot_22a := Lib.hid (own_below Ot_22a.out bt_120)
              replace Ot_105a := Lib.hid (own_below Ot_105a.out bt_120)
              replace Ot_105b_rows := Lib.hid (own_below Ot_105b_rows.out bt_120)
              clear bt_120
              replace H := bind2_hid H
              obtain ⟨t_130a, t_130b, qt_130, H⟩ := H
              go_wp2_with fail
              go_at_call 20
              refine (Go.Proofs.Ytaepibmmpdfjcaa.GsLayBlock.C fuel (t_105a) (t_105b_rows) (t_105c) (t_105d) At_105a ct_105a At_105b_rows ct_105b_rows _   (Lib.hid (own_cells Ot_105a.out)) (Lib.hid (own_max Ot_105a.out)) (Lib.hid (own_cells Ot_105b_rows.out)) (Lib.hid (own_max Ot_105b_rows.out)) qt_130).mono ?_
              rintro e_t_130 wt_130 ⟨At_130a, ct_130a, rfl, ot_130a, bt_130⟩
              have Dt_130a_t_5a := Lib.hid (apart_call ot_130a Ot_5a.out)
              have Dt_130a_t_5b_rows := Lib.hid (apart_call ot_130a Ot_5b_rows.out)
              have Dt_130a_t_14a := Lib.hid (apart_call ot_130a Ot_14a.out)
              have Dt_130a_t_22a := Lib.hid (apart_call ot_130a Ot_22a.out)
              have Dt_130a_t_105a := Lib.hid (apart_call ot_130a Ot_105a.out)
              have Dt_130a_t_105b_rows := Lib.hid (apart_call ot_130a Ot_105b_rows.out)
              have Dt_130a_t_120a := Lib.hid (apart_call ot_130a Ot_120a.out)
              have Dt_130a_b_9 := Lib.hid (apart_callbox ot_130a kb_9_0__63)
              have Dt_130a_y_111 := Lib.hid (apart_callbox ot_130a ky_111_0)
              have Ot_130a := Lib.hid (own_lower ot_130a HBwt_120.out.size)
              clear ot_130a
              have HBwt_130 := Lib.hid (Below.step HBwt_120.out bt_130)
              replace kb_9_0__63 := cell_below bt_130 kb_9_0__63
              replace ky_111_0 := cell_below bt_130 ky_111_0
              replace Ot_5a := Lib.hid (own_below Ot_5a.out bt_130)
              replace Ot_5b_rows := Lib.hid (own_below Ot_5b_rows.out bt_130)
              replace Ot_14a := Lib.hid (own_below Ot_14a.out bt_130)
              replace Ot_22a := Lib.hid (own_below Ot_22a.out bt_130)
              replace Ot_105a := Lib.hid (own_below Ot_105a.out bt_130)
              replace Ot_105b_rows := Lib.hid (own_below Ot_105b_rows.out bt_130)
              replace Ot_120a := Lib.hid (own_below Ot_120a.out bt_130)
              clear bt_130
              go_upto_region 19 with fail
              go_cut [160] (fun v160_ wr => ∃ (t_160q2 : Bool), v160_ = .bool t_160q2 ∧ Hid (q2 code fuel tapes (t_160q2) = some r) ∧ Hid (Below w.heap.size w wr) ∧ wr.cell? ⟨wt_5.heap.size, 0, none⟩ = some (.slice At_5b_rows t_5b_rows.length ct_5b_rows) ∧ wr.cell? ⟨wt_105.heap.size, 0, none⟩ = some (.slice At_105b_rows t_105b_rows.length ct_105b_rows) ∧ Hid (wr.ownsRow w.heap.size 9 1 (.slice At_5a t_5a.length ct_5a) t_5a.length (t_5a.map Value.string)) ∧ Hid (wr.ownsRow w.heap.size 9 1 (.slice At_5b_rows t_5b_rows.length ct_5b_rows) t_5b_rows.length (t_5b_rows.map Value.string)) ∧ Hid (wr.ownsRow w.heap.size 37 2 (.slice At_14a t_14a.length ct_14a) t_14a.length (Go.Proofs.Ytaepibmmpdfjcaa.PIntA2.flat t_14a)) ∧ Hid (wr.ownsRow w.heap.size 37 2 (.slice At_22a t_22a.length ct_22a) t_22a.length (Go.Proofs.Ytaepibmmpdfjcaa.PIntA2.flat t_22a)) ∧ Hid (wr.ownsRow w.heap.size 9 1 (.slice At_105a t_105a.length ct_105a) t_105a.length (t_105a.map Value.string)) ∧ Hid (wr.ownsRow w.heap.size 9 1 (.slice At_105b_rows t_105b_rows.length ct_105b_rows) t_105b_rows.length (t_105b_rows.map Value.string)) ∧ Hid (wr.ownsRow w.heap.size 9 1 (.slice At_120a t_120a.length ct_120a) t_120a.length (t_120a.map Value.string)) ∧ Hid (wr.ownsRow w.heap.size 9 1 (.slice At_130a t_130a.length ct_130a) t_130a.length (t_130a.map Value.string)))
              case first =>
                as_aux_lemma =>
                  replace H := let_hid H
                  obtain ⟨t_138, ht_138, H⟩ := H
                  replace H := join_hid H
                  cases t_138 with
                  | false =>
                    replace H := ite_f H
                    replace H := bind_hid H
                    obtain ⟨t_142, qt_142, H⟩ := H
                    go_wp2_with fail
                    go_at_call 21
                    refine (Go.Proofs.Ytaepibmmpdfjcaa.GlVTexts.C (t_120a) (t_130a) At_120a ct_120a At_130a ct_130a _   (Lib.hid (own_cells Ot_120a.out)) (Lib.hid (own_max Ot_120a.out)) (Lib.hid (own_cells Ot_130a.out)) (Lib.hid (own_max Ot_130a.out)) qt_142).mono ?_
                    rintro e_t_142 wt_142 ⟨rfl, bt_142⟩
                    have HBwt_142 := Lib.hid (Below.step HBwt_130.out bt_142)
                    replace kb_9_0__63 := cell_below bt_142 kb_9_0__63
                    replace ky_111_0 := cell_below bt_142 ky_111_0
                    replace Ot_5a := Lib.hid (own_below Ot_5a.out bt_142)
                    replace Ot_5b_rows := Lib.hid (own_below Ot_5b_rows.out bt_142)
                    replace Ot_14a := Lib.hid (own_below Ot_14a.out bt_142)
                    replace Ot_22a := Lib.hid (own_below Ot_22a.out bt_142)
                    replace Ot_105a := Lib.hid (own_below Ot_105a.out bt_142)
                    replace Ot_105b_rows := Lib.hid (own_below Ot_105b_rows.out bt_142)
                    replace Ot_120a := Lib.hid (own_below Ot_120a.out bt_142)
                    replace Ot_130a := Lib.hid (own_below Ot_130a.out bt_142)
                    clear bt_142
                    cases t_142 with
                    | false =>
                      replace H := let_hid H
                      obtain ⟨t_143, ht_143, H⟩ := H
                      obtain rfl : t_143 = true := ht_143.symm
                      replace H := app_hid H
                      go_wp2_with fail
                      go_meet
                      case rel => exact ⟨_, rfl, H, HBwt_142, kb_9_0__63, ky_111_0, Ot_5a, Ot_5b_rows, Ot_14a, Ot_22a, Ot_105a, Ot_105b_rows, Ot_120a, Ot_130a⟩
                    | true =>
                      replace H := let_hid H
                      obtain ⟨t_143, ht_143, H⟩ := H
                      obtain rfl : t_143 = false := ht_143.symm
                      replace H := app_hid H
                      go_wp2_with fail
                      go_meet
                      case rel => exact ⟨_, rfl, H, HBwt_142, kb_9_0__63, ky_111_0, Ot_5a, Ot_5b_rows, Ot_14a, Ot_22a, Ot_105a, Ot_105b_rows, Ot_120a, Ot_130a⟩
                  | true =>
                    replace H := ite_t H
                    replace H := app_hid H
                    go_wp2_with fail
                    go_meet
                    case rel => exact ⟨_, rfl, H, HBwt_130, kb_9_0__63, ky_111_0, Ot_5a, Ot_5b_rows, Ot_14a, Ot_22a, Ot_105a, Ot_105b_rows, Ot_120a, Ot_130a⟩
              case rest =>
                as_aux_lemma =>
                  obtain ⟨t_160q2, rfl, H, HBwq2, kb_9_0__63, ky_111_0, Ot_5a, Ot_5b_rows, Ot_14a, Ot_22a, Ot_105a, Ot_105b_rows, Ot_120a, Ot_130a⟩ := hcut
                  rename World => wq2
                  unfold q2 at H
                  replace H := let_hid H
                  obtain ⟨_, rfl, H⟩ := H
                  cases t_160q2 with
                  | false =>
                    replace H := ite_f H
                    replace H := bind4_hid H
                    obtain ⟨t_147a, t_147b, t_147c, t_147d, qt_147, H⟩ := H
                    obtain ⟨t_147a_rows⟩ := t_147a
                    replace H := unBlock_hid H
                    obtain ⟨t_147b_rows⟩ := t_147b
                    replace H := unBlock_hid H
                    go_wp2_with fail
                    go_at_call 22
                    refine (Go.Proofs.Ytaepibmmpdfjcaa.GsDrawDoAgree.C fuel tapes (code) A0 c0 _  HE (Lib.hid (Cells.below M0.out HBwq2.out)) N0 V0 qt_147).mono ?_
                    rintro e_t_147 wt_147 ⟨At_147a_rows, ct_147a_rows, At_147b_rows, ct_147b_rows, rfl, ot_147a_rows, ot_147b_rows, d0_1, bt_147⟩
                    have Dt_147a_rows_t_5a := Lib.hid (apart_call ot_147a_rows Ot_5a.out)
                    have Dt_147a_rows_t_5b_rows := Lib.hid (apart_call ot_147a_rows Ot_5b_rows.out)
                    have Dt_147a_rows_t_14a := Lib.hid (apart_call ot_147a_rows Ot_14a.out)
                    have Dt_147a_rows_t_22a := Lib.hid (apart_call ot_147a_rows Ot_22a.out)
                    have Dt_147a_rows_t_105a := Lib.hid (apart_call ot_147a_rows Ot_105a.out)
                    have Dt_147a_rows_t_105b_rows := Lib.hid (apart_call ot_147a_rows Ot_105b_rows.out)
                    have Dt_147a_rows_t_120a := Lib.hid (apart_call ot_147a_rows Ot_120a.out)
                    have Dt_147a_rows_t_130a := Lib.hid (apart_call ot_147a_rows Ot_130a.out)
                    have Dt_147a_rows_b_9 := Lib.hid (apart_callbox ot_147a_rows kb_9_0__63)
                    have Dt_147a_rows_y_111 := Lib.hid (apart_callbox ot_147a_rows ky_111_0)
                    have Dt_147b_rows_t_5a := Lib.hid (apart_call ot_147b_rows Ot_5a.out)
                    have Dt_147b_rows_t_5b_rows := Lib.hid (apart_call ot_147b_rows Ot_5b_rows.out)
                    have Dt_147b_rows_t_14a := Lib.hid (apart_call ot_147b_rows Ot_14a.out)
                    have Dt_147b_rows_t_22a := Lib.hid (apart_call ot_147b_rows Ot_22a.out)
                    have Dt_147b_rows_t_105a := Lib.hid (apart_call ot_147b_rows Ot_105a.out)
                    have Dt_147b_rows_t_105b_rows := Lib.hid (apart_call ot_147b_rows Ot_105b_rows.out)
                    have Dt_147b_rows_t_120a := Lib.hid (apart_call ot_147b_rows Ot_120a.out)
                    have Dt_147b_rows_t_130a := Lib.hid (apart_call ot_147b_rows Ot_130a.out)
                    have Dt_147b_rows_b_9 := Lib.hid (apart_callbox ot_147b_rows kb_9_0__63)
                    have Dt_147b_rows_y_111 := Lib.hid (apart_callbox ot_147b_rows ky_111_0)
                    have Dt_147a_rows_t_147b_rows := Lib.hid d0_1
                    have Ot_147a_rows := Lib.hid (own_lower ot_147a_rows HBwq2.out.size)
                    clear ot_147a_rows
                    have Ot_147b_rows := Lib.hid (own_lower ot_147b_rows HBwq2.out.size)
                    clear ot_147b_rows
                    have HBwt_147 := Lib.hid (Below.step HBwq2.out bt_147)
                    replace kb_9_0__63 := cell_below bt_147 kb_9_0__63
                    replace ky_111_0 := cell_below bt_147 ky_111_0
                    replace Ot_5a := Lib.hid (own_below Ot_5a.out bt_147)
                    replace Ot_5b_rows := Lib.hid (own_below Ot_5b_rows.out bt_147)
                    replace Ot_14a := Lib.hid (own_below Ot_14a.out bt_147)
                    replace Ot_22a := Lib.hid (own_below Ot_22a.out bt_147)
                    replace Ot_105a := Lib.hid (own_below Ot_105a.out bt_147)
                    replace Ot_105b_rows := Lib.hid (own_below Ot_105b_rows.out bt_147)
                    replace Ot_120a := Lib.hid (own_below Ot_120a.out bt_147)
                    replace Ot_130a := Lib.hid (own_below Ot_130a.out bt_147)
                    clear bt_147
                    obtain ⟨w_p_153, hw_p_153⟩ : ∃ x, wt_147.alloc (.cells #[.slice none 0 0] 26) = x := ⟨_, rfl⟩
                    have bw_p_153 : Below wt_147.heap.size wt_147 w_p_153 := by rw [← hw_p_153]; exact (Below.refl _ _).alloc (Nat.le_refl _) _
                    have Dp_153_t_5a := Lib.hid (apart_fresh Ot_5a.out)
                    have Dp_153_t_5b_rows := Lib.hid (apart_fresh Ot_5b_rows.out)
                    have Dp_153_t_14a := Lib.hid (apart_fresh Ot_14a.out)
                    have Dp_153_t_22a := Lib.hid (apart_fresh Ot_22a.out)
                    have Dp_153_t_105a := Lib.hid (apart_fresh Ot_105a.out)
                    have Dp_153_t_105b_rows := Lib.hid (apart_fresh Ot_105b_rows.out)
                    have Dp_153_t_120a := Lib.hid (apart_fresh Ot_120a.out)
                    have Dp_153_t_130a := Lib.hid (apart_fresh Ot_130a.out)
                    have Dp_153_t_147a_rows := Lib.hid (apart_fresh Ot_147a_rows.out)
                    have Dp_153_t_147b_rows := Lib.hid (apart_fresh Ot_147b_rows.out)
                    have Dp_153_b_9 := Lib.hid (apart_box kb_9_0__63)
                    have Dp_153_y_111 := Lib.hid (apart_box ky_111_0)
                    have HBw_p_153 := Lib.hid (Below.step HBwt_147.out bw_p_153)
                    have kb_9_0__64 := cell_below bw_p_153 kb_9_0__63
                    have ky_111_0__65 := cell_below bw_p_153 ky_111_0
                    replace Ot_5a := Lib.hid (own_below Ot_5a.out bw_p_153)
                    replace Ot_5b_rows := Lib.hid (own_below Ot_5b_rows.out bw_p_153)
                    replace Ot_14a := Lib.hid (own_below Ot_14a.out bw_p_153)
                    replace Ot_22a := Lib.hid (own_below Ot_22a.out bw_p_153)
                    replace Ot_105a := Lib.hid (own_below Ot_105a.out bw_p_153)
                    replace Ot_105b_rows := Lib.hid (own_below Ot_105b_rows.out bw_p_153)
                    replace Ot_120a := Lib.hid (own_below Ot_120a.out bw_p_153)
                    replace Ot_130a := Lib.hid (own_below Ot_130a.out bw_p_153)
                    replace Ot_147a_rows := Lib.hid (own_below Ot_147a_rows.out bw_p_153)
                    replace Ot_147b_rows := Lib.hid (own_below Ot_147b_rows.out bw_p_153)
                    clear bw_p_153
                    have kp_153_0 : w_p_153.cell? ⟨wt_147.heap.size, 0, none⟩ = some (.slice none 0 0) := by rw [← hw_p_153]; exact box_new _ _ _ 0 _ rfl
                    have Op_153 : Hid (w_p_153.ownsRow w.heap.size 26 1 (.slice (some ⟨wt_147.heap.size, 0, none⟩) 1 1) 1 [.slice none 0 0]) := Lib.hid (by rw [← hw_p_153]; exact own_laid (n := 1) HBwt_147.out.size rfl rfl (by unfold maxLen; omega))
                    obtain ⟨w_q_154, hw_q_154⟩ : ∃ x, w_p_153.alloc (.cells #[.slice none 0 0] 26) = x := ⟨_, rfl⟩
                    have bw_q_154 : Below w_p_153.heap.size w_p_153 w_q_154 := by rw [← hw_q_154]; exact (Below.refl _ _).alloc (Nat.le_refl _) _
                    have Dq_154_t_5a := Lib.hid (apart_fresh Ot_5a.out)
                    have Dq_154_t_5b_rows := Lib.hid (apart_fresh Ot_5b_rows.out)
                    have Dq_154_t_14a := Lib.hid (apart_fresh Ot_14a.out)
                    have Dq_154_t_22a := Lib.hid (apart_fresh Ot_22a.out)
                    have Dq_154_t_105a := Lib.hid (apart_fresh Ot_105a.out)
                    have Dq_154_t_105b_rows := Lib.hid (apart_fresh Ot_105b_rows.out)
                    have Dq_154_t_120a := Lib.hid (apart_fresh Ot_120a.out)
                    have Dq_154_t_130a := Lib.hid (apart_fresh Ot_130a.out)
                    have Dq_154_t_147a_rows := Lib.hid (apart_fresh Ot_147a_rows.out)
                    have Dq_154_t_147b_rows := Lib.hid (apart_fresh Ot_147b_rows.out)
                    have Dq_154_b_9 := Lib.hid (apart_box kb_9_0__64)
                    have Dq_154_y_111 := Lib.hid (apart_box ky_111_0__65)
                    have Dq_154_p_153 := Lib.hid (apart_box kp_153_0)
                    have HBw_q_154 := Lib.hid (Below.step HBw_p_153.out bw_q_154)
                    have kb_9_0__66 := cell_below bw_q_154 kb_9_0__64
                    have ky_111_0__67 := cell_below bw_q_154 ky_111_0__65
                    have kp_153_0__68 := cell_below bw_q_154 kp_153_0
                    replace Ot_5a := Lib.hid (own_below Ot_5a.out bw_q_154)
                    replace Ot_5b_rows := Lib.hid (own_below Ot_5b_rows.out bw_q_154)
                    replace Ot_14a := Lib.hid (own_below Ot_14a.out bw_q_154)
                    replace Ot_22a := Lib.hid (own_below Ot_22a.out bw_q_154)
                    replace Ot_105a := Lib.hid (own_below Ot_105a.out bw_q_154)
                    replace Ot_105b_rows := Lib.hid (own_below Ot_105b_rows.out bw_q_154)
                    replace Ot_120a := Lib.hid (own_below Ot_120a.out bw_q_154)
                    replace Ot_130a := Lib.hid (own_below Ot_130a.out bw_q_154)
                    replace Ot_147a_rows := Lib.hid (own_below Ot_147a_rows.out bw_q_154)
                    replace Ot_147b_rows := Lib.hid (own_below Ot_147b_rows.out bw_q_154)
                    replace Op_153 := Lib.hid (own_below Op_153.out bw_q_154)
                    clear bw_q_154
                    have kq_154_0 : w_q_154.cell? ⟨w_p_153.heap.size, 0, none⟩ = some (.slice none 0 0) := by rw [← hw_q_154]; exact box_new _ _ _ 0 _ rfl
                    have Oq_154 : Hid (w_q_154.ownsRow w.heap.size 26 1 (.slice (some ⟨w_p_153.heap.size, 0, none⟩) 1 1) 1 [.slice none 0 0]) := Lib.hid (by rw [← hw_q_154]; exact own_laid (n := 1) HBw_p_153.out.size rfl rfl (by unfold maxLen; omega))
                    obtain ⟨wb155_155, hwb155_155⟩ : ∃ x, (w_q_154).setCell ⟨wt_147.heap.size, 0, none⟩ (.slice At_147a_rows t_147a_rows.length ct_147a_rows) = x := ⟨_, rfl⟩
                    have z0b155_155 := Op_153.out.frozenAt 0
                    have Sb155_155 := Lib.hid (own_stores [(0, .slice At_147a_rows t_147a_rows.length ct_147a_rows)] Op_153.out)
                    have Pb155_155 : Hid (wb155_155.ownsRow w.heap.size 26 1 (.slice (some ⟨wt_147.heap.size, 0, none⟩) 1 1) 1 [.slice At_147a_rows t_147a_rows.length ct_147a_rows]) := Lib.hid (by rw [← hwb155_155]; exact Sb155_155.out.1)
                    have Gb155_155 : Hid (w_q_154.grownBy wb155_155 (Value.slice (some ⟨wt_147.heap.size, 0, none⟩) 1 1).ownBlock) := Lib.hid (by rw [← hwb155_155]; exact Sb155_155.out.2)
                    have HBwb155_155 := Lib.hid (HBw_q_154.out.grown Gb155_155.out HBw_q_154.out.size (fun q hq => (Op_153.out.lt q hq).1))
                    clear Sb155_155
                    have kb_9_0__69 := cell_other kb_9_0__66 Gb155_155.out Dp_153_b_9.out
                    have ky_111_0__70 := cell_other ky_111_0__67 Gb155_155.out Dp_153_y_111.out
                    have kq_154_0__71 := cell_other kq_154_0 Gb155_155.out (Apart.symm Dq_154_p_153.out)
                    replace Oq_154 := Lib.hid (own_other Oq_154.out Gb155_155.out (Apart.symm Dq_154_p_153.out))
                    replace Ot_5a := Lib.hid (own_other Ot_5a.out Gb155_155.out Dp_153_t_5a.out)
                    replace Ot_5b_rows := Lib.hid (own_other Ot_5b_rows.out Gb155_155.out Dp_153_t_5b_rows.out)
                    replace Ot_14a := Lib.hid (own_other Ot_14a.out Gb155_155.out Dp_153_t_14a.out)
                    replace Ot_22a := Lib.hid (own_other Ot_22a.out Gb155_155.out Dp_153_t_22a.out)
                    replace Ot_105a := Lib.hid (own_other Ot_105a.out Gb155_155.out Dp_153_t_105a.out)
                    replace Ot_105b_rows := Lib.hid (own_other Ot_105b_rows.out Gb155_155.out Dp_153_t_105b_rows.out)
                    replace Ot_120a := Lib.hid (own_other Ot_120a.out Gb155_155.out Dp_153_t_120a.out)
                    replace Ot_130a := Lib.hid (own_other Ot_130a.out Gb155_155.out Dp_153_t_130a.out)
                    replace Ot_147a_rows := Lib.hid (own_other Ot_147a_rows.out Gb155_155.out Dp_153_t_147a_rows.out)
                    replace Ot_147b_rows := Lib.hid (own_other Ot_147b_rows.out Gb155_155.out Dp_153_t_147b_rows.out)
                    clear Op_153 Gb155_155
                    have kp_153_0__72 : wb155_155.cell? ⟨wt_147.heap.size, 0, none⟩ = some (.slice At_147a_rows t_147a_rows.length ct_147a_rows) := Pb155_155.out.cells rfl 0 _ rfl
                    obtain ⟨wb156_156, hwb156_156⟩ : ∃ x, (wb155_155).setCell ⟨w_p_153.heap.size, 0, none⟩ (.slice At_147b_rows t_147b_rows.length ct_147b_rows) = x := ⟨_, rfl⟩
                    have z0b156_156 := Oq_154.out.frozenAt 0
                    have Sb156_156 := Lib.hid (own_stores [(0, .slice At_147b_rows t_147b_rows.length ct_147b_rows)] Oq_154.out)
                    have Pb156_156 : Hid (wb156_156.ownsRow w.heap.size 26 1 (.slice (some ⟨w_p_153.heap.size, 0, none⟩) 1 1) 1 [.slice At_147b_rows t_147b_rows.length ct_147b_rows]) := Lib.hid (by rw [← hwb156_156]; exact Sb156_156.out.1)
                    have Gb156_156 : Hid (wb155_155.grownBy wb156_156 (Value.slice (some ⟨w_p_153.heap.size, 0, none⟩) 1 1).ownBlock) := Lib.hid (by rw [← hwb156_156]; exact Sb156_156.out.2)
                    have HBwb156_156 := Lib.hid (HBwb155_155.out.grown Gb156_156.out HBwb155_155.out.size (fun q hq => (Oq_154.out.lt q hq).1))
                    clear Sb156_156
                    have kb_9_0__73 := cell_other kb_9_0__69 Gb156_156.out Dq_154_b_9.out
                    have ky_111_0__74 := cell_other ky_111_0__70 Gb156_156.out Dq_154_y_111.out
                    have kp_153_0__75 := cell_other kp_153_0__72 Gb156_156.out Dq_154_p_153.out
                    replace Pb155_155 := Lib.hid (own_other Pb155_155.out Gb156_156.out Dq_154_p_153.out)
                    replace Ot_5a := Lib.hid (own_other Ot_5a.out Gb156_156.out Dq_154_t_5a.out)
                    replace Ot_5b_rows := Lib.hid (own_other Ot_5b_rows.out Gb156_156.out Dq_154_t_5b_rows.out)
                    replace Ot_14a := Lib.hid (own_other Ot_14a.out Gb156_156.out Dq_154_t_14a.out)
                    replace Ot_22a := Lib.hid (own_other Ot_22a.out Gb156_156.out Dq_154_t_22a.out)
                    replace Ot_105a := Lib.hid (own_other Ot_105a.out Gb156_156.out Dq_154_t_105a.out)
                    replace Ot_105b_rows := Lib.hid (own_other Ot_105b_rows.out Gb156_156.out Dq_154_t_105b_rows.out)
                    replace Ot_120a := Lib.hid (own_other Ot_120a.out Gb156_156.out Dq_154_t_120a.out)
                    replace Ot_130a := Lib.hid (own_other Ot_130a.out Gb156_156.out Dq_154_t_130a.out)
                    replace Ot_147a_rows := Lib.hid (own_other Ot_147a_rows.out Gb156_156.out Dq_154_t_147a_rows.out)
                    replace Ot_147b_rows := Lib.hid (own_other Ot_147b_rows.out Gb156_156.out Dq_154_t_147b_rows.out)
                    clear Oq_154 Gb156_156
                    have kq_154_0__76 : wb156_156.cell? ⟨w_p_153.heap.size, 0, none⟩ = some (.slice At_147b_rows t_147b_rows.length ct_147b_rows) := Pb156_156.out.cells rfl 0 _ rfl
                    replace H := bind2_hid H
                    obtain ⟨t_163a, t_163b, qt_163, H⟩ := H
                    go_wp2_with fail
                    clear kb_9_0__63 ky_111_0 kb_9_0__64 ky_111_0__65 kp_153_0 z0b155_155 kb_9_0__66 ky_111_0__67 kq_154_0 kp_153_0__68 z0b156_156 kb_9_0__69 ky_111_0__70 kp_153_0__72 kq_154_0__71
                    go_at_call 23
                    refine (Go.Proofs.Ytaepibmmpdfjcaa.GiDoAgree.C (t_147a_rows) (t_147b_rows) (t_147c) (t_147d) At_147a_rows ct_147a_rows At_147b_rows ct_147b_rows _   (Lib.hid (own_cells Ot_147a_rows.out)) (Lib.hid (own_max Ot_147a_rows.out)) (Lib.hid (own_cells Ot_147b_rows.out)) (Lib.hid (own_max Ot_147b_rows.out)) qt_163).mono ?_
                    rintro e_t_163 wt_163 ⟨rfl, bt_163⟩
                    have HBwt_163 := Lib.hid (Below.step HBwb156_156.out bt_163)
                    replace kb_9_0__73 := cell_below bt_163 kb_9_0__73
                    replace ky_111_0__74 := cell_below bt_163 ky_111_0__74
                    replace kp_153_0__75 := cell_below bt_163 kp_153_0__75
                    replace kq_154_0__76 := cell_below bt_163 kq_154_0__76
                    replace Ot_5a := Lib.hid (own_below Ot_5a.out bt_163)
                    replace Ot_5b_rows := Lib.hid (own_below Ot_5b_rows.out bt_163)
                    replace Ot_14a := Lib.hid (own_below Ot_14a.out bt_163)
                    replace Ot_22a := Lib.hid (own_below Ot_22a.out bt_163)
                    replace Ot_105a := Lib.hid (own_below Ot_105a.out bt_163)
                    replace Ot_105b_rows := Lib.hid (own_below Ot_105b_rows.out bt_163)
                    replace Ot_120a := Lib.hid (own_below Ot_120a.out bt_163)
                    replace Ot_130a := Lib.hid (own_below Ot_130a.out bt_163)
                    replace Ot_147a_rows := Lib.hid (own_below Ot_147a_rows.out bt_163)
                    replace Ot_147b_rows := Lib.hid (own_below Ot_147b_rows.out bt_163)
                    replace Pb155_155 := Lib.hid (own_below Pb155_155.out bt_163)
                    replace Pb156_156 := Lib.hid (own_below Pb156_156.out bt_163)
                    clear bt_163
                    replace H := let_hid H
                    obtain ⟨t_172, ht_172, H⟩ := H
                    replace H := let_hid H
                    obtain ⟨t_174, ht_174, H⟩ := H
                    replace H := bind2_hid H
                    obtain ⟨t_175a, t_175b, qt_175, H⟩ := H
                    go_wp2_with fail
                    go_at_call 23
                    refine (Go.Proofs.Ytaepibmmpdfjcaa.GiDoAgree.C (t_147b_rows) (t_147a_rows) (t_172) (t_174) At_147b_rows ct_147b_rows At_147a_rows ct_147a_rows _   (Lib.hid (own_cells Ot_147b_rows.out)) (Lib.hid (own_max Ot_147b_rows.out)) (Lib.hid (own_cells Ot_147a_rows.out)) (Lib.hid (own_max Ot_147a_rows.out)) qt_175).mono ?_
                    rintro e_t_175 wt_175 ⟨rfl, bt_175⟩
                    have HBwt_175 := Lib.hid (Below.step HBwt_163.out bt_175)
                    replace kb_9_0__73 := cell_below bt_175 kb_9_0__73
                    replace ky_111_0__74 := cell_below bt_175 ky_111_0__74
                    replace kp_153_0__75 := cell_below bt_175 kp_153_0__75
                    replace kq_154_0__76 := cell_below bt_175 kq_154_0__76
                    replace Ot_5a := Lib.hid (own_below Ot_5a.out bt_175)
                    replace Ot_5b_rows := Lib.hid (own_below Ot_5b_rows.out bt_175)
                    replace Ot_14a := Lib.hid (own_below Ot_14a.out bt_175)
                    replace Ot_22a := Lib.hid (own_below Ot_22a.out bt_175)
                    replace Ot_105a := Lib.hid (own_below Ot_105a.out bt_175)
                    replace Ot_105b_rows := Lib.hid (own_below Ot_105b_rows.out bt_175)
                    replace Ot_120a := Lib.hid (own_below Ot_120a.out bt_175)
                    replace Ot_130a := Lib.hid (own_below Ot_130a.out bt_175)
                    replace Ot_147a_rows := Lib.hid (own_below Ot_147a_rows.out bt_175)
                    replace Ot_147b_rows := Lib.hid (own_below Ot_147b_rows.out bt_175)
                    replace Pb155_155 := Lib.hid (own_below Pb155_155.out bt_175)
                    replace Pb156_156 := Lib.hid (own_below Pb156_156.out bt_175)
                    clear bt_175
                    replace H := bind2_hid H
                    obtain ⟨t_185a, t_185b, qt_185, H⟩ := H
                    go_wp2_with fail
                    go_at_call 24
                    refine (Go.Proofs.Ytaepibmmpdfjcaa.GsDoAgree.C fuel (t_147a_rows) (t_147b_rows) (t_147c) (t_147d) At_147a_rows ct_147a_rows At_147b_rows ct_147b_rows _   (Lib.hid (own_cells Ot_147a_rows.out)) (Lib.hid (own_max Ot_147a_rows.out)) (Lib.hid (own_cells Ot_147b_rows.out)) (Lib.hid (own_max Ot_147b_rows.out)) qt_185).mono ?_
                    rintro e_t_185 wt_185 ⟨rfl, bt_185⟩
                    have HBwt_185 := Lib.hid (Below.step HBwt_175.out bt_185)
                    replace kb_9_0__73 := cell_below bt_185 kb_9_0__73
                    replace ky_111_0__74 := cell_below bt_185 ky_111_0__74
                    replace kp_153_0__75 := cell_below bt_185 kp_153_0__75
                    replace kq_154_0__76 := cell_below bt_185 kq_154_0__76
                    replace Ot_5a := Lib.hid (own_below Ot_5a.out bt_185)
                    replace Ot_5b_rows := Lib.hid (own_below Ot_5b_rows.out bt_185)
                    replace Ot_14a := Lib.hid (own_below Ot_14a.out bt_185)
                    replace Ot_22a := Lib.hid (own_below Ot_22a.out bt_185)
                    replace Ot_105a := Lib.hid (own_below Ot_105a.out bt_185)
                    replace Ot_105b_rows := Lib.hid (own_below Ot_105b_rows.out bt_185)
                    replace Ot_120a := Lib.hid (own_below Ot_120a.out bt_185)
                    replace Ot_130a := Lib.hid (own_below Ot_130a.out bt_185)
                    replace Ot_147a_rows := Lib.hid (own_below Ot_147a_rows.out bt_185)
                    replace Ot_147b_rows := Lib.hid (own_below Ot_147b_rows.out bt_185)
                    replace Pb155_155 := Lib.hid (own_below Pb155_155.out bt_185)
                    replace Pb156_156 := Lib.hid (own_below Pb156_156.out bt_185)
                    clear bt_185
                    go_upto_region 25 with fail
                    go_cut [211] (fun v211_ wr => ∃ (t_211q3 : Bool), v211_ = .bool t_211q3 ∧ Hid (q3 code fuel tapes (t_211q3) = some r) ∧ Hid (Below w.heap.size w wr) ∧ wr.cell? ⟨wt_5.heap.size, 0, none⟩ = some (.slice At_5b_rows t_5b_rows.length ct_5b_rows) ∧ wr.cell? ⟨wt_105.heap.size, 0, none⟩ = some (.slice At_105b_rows t_105b_rows.length ct_105b_rows) ∧ wr.cell? ⟨wt_147.heap.size, 0, none⟩ = some (.slice At_147a_rows t_147a_rows.length ct_147a_rows) ∧ wr.cell? ⟨w_p_153.heap.size, 0, none⟩ = some (.slice At_147b_rows t_147b_rows.length ct_147b_rows) ∧ Hid (wr.ownsRow w.heap.size 26 1 (.slice (some ⟨wt_147.heap.size, 0, none⟩) 1 1) 1 [.slice At_147a_rows t_147a_rows.length ct_147a_rows]) ∧ Hid (wr.ownsRow w.heap.size 26 1 (.slice (some ⟨w_p_153.heap.size, 0, none⟩) 1 1) 1 [.slice At_147b_rows t_147b_rows.length ct_147b_rows]) ∧ Hid (wr.ownsRow w.heap.size 9 1 (.slice At_5a t_5a.length ct_5a) t_5a.length (t_5a.map Value.string)) ∧ Hid (wr.ownsRow w.heap.size 9 1 (.slice At_5b_rows t_5b_rows.length ct_5b_rows) t_5b_rows.length (t_5b_rows.map Value.string)) ∧ Hid (wr.ownsRow w.heap.size 37 2 (.slice At_14a t_14a.length ct_14a) t_14a.length (Go.Proofs.Ytaepibmmpdfjcaa.PIntA2.flat t_14a)) ∧ Hid (wr.ownsRow w.heap.size 37 2 (.slice At_22a t_22a.length ct_22a) t_22a.length (Go.Proofs.Ytaepibmmpdfjcaa.PIntA2.flat t_22a)) ∧ Hid (wr.ownsRow w.heap.size 9 1 (.slice At_105a t_105a.length ct_105a) t_105a.length (t_105a.map Value.string)) ∧ Hid (wr.ownsRow w.heap.size 9 1 (.slice At_105b_rows t_105b_rows.length ct_105b_rows) t_105b_rows.length (t_105b_rows.map Value.string)) ∧ Hid (wr.ownsRow w.heap.size 9 1 (.slice At_120a t_120a.length ct_120a) t_120a.length (t_120a.map Value.string)) ∧ Hid (wr.ownsRow w.heap.size 9 1 (.slice At_130a t_130a.length ct_130a) t_130a.length (t_130a.map Value.string)) ∧ Hid (wr.ownsRow w.heap.size 9 1 (.slice At_147a_rows t_147a_rows.length ct_147a_rows) t_147a_rows.length (t_147a_rows.map Value.string)) ∧ Hid (wr.ownsRow w.heap.size 9 1 (.slice At_147b_rows t_147b_rows.length ct_147b_rows) t_147b_rows.length (t_147b_rows.map Value.string)))
                    case first =>
                      as_aux_lemma =>
                        replace H := let_hid H
                        obtain ⟨t_193, ht_193, H⟩ := H
                        replace H := join_hid H
                        cases t_193 with
                        | false =>
                          replace H := ite_f H
                          replace H := let_hid H
                          obtain ⟨t_197, ht_197, H⟩ := H
                          replace H := app_hid H
                          replace H := join_hid H
                          cases t_197 with
                          | false =>
                            replace H := ite_f H
                            replace H := let_hid H
                            obtain ⟨t_202, ht_202, H⟩ := H
                            replace H := app_hid H
                            replace H := join_hid H
                            cases t_202 with
                            | false =>
                              replace H := ite_f H
                              replace H := let_hid H
                              obtain ⟨t_207, ht_207, H⟩ := H
                              replace H := app_hid H
                              go_wp2_with fail
                              go_meet
                              case rel => exact ⟨_, rfl, H, HBwt_185, kb_9_0__73, ky_111_0__74, kp_153_0__75, kq_154_0__76, Pb155_155, Pb156_156, Ot_5a, Ot_5b_rows, Ot_14a, Ot_22a, Ot_105a, Ot_105b_rows, Ot_120a, Ot_130a, Ot_147a_rows, Ot_147b_rows⟩
                            | true =>
                              replace H := ite_t H
                              replace H := app_hid H
                              go_wp2_with fail
                              go_meet
                              case rel => exact ⟨_, rfl, H, HBwt_185, kb_9_0__73, ky_111_0__74, kp_153_0__75, kq_154_0__76, Pb155_155, Pb156_156, Ot_5a, Ot_5b_rows, Ot_14a, Ot_22a, Ot_105a, Ot_105b_rows, Ot_120a, Ot_130a, Ot_147a_rows, Ot_147b_rows⟩
                          | true =>
                            replace H := ite_t H
                            replace H := app_hid H
                            replace H := join_hid H
                            replace H := ite_t H
                            replace H := app_hid H
                            go_wp2_with fail
                            go_meet
                            case rel => exact ⟨_, rfl, H, HBwt_185, kb_9_0__73, ky_111_0__74, kp_153_0__75, kq_154_0__76, Pb155_155, Pb156_156, Ot_5a, Ot_5b_rows, Ot_14a, Ot_22a, Ot_105a, Ot_105b_rows, Ot_120a, Ot_130a, Ot_147a_rows, Ot_147b_rows⟩
                        | true =>
                          replace H := ite_t H
                          replace H := app_hid H
                          replace H := join_hid H
                          replace H := ite_t H
                          replace H := app_hid H
                          replace H := join_hid H
                          replace H := ite_t H
                          replace H := app_hid H
                          go_wp2_with fail
                          go_meet
                          case rel => exact ⟨_, rfl, H, HBwt_185, kb_9_0__73, ky_111_0__74, kp_153_0__75, kq_154_0__76, Pb155_155, Pb156_156, Ot_5a, Ot_5b_rows, Ot_14a, Ot_22a, Ot_105a, Ot_105b_rows, Ot_120a, Ot_130a, Ot_147a_rows, Ot_147b_rows⟩
                    case rest =>
                      as_aux_lemma =>
                        obtain ⟨t_211q3, rfl, H, HBwq3, kb_9_0__73, ky_111_0__74, kp_153_0__75, kq_154_0__76, Pb155_155, Pb156_156, Ot_5a, Ot_5b_rows, Ot_14a, Ot_22a, Ot_105a, Ot_105b_rows, Ot_120a, Ot_130a, Ot_147a_rows, Ot_147b_rows⟩ := hcut
                        rename World => wq3
                        unfold q3 at H
                        replace H := let_hid H
                        obtain ⟨_, rfl, H⟩ := H
                        cases t_211q3 with
                        | false =>
                          replace H := ite_f H
                          replace H := bind_hid H
                          obtain ⟨t_211, qt_211, H⟩ := H
                          go_wp2_with fail
                          go_at_call 25
                          refine (Go.Proofs.Ytaepibmmpdfjcaa.GsDrawPointsOn.C fuel tapes (code) A0 c0 _  HE (Lib.hid (Cells.below M0.out HBwq3.out)) N0 V0 qt_211).mono ?_
                          rintro e_t_211 wt_211 ⟨At_211, ct_211, rfl, ot_211, bt_211⟩
                          have Dt_211_t_5a := Lib.hid (apart_call ot_211 Ot_5a.out)
                          have Dt_211_t_5b_rows := Lib.hid (apart_call ot_211 Ot_5b_rows.out)
                          have Dt_211_t_14a := Lib.hid (apart_call ot_211 Ot_14a.out)
                          have Dt_211_t_22a := Lib.hid (apart_call ot_211 Ot_22a.out)
                          have Dt_211_t_105a := Lib.hid (apart_call ot_211 Ot_105a.out)
                          have Dt_211_t_105b_rows := Lib.hid (apart_call ot_211 Ot_105b_rows.out)
                          have Dt_211_t_120a := Lib.hid (apart_call ot_211 Ot_120a.out)
                          have Dt_211_t_130a := Lib.hid (apart_call ot_211 Ot_130a.out)
                          have Dt_211_t_147a_rows := Lib.hid (apart_call ot_211 Ot_147a_rows.out)
                          have Dt_211_t_147b_rows := Lib.hid (apart_call ot_211 Ot_147b_rows.out)
                          have Dt_211_b_9 := Lib.hid (apart_callbox ot_211 kb_9_0__73)
                          have Dt_211_y_111 := Lib.hid (apart_callbox ot_211 ky_111_0__74)
                          have Dt_211_p_153 := Lib.hid (apart_callbox ot_211 kp_153_0__75)
                          have Dt_211_q_154 := Lib.hid (apart_callbox ot_211 kq_154_0__76)
                          have Ot_211 := Lib.hid (own_lower ot_211 HBwq3.out.size)
                          clear ot_211
                          have HBwt_211 := Lib.hid (Below.step HBwq3.out bt_211)
                          replace kb_9_0__73 := cell_below bt_211 kb_9_0__73
                          replace ky_111_0__74 := cell_below bt_211 ky_111_0__74
                          replace kp_153_0__75 := cell_below bt_211 kp_153_0__75
                          replace kq_154_0__76 := cell_below bt_211 kq_154_0__76
                          replace Ot_5a := Lib.hid (own_below Ot_5a.out bt_211)
                          replace Ot_5b_rows := Lib.hid (own_below Ot_5b_rows.out bt_211)
                          replace Ot_14a := Lib.hid (own_below Ot_14a.out bt_211)
                          replace Ot_22a := Lib.hid (own_below Ot_22a.out bt_211)
                          replace Ot_105a := Lib.hid (own_below Ot_105a.out bt_211)
                          replace Ot_105b_rows := Lib.hid (own_below Ot_105b_rows.out bt_211)
                          replace Ot_120a := Lib.hid (own_below Ot_120a.out bt_211)
                          replace Ot_130a := Lib.hid (own_below Ot_130a.out bt_211)
                          replace Ot_147a_rows := Lib.hid (own_below Ot_147a_rows.out bt_211)
                          replace Ot_147b_rows := Lib.hid (own_below Ot_147b_rows.out bt_211)
                          replace Pb155_155 := Lib.hid (own_below Pb155_155.out bt_211)
                          replace Pb156_156 := Lib.hid (own_below Pb156_156.out bt_211)
                          clear bt_211
                          replace H := bind2_hid H
                          obtain ⟨t_214a, t_214b, qt_214, H⟩ := H
                          go_wp2_with fail
                          go_at_call 18
                          refine (Go.Proofs.Ytaepibmmpdfjcaa.GiPointsOn.C (t_211) At_211 ct_211 _   (Lib.hid (own_cells Ot_211.out)) (Lib.hid (own_max Ot_211.out)) qt_214).mono ?_
                          rintro e_t_214 wt_214 ⟨rfl, bt_214⟩
                          have HBwt_214 := Lib.hid (Below.step HBwt_211.out bt_214)
                          replace kb_9_0__73 := cell_below bt_214 kb_9_0__73
                          replace ky_111_0__74 := cell_below bt_214 ky_111_0__74
                          replace kp_153_0__75 := cell_below bt_214 kp_153_0__75
                          replace kq_154_0__76 := cell_below bt_214 kq_154_0__76
                          replace Ot_5a := Lib.hid (own_below Ot_5a.out bt_214)
                          replace Ot_5b_rows := Lib.hid (own_below Ot_5b_rows.out bt_214)
                          replace Ot_14a := Lib.hid (own_below Ot_14a.out bt_214)
                          replace Ot_22a := Lib.hid (own_below Ot_22a.out bt_214)
                          replace Ot_105a := Lib.hid (own_below Ot_105a.out bt_214)
                          replace Ot_105b_rows := Lib.hid (own_below Ot_105b_rows.out bt_214)
                          replace Ot_120a := Lib.hid (own_below Ot_120a.out bt_214)
                          replace Ot_130a := Lib.hid (own_below Ot_130a.out bt_214)
                          replace Ot_147a_rows := Lib.hid (own_below Ot_147a_rows.out bt_214)
                          replace Ot_147b_rows := Lib.hid (own_below Ot_147b_rows.out bt_214)
                          replace Ot_211 := Lib.hid (own_below Ot_211.out bt_214)
                          replace Pb155_155 := Lib.hid (own_below Pb155_155.out bt_214)
                          replace Pb156_156 := Lib.hid (own_below Pb156_156.out bt_214)
                          clear bt_214
                          replace H := bind2_hid H
                          obtain ⟨t_221a, t_221b, qt_221, H⟩ := H
                          go_wp2_with fail
                          go_at_call 26
                          refine (Go.Proofs.Ytaepibmmpdfjcaa.GsPointsOn.C fuel (t_211) At_211 ct_211 _   (Lib.hid (own_cells Ot_211.out)) (Lib.hid (own_max Ot_211.out)) qt_221).mono ?_
                          rintro e_t_221 wt_221 ⟨rfl, bt_221⟩
                          have HBwt_221 := Lib.hid (Below.step HBwt_214.out bt_221)
                          replace kb_9_0__73 := cell_below bt_221 kb_9_0__73
                          replace ky_111_0__74 := cell_below bt_221 ky_111_0__74
                          replace kp_153_0__75 := cell_below bt_221 kp_153_0__75
                          replace kq_154_0__76 := cell_below bt_221 kq_154_0__76
                          replace Ot_5a := Lib.hid (own_below Ot_5a.out bt_221)
                          replace Ot_5b_rows := Lib.hid (own_below Ot_5b_rows.out bt_221)
                          replace Ot_14a := Lib.hid (own_below Ot_14a.out bt_221)
                          replace Ot_22a := Lib.hid (own_below Ot_22a.out bt_221)
                          replace Ot_105a := Lib.hid (own_below Ot_105a.out bt_221)
                          replace Ot_105b_rows := Lib.hid (own_below Ot_105b_rows.out bt_221)
                          replace Ot_120a := Lib.hid (own_below Ot_120a.out bt_221)
                          replace Ot_130a := Lib.hid (own_below Ot_130a.out bt_221)
                          replace Ot_147a_rows := Lib.hid (own_below Ot_147a_rows.out bt_221)
                          replace Ot_147b_rows := Lib.hid (own_below Ot_147b_rows.out bt_221)
                          replace Ot_211 := Lib.hid (own_below Ot_211.out bt_221)
                          replace Pb155_155 := Lib.hid (own_below Pb155_155.out bt_221)
                          replace Pb156_156 := Lib.hid (own_below Pb156_156.out bt_221)
                          clear bt_221
                          go_upto_region 30 with fail
                          go_cut [231] (fun v231_ wr => ∃ (t_231q4 : Bool), v231_ = .bool t_231q4 ∧ Hid (q4 code fuel tapes (t_231q4) = some r) ∧ Hid (Below w.heap.size w wr) ∧ wr.cell? ⟨wt_5.heap.size, 0, none⟩ = some (.slice At_5b_rows t_5b_rows.length ct_5b_rows) ∧ wr.cell? ⟨wt_105.heap.size, 0, none⟩ = some (.slice At_105b_rows t_105b_rows.length ct_105b_rows) ∧ wr.cell? ⟨wt_147.heap.size, 0, none⟩ = some (.slice At_147a_rows t_147a_rows.length ct_147a_rows) ∧ wr.cell? ⟨w_p_153.heap.size, 0, none⟩ = some (.slice At_147b_rows t_147b_rows.length ct_147b_rows) ∧ Hid (wr.ownsRow w.heap.size 26 1 (.slice (some ⟨wt_147.heap.size, 0, none⟩) 1 1) 1 [.slice At_147a_rows t_147a_rows.length ct_147a_rows]) ∧ Hid (wr.ownsRow w.heap.size 26 1 (.slice (some ⟨w_p_153.heap.size, 0, none⟩) 1 1) 1 [.slice At_147b_rows t_147b_rows.length ct_147b_rows]) ∧ Hid (wr.ownsRow w.heap.size 9 1 (.slice At_5a t_5a.length ct_5a) t_5a.length (t_5a.map Value.string)) ∧ Hid (wr.ownsRow w.heap.size 9 1 (.slice At_5b_rows t_5b_rows.length ct_5b_rows) t_5b_rows.length (t_5b_rows.map Value.string)) ∧ Hid (wr.ownsRow w.heap.size 37 2 (.slice At_14a t_14a.length ct_14a) t_14a.length (Go.Proofs.Ytaepibmmpdfjcaa.PIntA2.flat t_14a)) ∧ Hid (wr.ownsRow w.heap.size 37 2 (.slice At_22a t_22a.length ct_22a) t_22a.length (Go.Proofs.Ytaepibmmpdfjcaa.PIntA2.flat t_22a)) ∧ Hid (wr.ownsRow w.heap.size 9 1 (.slice At_105a t_105a.length ct_105a) t_105a.length (t_105a.map Value.string)) ∧ Hid (wr.ownsRow w.heap.size 9 1 (.slice At_105b_rows t_105b_rows.length ct_105b_rows) t_105b_rows.length (t_105b_rows.map Value.string)) ∧ Hid (wr.ownsRow w.heap.size 9 1 (.slice At_120a t_120a.length ct_120a) t_120a.length (t_120a.map Value.string)) ∧ Hid (wr.ownsRow w.heap.size 9 1 (.slice At_130a t_130a.length ct_130a) t_130a.length (t_130a.map Value.string)) ∧ Hid (wr.ownsRow w.heap.size 9 1 (.slice At_147a_rows t_147a_rows.length ct_147a_rows) t_147a_rows.length (t_147a_rows.map Value.string)) ∧ Hid (wr.ownsRow w.heap.size 9 1 (.slice At_147b_rows t_147b_rows.length ct_147b_rows) t_147b_rows.length (t_147b_rows.map Value.string)) ∧ Hid (wr.ownsRow w.heap.size 9 1 (.slice At_211 t_211.length ct_211) t_211.length (t_211.map Value.string)))
                          case first =>
                            as_aux_lemma =>
                              replace H := let_hid H
                              obtain ⟨t_229, ht_229, H⟩ := H
                              replace H := join_hid H
                              cases t_229 with
                              | false =>
                                replace H := ite_f H
                                replace H := let_hid H
                                obtain ⟨t_233, ht_233, H⟩ := H
                                replace H := app_hid H
                                go_wp2_with fail
                                go_meet
                                case rel => exact ⟨_, rfl, H, HBwt_221, kb_9_0__73, ky_111_0__74, kp_153_0__75, kq_154_0__76, Pb155_155, Pb156_156, Ot_5a, Ot_5b_rows, Ot_14a, Ot_22a, Ot_105a, Ot_105b_rows, Ot_120a, Ot_130a, Ot_147a_rows, Ot_147b_rows, Ot_211⟩
                              | true =>
                                replace H := ite_t H
                                replace H := app_hid H
                                go_wp2_with fail
                                go_meet
                                case rel => exact ⟨_, rfl, H, HBwt_221, kb_9_0__73, ky_111_0__74, kp_153_0__75, kq_154_0__76, Pb155_155, Pb156_156, Ot_5a, Ot_5b_rows, Ot_14a, Ot_22a, Ot_105a, Ot_105b_rows, Ot_120a, Ot_130a, Ot_147a_rows, Ot_147b_rows, Ot_211⟩
                          case rest =>
                            as_aux_lemma =>
                              obtain ⟨t_231q4, rfl, H, HBwq4, kb_9_0__73, ky_111_0__74, kp_153_0__75, kq_154_0__76, Pb155_155, Pb156_156, Ot_5a, Ot_5b_rows, Ot_14a, Ot_22a, Ot_105a, Ot_105b_rows, Ot_120a, Ot_130a, Ot_147a_rows, Ot_147b_rows, Ot_211⟩ := hcut
                              rename World => wq4
                              unfold q4 at H
                              replace H := let_hid H
                              obtain ⟨_, rfl, H⟩ := H
                              cases t_231q4 with
                              | false =>
                                replace H := ite_f H
                                replace H := bind_hid H
                                obtain ⟨t_237, qt_237, H⟩ := H
                                obtain ⟨t_237_rows⟩ := t_237
                                replace H := unBlock_hid H
                                go_wp2_with fail
                                go_at_call 27
                                refine (Go.Proofs.Ytaepibmmpdfjcaa.GsDrawBlockText.C fuel tapes (code) A0 c0 _  HE (Lib.hid (Cells.below M0.out HBwq4.out)) N0 V0 qt_237).mono ?_
                                rintro e_t_237 wt_237 ⟨At_237_rows, ct_237_rows, rfl, ot_237_rows, bt_237⟩
                                have Dt_237_rows_t_5a := Lib.hid (apart_call ot_237_rows Ot_5a.out)
                                have Dt_237_rows_t_5b_rows := Lib.hid (apart_call ot_237_rows Ot_5b_rows.out)
                                have Dt_237_rows_t_14a := Lib.hid (apart_call ot_237_rows Ot_14a.out)
                                have Dt_237_rows_t_22a := Lib.hid (apart_call ot_237_rows Ot_22a.out)
                                have Dt_237_rows_t_105a := Lib.hid (apart_call ot_237_rows Ot_105a.out)
                                have Dt_237_rows_t_105b_rows := Lib.hid (apart_call ot_237_rows Ot_105b_rows.out)
                                have Dt_237_rows_t_120a := Lib.hid (apart_call ot_237_rows Ot_120a.out)
                                have Dt_237_rows_t_130a := Lib.hid (apart_call ot_237_rows Ot_130a.out)
                                have Dt_237_rows_t_147a_rows := Lib.hid (apart_call ot_237_rows Ot_147a_rows.out)
                                have Dt_237_rows_t_147b_rows := Lib.hid (apart_call ot_237_rows Ot_147b_rows.out)
                                have Dt_237_rows_t_211 := Lib.hid (apart_call ot_237_rows Ot_211.out)
                                have Dt_237_rows_b_9 := Lib.hid (apart_callbox ot_237_rows kb_9_0__73)
                                have Dt_237_rows_y_111 := Lib.hid (apart_callbox ot_237_rows ky_111_0__74)
                                have Dt_237_rows_p_153 := Lib.hid (apart_callbox ot_237_rows kp_153_0__75)
                                have Dt_237_rows_q_154 := Lib.hid (apart_callbox ot_237_rows kq_154_0__76)
                                have Ot_237_rows := Lib.hid (own_lower ot_237_rows HBwq4.out.size)
                                clear ot_237_rows
                                have HBwt_237 := Lib.hid (Below.step HBwq4.out bt_237)
                                replace kb_9_0__73 := cell_below bt_237 kb_9_0__73
                                replace ky_111_0__74 := cell_below bt_237 ky_111_0__74
                                replace kp_153_0__75 := cell_below bt_237 kp_153_0__75
                                replace kq_154_0__76 := cell_below bt_237 kq_154_0__76
                                replace Ot_5a := Lib.hid (own_below Ot_5a.out bt_237)
                                replace Ot_5b_rows := Lib.hid (own_below Ot_5b_rows.out bt_237)
                                replace Ot_14a := Lib.hid (own_below Ot_14a.out bt_237)
                                replace Ot_22a := Lib.hid (own_below Ot_22a.out bt_237)
                                replace Ot_105a := Lib.hid (own_below Ot_105a.out bt_237)
                                replace Ot_105b_rows := Lib.hid (own_below Ot_105b_rows.out bt_237)
                                replace Ot_120a := Lib.hid (own_below Ot_120a.out bt_237)
                                replace Ot_130a := Lib.hid (own_below Ot_130a.out bt_237)
                                replace Ot_147a_rows := Lib.hid (own_below Ot_147a_rows.out bt_237)
                                replace Ot_147b_rows := Lib.hid (own_below Ot_147b_rows.out bt_237)
                                replace Ot_211 := Lib.hid (own_below Ot_211.out bt_237)
                                replace Pb155_155 := Lib.hid (own_below Pb155_155.out bt_237)
                                replace Pb156_156 := Lib.hid (own_below Pb156_156.out bt_237)
                                clear bt_237
                                obtain ⟨w_u_238, hw_u_238⟩ : ∃ x, wt_237.alloc (.cells #[.slice At_237_rows t_237_rows.length ct_237_rows] 26) = x := ⟨_, rfl⟩
                                have bw_u_238 : Below wt_237.heap.size wt_237 w_u_238 := by rw [← hw_u_238]; exact (Below.refl _ _).alloc (Nat.le_refl _) _
                                have Du_238_t_5a := Lib.hid (apart_fresh Ot_5a.out)
                                have Du_238_t_5b_rows := Lib.hid (apart_fresh Ot_5b_rows.out)
                                have Du_238_t_14a := Lib.hid (apart_fresh Ot_14a.out)
                                have Du_238_t_22a := Lib.hid (apart_fresh Ot_22a.out)
                                have Du_238_t_105a := Lib.hid (apart_fresh Ot_105a.out)
                                have Du_238_t_105b_rows := Lib.hid (apart_fresh Ot_105b_rows.out)
                                have Du_238_t_120a := Lib.hid (apart_fresh Ot_120a.out)
                                have Du_238_t_130a := Lib.hid (apart_fresh Ot_130a.out)
                                have Du_238_t_147a_rows := Lib.hid (apart_fresh Ot_147a_rows.out)
                                have Du_238_t_147b_rows := Lib.hid (apart_fresh Ot_147b_rows.out)
                                have Du_238_t_211 := Lib.hid (apart_fresh Ot_211.out)
                                have Du_238_t_237_rows := Lib.hid (apart_fresh Ot_237_rows.out)
                                have Du_238_p_153 := Lib.hid (apart_box kp_153_0__75)
                                have Du_238_q_154 := Lib.hid (apart_box kq_154_0__76)
                                have HBw_u_238 := Lib.hid (Below.step HBwt_237.out bw_u_238)
                                have kb_9_0__77 := cell_below bw_u_238 kb_9_0__73
                                have ky_111_0__78 := cell_below bw_u_238 ky_111_0__74
                                have kp_153_0__79 := cell_below bw_u_238 kp_153_0__75
                                have kq_154_0__80 := cell_below bw_u_238 kq_154_0__76
                                replace Ot_5a := Lib.hid (own_below Ot_5a.out bw_u_238)
                                replace Ot_5b_rows := Lib.hid (own_below Ot_5b_rows.out bw_u_238)
                                replace Ot_14a := Lib.hid (own_below Ot_14a.out bw_u_238)
                                replace Ot_22a := Lib.hid (own_below Ot_22a.out bw_u_238)
                                replace Ot_105a := Lib.hid (own_below Ot_105a.out bw_u_238)
                                replace Ot_105b_rows := Lib.hid (own_below Ot_105b_rows.out bw_u_238)
                                replace Ot_120a := Lib.hid (own_below Ot_120a.out bw_u_238)
                                replace Ot_130a := Lib.hid (own_below Ot_130a.out bw_u_238)
                                replace Ot_147a_rows := Lib.hid (own_below Ot_147a_rows.out bw_u_238)
                                replace Ot_147b_rows := Lib.hid (own_below Ot_147b_rows.out bw_u_238)
                                replace Ot_211 := Lib.hid (own_below Ot_211.out bw_u_238)
                                replace Ot_237_rows := Lib.hid (own_below Ot_237_rows.out bw_u_238)
                                replace Pb155_155 := Lib.hid (own_below Pb155_155.out bw_u_238)
                                replace Pb156_156 := Lib.hid (own_below Pb156_156.out bw_u_238)
                                clear bw_u_238
                                have ku_238_0 : w_u_238.cell? ⟨wt_237.heap.size, 0, none⟩ = some (.slice At_237_rows t_237_rows.length ct_237_rows) := by rw [← hw_u_238]; exact box_new _ _ _ 0 _ rfl
                                replace H := bind2_hid H
                                obtain ⟨t_241a, t_241b, qt_241, H⟩ := H
                                go_wp2_with fail
                                clear kb_9_0__73 ky_111_0__74 kp_153_0__75 kq_154_0__76
                                go_at_call 28
                                refine (Go.Proofs.Ytaepibmmpdfjcaa.GiBlockText.C (t_237_rows) At_237_rows ct_237_rows _   (Lib.hid (own_cells Ot_237_rows.out)) (Lib.hid (own_max Ot_237_rows.out)) (Lib.hid (own_room Ot_237_rows.out)) qt_241).mono ?_
                                rintro e_t_241 wt_241 ⟨rfl, bt_241⟩
                                have HBwt_241 := Lib.hid (Below.step HBw_u_238.out bt_241)
                                replace kb_9_0__77 := cell_below bt_241 kb_9_0__77
                                replace ky_111_0__78 := cell_below bt_241 ky_111_0__78
                                replace kp_153_0__79 := cell_below bt_241 kp_153_0__79
                                replace kq_154_0__80 := cell_below bt_241 kq_154_0__80
                                replace ku_238_0 := cell_below bt_241 ku_238_0
                                replace Ot_5a := Lib.hid (own_below Ot_5a.out bt_241)
                                replace Ot_5b_rows := Lib.hid (own_below Ot_5b_rows.out bt_241)
                                replace Ot_14a := Lib.hid (own_below Ot_14a.out bt_241)
                                replace Ot_22a := Lib.hid (own_below Ot_22a.out bt_241)
                                replace Ot_105a := Lib.hid (own_below Ot_105a.out bt_241)
                                replace Ot_105b_rows := Lib.hid (own_below Ot_105b_rows.out bt_241)
                                replace Ot_120a := Lib.hid (own_below Ot_120a.out bt_241)
                                replace Ot_130a := Lib.hid (own_below Ot_130a.out bt_241)
                                replace Ot_147a_rows := Lib.hid (own_below Ot_147a_rows.out bt_241)
                                replace Ot_147b_rows := Lib.hid (own_below Ot_147b_rows.out bt_241)
                                replace Ot_211 := Lib.hid (own_below Ot_211.out bt_241)
                                replace Ot_237_rows := Lib.hid (own_below Ot_237_rows.out bt_241)
                                replace Pb155_155 := Lib.hid (own_below Pb155_155.out bt_241)
                                replace Pb156_156 := Lib.hid (own_below Pb156_156.out bt_241)
                                clear bt_241
                                replace H := bind2_hid H
                                obtain ⟨t_248a, t_248b, qt_248, H⟩ := H
                                go_wp2_with fail
                                go_at_call 29
                                refine (Go.Proofs.Ytaepibmmpdfjcaa.GsBlockText.C fuel (t_237_rows) At_237_rows ct_237_rows _   (Lib.hid (own_cells Ot_237_rows.out)) (Lib.hid (own_max Ot_237_rows.out)) qt_248).mono ?_
                                rintro e_t_248 wt_248 ⟨rfl, bt_248⟩
                                have HBwt_248 := Lib.hid (Below.step HBwt_241.out bt_248)
                                replace kb_9_0__77 := cell_below bt_248 kb_9_0__77
                                replace ky_111_0__78 := cell_below bt_248 ky_111_0__78
                                replace kp_153_0__79 := cell_below bt_248 kp_153_0__79
                                replace kq_154_0__80 := cell_below bt_248 kq_154_0__80
                                replace ku_238_0 := cell_below bt_248 ku_238_0
                                replace Ot_5a := Lib.hid (own_below Ot_5a.out bt_248)
                                replace Ot_5b_rows := Lib.hid (own_below Ot_5b_rows.out bt_248)
                                replace Ot_14a := Lib.hid (own_below Ot_14a.out bt_248)
                                replace Ot_22a := Lib.hid (own_below Ot_22a.out bt_248)
                                replace Ot_105a := Lib.hid (own_below Ot_105a.out bt_248)
                                replace Ot_105b_rows := Lib.hid (own_below Ot_105b_rows.out bt_248)
                                replace Ot_120a := Lib.hid (own_below Ot_120a.out bt_248)
                                replace Ot_130a := Lib.hid (own_below Ot_130a.out bt_248)
                                replace Ot_147a_rows := Lib.hid (own_below Ot_147a_rows.out bt_248)
                                replace Ot_147b_rows := Lib.hid (own_below Ot_147b_rows.out bt_248)
                                replace Ot_211 := Lib.hid (own_below Ot_211.out bt_248)
                                replace Ot_237_rows := Lib.hid (own_below Ot_237_rows.out bt_248)
                                replace Pb155_155 := Lib.hid (own_below Pb155_155.out bt_248)
                                replace Pb156_156 := Lib.hid (own_below Pb156_156.out bt_248)
                                clear bt_248
                                go_upto_region 35 with fail
                                go_cut [2] (fun v2_ wr => ∃ (t_2q5 : Bool), v2_ = .bool t_2q5 ∧ Hid (q5  (t_2q5) = some r) ∧ Hid (Below w.heap.size w wr) ∧ wr.cell? ⟨wt_5.heap.size, 0, none⟩ = some (.slice At_5b_rows t_5b_rows.length ct_5b_rows) ∧ wr.cell? ⟨wt_105.heap.size, 0, none⟩ = some (.slice At_105b_rows t_105b_rows.length ct_105b_rows) ∧ wr.cell? ⟨wt_147.heap.size, 0, none⟩ = some (.slice At_147a_rows t_147a_rows.length ct_147a_rows) ∧ wr.cell? ⟨w_p_153.heap.size, 0, none⟩ = some (.slice At_147b_rows t_147b_rows.length ct_147b_rows) ∧ wr.cell? ⟨wt_237.heap.size, 0, none⟩ = some (.slice At_237_rows t_237_rows.length ct_237_rows) ∧ Hid (wr.ownsRow w.heap.size 26 1 (.slice (some ⟨wt_147.heap.size, 0, none⟩) 1 1) 1 [.slice At_147a_rows t_147a_rows.length ct_147a_rows]) ∧ Hid (wr.ownsRow w.heap.size 26 1 (.slice (some ⟨w_p_153.heap.size, 0, none⟩) 1 1) 1 [.slice At_147b_rows t_147b_rows.length ct_147b_rows]) ∧ Hid (wr.ownsRow w.heap.size 9 1 (.slice At_5a t_5a.length ct_5a) t_5a.length (t_5a.map Value.string)) ∧ Hid (wr.ownsRow w.heap.size 9 1 (.slice At_5b_rows t_5b_rows.length ct_5b_rows) t_5b_rows.length (t_5b_rows.map Value.string)) ∧ Hid (wr.ownsRow w.heap.size 37 2 (.slice At_14a t_14a.length ct_14a) t_14a.length (Go.Proofs.Ytaepibmmpdfjcaa.PIntA2.flat t_14a)) ∧ Hid (wr.ownsRow w.heap.size 37 2 (.slice At_22a t_22a.length ct_22a) t_22a.length (Go.Proofs.Ytaepibmmpdfjcaa.PIntA2.flat t_22a)) ∧ Hid (wr.ownsRow w.heap.size 9 1 (.slice At_105a t_105a.length ct_105a) t_105a.length (t_105a.map Value.string)) ∧ Hid (wr.ownsRow w.heap.size 9 1 (.slice At_105b_rows t_105b_rows.length ct_105b_rows) t_105b_rows.length (t_105b_rows.map Value.string)) ∧ Hid (wr.ownsRow w.heap.size 9 1 (.slice At_120a t_120a.length ct_120a) t_120a.length (t_120a.map Value.string)) ∧ Hid (wr.ownsRow w.heap.size 9 1 (.slice At_130a t_130a.length ct_130a) t_130a.length (t_130a.map Value.string)) ∧ Hid (wr.ownsRow w.heap.size 9 1 (.slice At_147a_rows t_147a_rows.length ct_147a_rows) t_147a_rows.length (t_147a_rows.map Value.string)) ∧ Hid (wr.ownsRow w.heap.size 9 1 (.slice At_147b_rows t_147b_rows.length ct_147b_rows) t_147b_rows.length (t_147b_rows.map Value.string)) ∧ Hid (wr.ownsRow w.heap.size 9 1 (.slice At_211 t_211.length ct_211) t_211.length (t_211.map Value.string)) ∧ Hid (wr.ownsRow w.heap.size 9 1 (.slice At_237_rows t_237_rows.length ct_237_rows) t_237_rows.length (t_237_rows.map Value.string)))
                                case first =>
                                  as_aux_lemma =>
                                    replace H := let_hid H
                                    obtain ⟨t_256, ht_256, H⟩ := H
                                    replace H := join_hid H
                                    cases t_256 with
                                    | false =>
                                      replace H := ite_f H
                                      replace H := app_hid H
                                      go_wp2_with fail
                                      go_meet
                                      case rel => exact ⟨_, rfl, H, HBwt_248, kb_9_0__77, ky_111_0__78, kp_153_0__79, kq_154_0__80, ku_238_0, Pb155_155, Pb156_156, Ot_5a, Ot_5b_rows, Ot_14a, Ot_22a, Ot_105a, Ot_105b_rows, Ot_120a, Ot_130a, Ot_147a_rows, Ot_147b_rows, Ot_211, Ot_237_rows⟩
                                    | true =>
                                      replace H := ite_t H
                                      replace H := let_hid H
                                      obtain ⟨t_260, ht_260, H⟩ := H
                                      replace H := app_hid H
                                      go_wp2_with fail
                                      go_meet
                                      case rel => exact ⟨_, rfl, H, HBwt_248, kb_9_0__77, ky_111_0__78, kp_153_0__79, kq_154_0__80, ku_238_0, Pb155_155, Pb156_156, Ot_5a, Ot_5b_rows, Ot_14a, Ot_22a, Ot_105a, Ot_105b_rows, Ot_120a, Ot_130a, Ot_147a_rows, Ot_147b_rows, Ot_211, Ot_237_rows⟩
                                case rest =>
                                  as_aux_lemma =>
                                    obtain ⟨t_2q5, rfl, H, HBwq5, kb_9_0__77, ky_111_0__78, kp_153_0__79, kq_154_0__80, ku_238_0, Pb155_155, Pb156_156, Ot_5a, Ot_5b_rows, Ot_14a, Ot_22a, Ot_105a, Ot_105b_rows, Ot_120a, Ot_130a, Ot_147a_rows, Ot_147b_rows, Ot_211, Ot_237_rows⟩ := hcut
                                    rename World => wq5
                                    unfold q5 at H
                                    replace H := let_hid H
                                    obtain ⟨_, rfl, H⟩ := H
                                    obtain rfl := ret_hid H
                                    go_wp2_with fail
                                    go_ret
                                    exact ⟨rfl, HBwq5.out⟩
                              | true =>
                                replace H := ite_t H
                                obtain rfl := ret_hid H
                                go_wp2_with fail
                                go_ret
                                exact ⟨rfl, HBwq4.out⟩
                        | true =>
                          replace H := ite_t H
                          obtain rfl := ret_hid H
                          go_wp2_with fail
                          go_ret
                          exact ⟨rfl, HBwq3.out⟩
                  | true =>
                    replace H := ite_t H
                    obtain rfl := ret_hid H
                    go_wp2_with fail
                    go_ret
                    exact ⟨rfl, HBwq2.out⟩
            | succ m0 =>
              have hlt0 : k0 < t_14a.length := by omega
              have hc0 : decide ((k0 : Int) < ((t_14a.length : Nat) : Int)) = true := by simp; omega
              replace H := cnt_succ H
              unfold l0 at H
              go_wp2_with fail
              have bd11 : Below wr0.heap.size wr0 wr0.drew := (Below.refl _ _).drew
              have HBwr0.drew := Lib.hid (Below.step HBwr0.out bd11)
              replace kb_9_0 := cell_below bd11 kb_9_0
              replace Ot_5a := Lib.hid (own_below Ot_5a.out bd11)
              replace Ot_5b_rows := Lib.hid (own_below Ot_5b_rows.out bd11)
              replace Ot_14a := Lib.hid (own_below Ot_14a.out bd11)
              replace Ot_22a := Lib.hid (own_below Ot_22a.out bd11)
              clear bd11
              replace H := idx_hid H
              obtain ⟨nt_57, yt_57, et_57, lt_57, gt_57, H⟩ := H
              obtain rfl : k0 = nt_57 := by omega
              clear et_57
              obtain ⟨t_57_x0, t_57_x1⟩ := yt_57
              replace H := unIntA2_hid H
              replace H := idx_hid H
              obtain ⟨nt_62, yt_62, et_62, lt_62, gt_62, H⟩ := H
              obtain rfl : k0 = nt_62 := by omega
              clear et_62
              obtain rfl := Option.some.inj (gt_57.out.symm.trans gt_62.out)
              clear gt_62 lt_62
              replace H := unIntA2_hid H
              replace H := bind2_hid H
              obtain ⟨t_65a, t_65b, qt_65, H⟩ := H
              refine wp_region_held_drew (S := fun w' => w'.cell? ⟨wt_5.heap.size, 0, none⟩ = some (.slice At_5b_rows t_5b_rows.length ct_5b_rows) ∧ Hid (0 ≤ w'.heap.size)) (by kernel_rfl) ⟨kb_9_0, Lib.hid (Nat.zero_le _)⟩ (fun hHeld => ?_)
              refine wpAnyH_take (i := 0) (oi := _) (v := ?_) rfl (by kernel_rfl) (by kernel_rfl) (by kernel_rfl) (fun _ _ _ h => h) (Or.inl ⟨by rfl, ?_⟩) (by assumption) ?_
              rotate_left
              · intro w hSw
                (try dsimp only at hSw)
                (try simp only [List.getElem_toArray, List.getElem_cons_zero, List.getElem_cons_succ])
                go_simp
                (try with_reducible rfl)
              try simp only [Act.put, List.getElem_toArray, List.getElem_cons_zero, List.getElem_cons_succ, List.setIfInBounds_toArray, List.set_cons_zero, List.set_cons_succ]
              refine wpAnyH_take (i := 1) (oi := _) (v := ?_) rfl (by kernel_rfl) (by kernel_rfl) (by kernel_rfl) (fun _ _ _ h => h) (Or.inl ⟨by rfl, ?_⟩) (by assumption) ?_
              rotate_left
              · intro w hSw
                (try dsimp only at hSw)
                (try simp only [List.getElem_toArray, List.getElem_cons_zero, List.getElem_cons_succ])
                go_simp
                (try with_reducible rfl)
              try simp only [Act.put, List.getElem_toArray, List.getElem_cons_zero, List.getElem_cons_succ, List.setIfInBounds_toArray, List.set_cons_zero, List.set_cons_succ]
              refine wpAnyH_take (i := 2) (oi := _) (v := ?_) rfl (by kernel_rfl) (by kernel_rfl) (by kernel_rfl) (fun _ _ _ h => h) (Or.inl ⟨by rfl, ?_⟩) (by assumption) ?_
              rotate_left
              · intro w hSw
                (try dsimp only at hSw)
                (try simp only [List.getElem_toArray, List.getElem_cons_zero, List.getElem_cons_succ])
                go_simp
                (try with_reducible rfl)
              try simp only [Act.put, List.getElem_toArray, List.getElem_cons_zero, List.getElem_cons_succ, List.setIfInBounds_toArray, List.set_cons_zero, List.set_cons_succ]
              refine wpAnyH_take (i := 3) (oi := _) (v := ?_) rfl (by kernel_rfl) (by kernel_rfl) (by kernel_rfl) (fun _ _ _ h => h) (Or.inl ⟨by rfl, ?_⟩) (by assumption) ?_
              rotate_left
              · intro w hSw
                (try dsimp only at hSw)
                (try simp only [List.getElem_toArray, List.getElem_cons_zero, List.getElem_cons_succ])
                go_simp
                (try with_reducible rfl)
              try simp only [Act.put, List.getElem_toArray, List.getElem_cons_zero, List.getElem_cons_succ, List.setIfInBounds_toArray, List.set_cons_zero, List.set_cons_succ]
              obtain ⟨qt_57, Qt_57⟩ := own_some Ot_14a.out (by omega)
              subst Qt_57
              obtain ⟨ab_t_57, ao_t_57, zt_57, At_57, z_t_57, ct_57_0, ct_57_1⟩ := Go.Proofs.Ytaepibmmpdfjcaa.OIntA2.at_ (own_cells Ot_14a.out) (k := k0) (by omega)
              obtain rfl := Option.some.inj (gt_57.out.symm.trans z_t_57)
              simp only [Option.some.injEq, Addr.mk.injEq] at At_57
              obtain ⟨rfl, rfl, _⟩ := At_57
              clear z_t_57
              simp only [Nat.zero_add] at ct_57_0 ct_57_1
              have b0t_57 : (0 : Int) ≤ (k0 : Int) := by omega
              have b1t_57 : (k0 : Int) < ((t_14a.length : Nat) : Int) := by omega
              have b2t_57 : ((k0 : Int)).toNat = k0 := by omega
              refine wpAnyH_take (i := 4) (oi := _) (v := ?_) rfl (by kernel_rfl) (by kernel_rfl) (by kernel_rfl) (fun _ _ _ h => h) (Or.inl ⟨by rfl, ?_⟩) (by assumption) ?_
              rotate_left
              · intro w hSw
                (try dsimp only at hSw)
                (try simp only [List.getElem_toArray, List.getElem_cons_zero, List.getElem_cons_succ])
                go_simp
                (try with_reducible rfl)
              try simp only [Act.put, List.getElem_toArray, List.getElem_cons_zero, List.getElem_cons_succ, List.setIfInBounds_toArray, List.set_cons_zero, List.set_cons_succ]
              refine wpAnyH_take (i := 5) (oi := _) (v := ?_) rfl (by kernel_rfl) (by kernel_rfl) (by kernel_rfl) (fun _ _ _ h => h) (Or.inl ⟨by rfl, ?_⟩) (by assumption) ?_
              rotate_left
              · intro w hSw
                (try dsimp only at hSw)
                (try simp only [List.getElem_toArray, List.getElem_cons_zero, List.getElem_cons_succ])
                go_simp
                (try with_reducible rfl)
              try simp only [Act.put, List.getElem_toArray, List.getElem_cons_zero, List.getElem_cons_succ, List.setIfInBounds_toArray, List.set_cons_zero, List.set_cons_succ]
              refine Go.Proofs.Ytaepibmmpdfjcaa.GoR.wpAnyH_more (S' := fun w' => w'.cell? ⟨wt_5.heap.size, 0, none⟩ = some (.slice At_5b_rows t_5b_rows.length ct_5b_rows) ∧ w'.cell? ⟨qt_57, k0 * 2, none⟩ = some (.int .i64 t_57_x0) ∧ w'.cell? ⟨qt_57, k0 * 2 + 1, none⟩ = some (.int .i64 t_57_x1) ∧ Hid (0 ≤ w'.heap.size)) (fun w' hS_ => ?_) _ _ _ _ ?_
              · go_split_ands; (repeat' apply And.intro) <;> first | assumption | exact Lib.hid (Nat.zero_le _)
              have hHeld : (fun w' => w'.cell? ⟨wt_5.heap.size, 0, none⟩ = some (.slice At_5b_rows t_5b_rows.length ct_5b_rows) ∧ w'.cell? ⟨qt_57, k0 * 2, none⟩ = some (.int .i64 t_57_x0) ∧ w'.cell? ⟨qt_57, k0 * 2 + 1, none⟩ = some (.int .i64 t_57_x1) ∧ Hid (0 ≤ w'.heap.size)) wr0.drew := ⟨kb_9_0, ct_57_0, ct_57_1, Lib.hid (Nat.zero_le _)⟩
              refine wpAnyH_take (i := 6) (oi := _) (v := ?_) rfl (by kernel_rfl) (by kernel_rfl) (by kernel_rfl) (fun _ _ _ h => h) (Or.inl ⟨by rfl, ?_⟩) (by assumption) ?_
              rotate_left
              · intro w hSw
                (try dsimp only at hSw)
                (try simp only [List.getElem_toArray, List.getElem_cons_zero, List.getElem_cons_succ])
                go_simp
                (try with_reducible rfl)
              try simp only [Act.put, List.getElem_toArray, List.getElem_cons_zero, List.getElem_cons_succ, List.setIfInBounds_toArray, List.set_cons_zero, List.set_cons_succ]
              refine wpAnyH_take (i := 7) (oi := _) (v := ?_) rfl (by kernel_rfl) (by kernel_rfl) (by kernel_rfl) (fun _ _ _ h => h) (Or.inl ⟨by rfl, ?_⟩) (by assumption) ?_
              rotate_left
              · intro w hSw
                (try dsimp only at hSw)
                (try simp only [List.getElem_toArray, List.getElem_cons_zero, List.getElem_cons_succ])
                go_simp
                (try with_reducible rfl)
              try simp only [Act.put, List.getElem_toArray, List.getElem_cons_zero, List.getElem_cons_succ, List.setIfInBounds_toArray, List.set_cons_zero, List.set_cons_succ]
              refine wpAnyH_take (i := 8) (oi := _) (v := ?_) rfl (by kernel_rfl) (by kernel_rfl) (by kernel_rfl) (fun _ _ _ h => h) (Or.inl ⟨by rfl, ?_⟩) (by assumption) ?_
              rotate_left
              · intro w hSw
                (try dsimp only at hSw)
                (try simp only [List.getElem_toArray, List.getElem_cons_zero, List.getElem_cons_succ])
                go_simp
                (try with_reducible rfl)
              try simp only [Act.put, List.getElem_toArray, List.getElem_cons_zero, List.getElem_cons_succ, List.setIfInBounds_toArray, List.set_cons_zero, List.set_cons_succ]
              refine wpAnyH_take (i := 9) (oi := _) (v := ?_) rfl (by kernel_rfl) (by kernel_rfl) (by kernel_rfl) (fun _ _ _ h => h) (Or.inl ⟨by rfl, ?_⟩) (by assumption) ?_
              rotate_left
              · intro w hSw
                (try dsimp only at hSw)
                (try simp only [List.getElem_toArray, List.getElem_cons_zero, List.getElem_cons_succ])
                go_simp
                (try with_reducible rfl)
              try simp only [Act.put, List.getElem_toArray, List.getElem_cons_zero, List.getElem_cons_succ, List.setIfInBounds_toArray, List.set_cons_zero, List.set_cons_succ]
              refine wpAnyH_take (i := 10) (oi := _) (v := ?_) rfl (by kernel_rfl) (by kernel_rfl) (by kernel_rfl) (fun _ _ _ h => h) (Or.inl ⟨by rfl, ?_⟩) (by assumption) ?_
              rotate_left
              · intro w hSw
                (try dsimp only at hSw)
                (try simp only [List.getElem_toArray, List.getElem_cons_zero, List.getElem_cons_succ])
                go_simp
                (try with_reducible rfl)
              try simp only [Act.put, List.getElem_toArray, List.getElem_cons_zero, List.getElem_cons_succ, List.setIfInBounds_toArray, List.set_cons_zero, List.set_cons_succ]
              refine wpAnyH_take (i := 11) (oi := _) (v := ?_) rfl (by kernel_rfl) (by kernel_rfl) (by kernel_rfl) (fun _ _ _ h => h) (Or.inl ⟨by rfl, ?_⟩) (by assumption) ?_
              rotate_left
              · intro w hSw
                (try dsimp only at hSw)
                (try simp only [List.getElem_toArray, List.getElem_cons_zero, List.getElem_cons_succ])
                go_simp
                (try with_reducible rfl)
              try simp only [Act.put, List.getElem_toArray, List.getElem_cons_zero, List.getElem_cons_succ, List.setIfInBounds_toArray, List.set_cons_zero, List.set_cons_succ]
              refine wpAnyH_ready (rs := [12]) (by kernel_rfl) (by simp) ?_
              refine AllReadyH.cons (o := _) rfl (fun K_ hK_ => ?_) AllReadyH.nil
              (try simp only [List.getElem_toArray, List.getElem_cons_zero, List.getElem_cons_succ])
              go_simp
              go_at_call 17
              with_reducible show Calls _ _ _ wr0.drew _
              refine (Go.Proofs.Ytaepibmmpdfjcaa.GiLayBlock.C (t_5a) (t_5b_rows) (t_57_x0) (t_57_x1) At_5a ct_5a At_5b_rows ct_5b_rows _   (Lib.hid (own_cells Ot_5a.out)) (Lib.hid (own_max Ot_5a.out)) (Lib.hid (own_room Ot_5a.out)) (Lib.hid (own_cells Ot_5b_rows.out)) (Lib.hid (own_max Ot_5b_rows.out)) (Lib.hid (own_room Ot_5b_rows.out)) qt_65).mono ?_
              rintro e_t_65 wt_65 ⟨At_65a, ct_65a, rfl, ot_65a, bt_65⟩
              have Dt_65a_t_5a := Lib.hid (apart_call ot_65a Ot_5a.out)
              have Dt_65a_t_5b_rows := Lib.hid (apart_call ot_65a Ot_5b_rows.out)
              have Dt_65a_t_14a := Lib.hid (apart_call ot_65a Ot_14a.out)
              have Dt_65a_t_22a := Lib.hid (apart_call ot_65a Ot_22a.out)
              have Dt_65a_b_9 := Lib.hid (apart_callbox ot_65a kb_9_0)
              have Ot_65a := Lib.hid (own_lower ot_65a HBwr0.drew.out.size)
              clear ot_65a
              have HBwt_65 := Lib.hid (Below.step HBwr0.drew.out bt_65)
              replace kb_9_0 := cell_below bt_65 kb_9_0
              replace ct_57_0 := cell_below bt_65 ct_57_0
              replace ct_57_1 := cell_below bt_65 ct_57_1
              replace Ot_5a := Lib.hid (own_below Ot_5a.out bt_65)
              replace Ot_5b_rows := Lib.hid (own_below Ot_5b_rows.out bt_65)
              replace Ot_14a := Lib.hid (own_below Ot_14a.out bt_65)
              replace Ot_22a := Lib.hid (own_below Ot_22a.out bt_65)
              clear bt_65
              clear qt_65
              first | refine hK_.out _ _ ⟨kb_9_0, ct_57_0, ct_57_1, Lib.hid (Nat.zero_le _)⟩ (fun hHeld => ?_) | (go_wp2_with fail; refine hK_.out _ _ ⟨kb_9_0, ct_57_0, ct_57_1, Lib.hid (Nat.zero_le _)⟩ (fun hHeld => ?_))
              clear hK_ K_
              try simp only [Act.put, List.getElem_toArray, List.getElem_cons_zero, List.getElem_cons_succ, List.setIfInBounds_toArray, List.set_cons_zero, List.set_cons_succ]
              refine wpAnyH_take (i := 13) (oi := _) (v := ?_) rfl (by kernel_rfl) (by kernel_rfl) (by kernel_rfl) (fun _ _ _ h => h) (Or.inl ⟨by rfl, ?_⟩) (by assumption) ?_
              rotate_left
              · intro w hSw
                (try dsimp only at hSw)
                (try simp only [List.getElem_toArray, List.getElem_cons_zero, List.getElem_cons_succ])
                go_simp
                (try with_reducible rfl)
              try simp only [Act.put, List.getElem_toArray, List.getElem_cons_zero, List.getElem_cons_succ, List.setIfInBounds_toArray, List.set_cons_zero, List.set_cons_succ]
              refine wpAnyH_take (i := 14) (oi := _) (v := ?_) rfl (by kernel_rfl) (by kernel_rfl) (by kernel_rfl) (fun _ _ _ h => h) (Or.inl ⟨by rfl, ?_⟩) (by assumption) ?_
              rotate_left
              · intro w hSw
                (try dsimp only at hSw)
                (try simp only [List.getElem_toArray, List.getElem_cons_zero, List.getElem_cons_succ])
                go_simp
                (try with_reducible rfl)
              try simp only [Act.put, List.getElem_toArray, List.getElem_cons_zero, List.getElem_cons_succ, List.setIfInBounds_toArray, List.set_cons_zero, List.set_cons_succ]
              refine wpAnyH_take (i := 15) (oi := _) (v := ?_) rfl (by kernel_rfl) (by kernel_rfl) (by kernel_rfl) (fun _ _ _ h => h) (Or.inl ⟨by rfl, ?_⟩) (by assumption) ?_
              rotate_left
              · intro w hSw
                (try dsimp only at hSw)
                (try simp only [List.getElem_toArray, List.getElem_cons_zero, List.getElem_cons_succ])
                go_simp
                (try with_reducible rfl)
              try simp only [Act.put, List.getElem_toArray, List.getElem_cons_zero, List.getElem_cons_succ, List.setIfInBounds_toArray, List.set_cons_zero, List.set_cons_succ]
              refine wpAnyH_take (i := 16) (oi := _) (v := ?_) rfl (by kernel_rfl) (by kernel_rfl) (by kernel_rfl) (fun _ _ _ h => h) (Or.inl ⟨by rfl, ?_⟩) (by assumption) ?_
              rotate_left
              · intro w hSw
                (try dsimp only at hSw)
                (try simp only [List.getElem_toArray, List.getElem_cons_zero, List.getElem_cons_succ])
                go_simp
                (try with_reducible rfl)
              try simp only [Act.put, List.getElem_toArray, List.getElem_cons_zero, List.getElem_cons_succ, List.setIfInBounds_toArray, List.set_cons_zero, List.set_cons_succ]
              refine wpAnyH_take (i := 17) (oi := _) (v := ?_) rfl (by kernel_rfl) (by kernel_rfl) (by kernel_rfl) (fun _ _ _ h => h) (Or.inl ⟨by rfl, ?_⟩) (by assumption) ?_
              rotate_left
              · intro w hSw
                (try dsimp only at hSw)
                (try simp only [List.getElem_toArray, List.getElem_cons_zero, List.getElem_cons_succ])
                go_simp
                (try with_reducible rfl)
              try simp only [Act.put, List.getElem_toArray, List.getElem_cons_zero, List.getElem_cons_succ, List.setIfInBounds_toArray, List.set_cons_zero, List.set_cons_succ]
              refine wpAnyH_done (by kernel_rfl) ?_ _
              replace H := bind2_hid H
              obtain ⟨t_72a, t_72b, qt_72, H⟩ := H
              go_wp2_with fail
              go_at_call 18
              refine (Go.Proofs.Ytaepibmmpdfjcaa.GiPointsOn.C (t_5a) At_5a ct_5a _   (Lib.hid (own_cells Ot_5a.out)) (Lib.hid (own_max Ot_5a.out)) qt_72).mono ?_
              rintro e_t_72 wt_72 ⟨rfl, bt_72⟩
              have HBwt_72 := Lib.hid (Below.step HBwt_65.out bt_72)
              replace kb_9_0 := cell_below bt_72 kb_9_0
              replace ct_57_0 := cell_below bt_72 ct_57_0
              replace ct_57_1 := cell_below bt_72 ct_57_1
              replace Ot_5a := Lib.hid (own_below Ot_5a.out bt_72)
              replace Ot_5b_rows := Lib.hid (own_below Ot_5b_rows.out bt_72)
              replace Ot_14a := Lib.hid (own_below Ot_14a.out bt_72)
              replace Ot_22a := Lib.hid (own_below Ot_22a.out bt_72)
              replace Ot_65a := Lib.hid (own_below Ot_65a.out bt_72)
              clear bt_72
              replace H := bind2_hid H
              obtain ⟨t_79a, t_79b, qt_79, H⟩ := H
              go_wp2_with fail
              go_at_call 18
              refine (Go.Proofs.Ytaepibmmpdfjcaa.GiPointsOn.C (t_65a) At_65a ct_65a _   (Lib.hid (own_cells Ot_65a.out)) (Lib.hid (own_max Ot_65a.out)) qt_79).mono ?_
              rintro e_t_79 wt_79 ⟨rfl, bt_79⟩
              have HBwt_79 := Lib.hid (Below.step HBwt_72.out bt_79)
              replace kb_9_0 := cell_below bt_79 kb_9_0
              replace ct_57_0 := cell_below bt_79 ct_57_0
              replace ct_57_1 := cell_below bt_79 ct_57_1
              replace Ot_5a := Lib.hid (own_below Ot_5a.out bt_79)
              replace Ot_5b_rows := Lib.hid (own_below Ot_5b_rows.out bt_79)
              replace Ot_14a := Lib.hid (own_below Ot_14a.out bt_79)
              replace Ot_22a := Lib.hid (own_below Ot_22a.out bt_79)
              replace Ot_65a := Lib.hid (own_below Ot_65a.out bt_79)
              clear bt_79
              go_upto_region 14 with fail
              go_cut [128] (fun v128_ wr => ∃ (t_128q1 : Bool), v128_ = .bool t_128q1 ∧ Hid (q1 (fun s' => cntK (l0 t_5a t_5b_rows t_14a) m0 (k0 + 1) s' (e0 code fuel tapes)) (t_128q1) = some r) ∧ Hid (Below w.heap.size w wr) ∧ wr.cell? ⟨wt_5.heap.size, 0, none⟩ = some (.slice At_5b_rows t_5b_rows.length ct_5b_rows) ∧ Hid (wr.ownsRow w.heap.size 9 1 (.slice At_5a t_5a.length ct_5a) t_5a.length (t_5a.map Value.string)) ∧ Hid (wr.ownsRow w.heap.size 9 1 (.slice At_5b_rows t_5b_rows.length ct_5b_rows) t_5b_rows.length (t_5b_rows.map Value.string)) ∧ Hid (wr.ownsRow w.heap.size 37 2 (.slice (some ⟨qt_57, 0, none⟩) t_14a.length ct_14a) t_14a.length (Go.Proofs.Ytaepibmmpdfjcaa.PIntA2.flat t_14a)) ∧ Hid (wr.ownsRow w.heap.size 37 2 (.slice At_22a t_22a.length ct_22a) t_22a.length (Go.Proofs.Ytaepibmmpdfjcaa.PIntA2.flat t_22a)) ∧ Hid (wr.ownsRow w.heap.size 9 1 (.slice At_65a t_65a.length ct_65a) t_65a.length (t_65a.map Value.string)))
              case first =>
                as_aux_lemma =>
                  cases t_65b with
                  | false =>
                    replace H := let_hid H
                    obtain ⟨t_86, ht_86, H⟩ := H
                    obtain rfl : t_86 = true := ht_86.symm
                    replace H := join_hid H
                    replace H := ite_t H
                    replace H := app_hid H
                    replace H := join_hid H
                    replace H := ite_t H
                    replace H := app_hid H
                    replace H := join_hid H
                    replace H := ite_t H
                    replace H := app_hid H
                    go_wp2_with fail
                    go_meet
                    case rel => exact ⟨_, rfl, H, HBwt_79, kb_9_0, Ot_5a, Ot_5b_rows, Ot_14a, Ot_22a, Ot_65a⟩
                  | true =>
                    replace H := let_hid H
                    obtain ⟨t_86, ht_86, H⟩ := H
                    obtain rfl : t_86 = false := ht_86.symm
                    replace H := join_hid H
                    replace H := ite_f H
                    cases t_72b with
                    | false =>
                      replace H := let_hid H
                      obtain ⟨t_89, ht_89, H⟩ := H
                      obtain rfl : t_89 = true := ht_89.symm
                      replace H := app_hid H
                      replace H := join_hid H
                      replace H := ite_t H
                      replace H := app_hid H
                      replace H := join_hid H
                      replace H := ite_t H
                      replace H := app_hid H
                      go_wp2_with fail
                      go_meet
                      case rel => exact ⟨_, rfl, H, HBwt_79, kb_9_0, Ot_5a, Ot_5b_rows, Ot_14a, Ot_22a, Ot_65a⟩
                    | true =>
                      replace H := let_hid H
                      obtain ⟨t_89, ht_89, H⟩ := H
                      obtain rfl : t_89 = false := ht_89.symm
                      replace H := app_hid H
                      replace H := join_hid H
                      replace H := ite_f H
                      cases t_79b with
                      | false =>
                        replace H := let_hid H
                        obtain ⟨t_93, ht_93, H⟩ := H
                        obtain rfl : t_93 = true := ht_93.symm
                        replace H := app_hid H
                        replace H := join_hid H
                        replace H := ite_t H
                        replace H := app_hid H
                        go_wp2_with fail
                        go_meet
                        case rel => exact ⟨_, rfl, H, HBwt_79, kb_9_0, Ot_5a, Ot_5b_rows, Ot_14a, Ot_22a, Ot_65a⟩
                      | true =>
                        replace H := let_hid H
                        obtain ⟨t_93, ht_93, H⟩ := H
                        obtain rfl : t_93 = false := ht_93.symm
                        replace H := app_hid H
                        replace H := join_hid H
                        replace H := ite_f H
                        replace H := let_hid H
                        obtain ⟨t_98, ht_98, H⟩ := H
                        replace H := app_hid H
                        go_wp2_with fail
                        go_meet
                        case rel => exact ⟨_, rfl, H, HBwt_79, kb_9_0, Ot_5a, Ot_5b_rows, Ot_14a, Ot_22a, Ot_65a⟩
              case rest =>
                as_aux_lemma =>
                  obtain ⟨t_128q1, rfl, H, HBwq1, kb_9_0, Ot_5a, Ot_5b_rows, Ot_14a, Ot_22a, Ot_65a⟩ := hcut
                  rename World => wq1
                  unfold q1 at H
                  replace H := let_hid H
                  obtain ⟨_, rfl, H⟩ := H
                  cases t_128q1 with
                  | false =>
                    replace H := ite_f H
                    replace H := app_hid H
                    go_wp2_with fail
                    go_roundg m0
                    case measure => omega
                    case rel => exact ⟨k0 + 1, by omega, by go_num, H, HBwq1, kb_9_0, Ot_5a, Ot_5b_rows, Ot_14a, Ot_22a⟩
                  | true =>
                    replace H := ite_t H
                    obtain rfl := ret_hid H
                    go_wp2_with fail
                    go_ret
                    exact ⟨rfl, HBwq1.out⟩
        | true =>
          replace H := ite_t H
          obtain rfl := ret_hid H
          go_wp2_with fail
          go_ret
          exact ⟨rfl, HBwq0.out⟩
  | true =>
    replace H := ite_t H
    obtain rfl := ret_hid H
    go_wp2_with fail
    go_ret
    exact ⟨rfl, HBwt_2.out⟩
end Go.Proofs.Ytaepibmmpdfjcaa.GlFnBlocks

