/- Texts on which the proofs of several laws stand, one behind the other (9 of 13). No condition of their own. -/
import Derived.Test.YtlljmgphgmklcaaChecked
import Derived.Test.YtlljmgphgmklcaaV10P1
import Derived.Test.YtlljmgphgmklcaaV10P2
import Derived.WalkKit
import Derived.WalkSpells
import Derived.WalkLawsBesides
import Derived.BigQuiet
import Derived.OwnWalk
import Derived.Deep.LoopGhost
import Derived.Deep.QuietTactic
import Derived.IntWalk
import Derived.Lib.QuietBelow
import Derived.Test.YtlljmgphgmklcaaV10P4
import Derived.Test.YtlljmgphgmklcaaV10P7
import Derived.Test.YtlljmgphgmklcaaV10P8
import Derived.Test.YtlljmgphgmklcaaV10P5
import Derived.Test.YtlljmgphgmklcaaV10P3
/- loop.example/g01062/laws.heldIntS as a plain function, and the contract of the program's: where the plain one has an answer, the program has it. Conditions: slices read as lists. -/
namespace Go.Proofs.Ytlljmgphgmklcaa.GlHeldIntS
set_option linter.unusedVariables false
set_option linter.unusedSimpArgs false
open Go.RowKit
open Go.Proofs.Ytlljmgphgmklcaa.Rowed Go.Proofs.Ytlljmgphgmklcaa.Turn Go.Proofs.Ytlljmgphgmklcaa.Aid Go.Proofs.Ytlljmgphgmklcaa.GoP Go.Proofs.Ytlljmgphgmklcaa.GoM

def l0 (a : (List Int)) (k0 : Nat) (s : Int) (nx0 bk0 : Int → Option (Int)) : Option (Int) :=
  letK s fun k_1l0 =>
  Option.bind (idx a (k0 : Int)) fun (yt_8 : Int) =>
  letK (yt_8 != k_1l0) fun (t_11 : Bool) =>
  iteK t_11
  (some (-1))
  (letK (IntKind.i64.wrap (k_1l0 + 1)) fun (t_14 : Int) =>
  appK nx0 (t_14))

def e0  (s : Int) : Option (Int) :=
  letK s fun k_1l0 =>
  some k_1l0

def P (a : (List Int)) (k_1 : Int) : Option (Int) :=
  cntK (l0 a) (a.length) 0 (k_1) (e0 )

set_option maxRecDepth 100000 in
set_option maxHeartbeats 2000000 in
theorem C (a : (List Int)) (k_1 : Int) (A0 : Option Addr) (c0 : Nat)  (w : World) (M0 : Hid (Cells w 1 A0 a.length (Go.Proofs.Ytlljmgphgmklcaa.HelpInt.iv a))) (N0 : Hid (a.length ≤ 9223372036854775807))  {r : Int} (H : Hid (P a k_1 = some r)) :
    Calls Try.prog 39 #[.slice A0 a.length c0, .int .i64 k_1] w (Gives (.int .i64 r) w) := by
  have HB := Lib.hid (Below.refl w.heap.size w)
  unfold P at H
  have N0o := N0.out
  go_enter Try.func39, Try.ntmps39
  go_wp2_with fail
  go_loopg [5, 1] (a.length) (fun m_ v5_ v1_ wr => ∃ (k0 : Nat) (k_1l0 : Int), k0 + m_ = a.length ∧ v5_ = .int .i64 (k0 : Int) ∧ v1_ = .int .i64 k_1l0 ∧ Hid (cntK (l0 a) m_ k0 (k_1l0) (e0 ) = some r) ∧ Hid (Below w.heap.size w wr))
  case atStart => exact ⟨0, _, by omega, rfl, rfl, H, HB⟩
  case round =>
    obtain ⟨k0, k_1l0, hkm0, rfl, rfl, H, HBwr0⟩ := hrel
    rename World => wr0
    cases gk with
    | zero =>
      obtain rfl : k0 = a.length := by omega
      have hc0 : decide (((a.length : Nat) : Int) < ((a.length : Nat) : Int)) = false := by simp
      replace H := cnt_zero H
      unfold e0 at H
      replace H := let_hid H
      obtain ⟨_, rfl, H⟩ := H
      obtain rfl := ret_hid H
      go_wp2_with fail
      go_ret
      exact ⟨rfl, HBwr0.out⟩
    | succ m0 =>
      have hlt0 : k0 < a.length := by omega
      have hc0 : decide ((k0 : Int) < ((a.length : Nat) : Int)) = true := by simp; omega
      replace H := cnt_succ H
      unfold l0 at H
      replace H := let_hid H
      obtain ⟨_, rfl, H⟩ := H
      replace H := idx_hid H
      obtain ⟨nt_8, yt_8, et_8, lt_8, gt_8, H⟩ := H
      obtain rfl : k0 = nt_8 := by omega
      clear et_8
      obtain ⟨ab_t_8, ao_t_8, zt_8, At_8, z_t_8, ct_8_0⟩ := Go.Proofs.Ytlljmgphgmklcaa.HelpInt.Ints.at_ M0.out lt_8
      obtain rfl := Option.some.inj (gt_8.out.symm.trans z_t_8)
      subst At_8
      have ltt_8 := cell_lt ct_8_0
      replace ct_8_0 := cell_below HBwr0.out ct_8_0
      clear z_t_8
      have b0t_8 : (0 : Int) ≤ (k0 : Int) := by omega
      have b1t_8 : (k0 : Int) < ((a.length : Nat) : Int) := by omega
      have b2t_8 : ((k0 : Int)).toNat = k0 := by omega
      replace H := let_hid H
      obtain ⟨t_11, ht_11, H⟩ := H
      cases t_11 with
      | false =>
        replace H := ite_f H
        replace H := let_hid H
        obtain ⟨t_14, ht_14, H⟩ := H
        replace H := app_hid H
        go_wp2_with fail
        go_roundg m0
        case measure => omega
        case rel => exact ⟨k0 + 1, _, by omega, by go_num, rfl, H, HBwr0⟩
      | true =>
        replace H := ite_t H
        obtain rfl := ret_hid H
        go_wp2_with fail
        go_ret
        exact ⟨rfl, HBwr0.out⟩
end Go.Proofs.Ytlljmgphgmklcaa.GlHeldIntS

/- loop.example/g01062/laws.FnExactCoversVia as a plain function, and the contract of the program's: where the plain one has an answer, the program has it. Conditions: slices read as lists. -/
namespace Go.Proofs.Ytlljmgphgmklcaa.GlFnExactCoversVia
set_option linter.unusedVariables false
set_option linter.unusedSimpArgs false
open Go.RowKit
open Go.Proofs.Ytlljmgphgmklcaa.Rowed Go.Proofs.Ytlljmgphgmklcaa.Turn Go.Proofs.Ytlljmgphgmklcaa.Aid Go.Proofs.Ytlljmgphgmklcaa.GoP Go.Proofs.Ytlljmgphgmklcaa.GoM

def P (fuel : Nat) (aMails : (List Go.Proofs.Ytlljmgphgmklcaa.PMail.Mail)) (aList : (List Go.Proofs.Ytlljmgphgmklcaa.PCover.Cover)) (aOffice : Int) : Option (Bool) :=
  Option.bind (Go.Proofs.Ytlljmgphgmklcaa.GlSzMailS.P aMails 1048576) fun (t_4 : Int) =>
  letK (decide (t_4 < 0)) fun (t_7 : Bool) =>
  iteK t_7
  (some true)
  (Option.bind (Go.Proofs.Ytlljmgphgmklcaa.GlSzCoverS.P aList t_4) fun (t_11 : Int) =>
  letK (decide (t_11 < 0)) fun (t_14 : Bool) =>
  iteK t_14
  (some true)
  (Option.bind (Go.Proofs.Ytlljmgphgmklcaa.GlToMailS.P aMails) fun (t_17 : (List Go.Proofs.Ytlljmgphgmklcaa.PMail.Mail)) =>
  Option.bind (Go.Proofs.Ytlljmgphgmklcaa.GlToCoverS.P aList) fun (t_19 : (List Go.Proofs.Ytlljmgphgmklcaa.PCover.Cover)) =>
  bind2 (Go.Proofs.Ytlljmgphgmklcaa.GsCoversVia.P fuel t_17 t_19 aOffice) fun (t_21a : (List Int)) (t_21b : Bool) =>
  Option.bind (Go.Proofs.Ytlljmgphgmklcaa.GlToMailS.P aMails) fun (t_28 : (List Go.Proofs.Ytlljmgphgmklcaa.PMail.Mail)) =>
  Option.bind (Go.Proofs.Ytlljmgphgmklcaa.GlToCoverS.P aList) fun (t_31 : (List Go.Proofs.Ytlljmgphgmklcaa.PCover.Cover)) =>
  bind2 (Go.Proofs.Ytlljmgphgmklcaa.GiCoversVia.P fuel t_28 t_31 aOffice) fun (t_36a : (List Int)) (t_36b : Bool) =>
  Option.bind (Go.Proofs.Ytlljmgphgmklcaa.GlEqIntS.P t_36a t_21a) fun (t_44 : Bool) =>
  letK (!t_44) fun (t_45 : Bool) =>
  joinK (fun (t_50 : Bool) =>
  iteK t_50
  (some false)
  (Option.bind (Go.Proofs.Ytlljmgphgmklcaa.GlToMailS.P aMails) fun (t_54 : (List Go.Proofs.Ytlljmgphgmklcaa.PMail.Mail)) =>
  Option.bind (Go.Proofs.Ytlljmgphgmklcaa.GlEqMailS.P t_28 t_54) fun (t_55 : Bool) =>
  letK (!t_55) fun (t_56 : Bool) =>
  iteK t_56
  (some false)
  (Option.bind (Go.Proofs.Ytlljmgphgmklcaa.GlToCoverS.P aList) fun (t_60 : (List Go.Proofs.Ytlljmgphgmklcaa.PCover.Cover)) =>
  Option.bind (Go.Proofs.Ytlljmgphgmklcaa.GlEqCoverS.P t_31 t_60) fun (t_61 : Bool) =>
  letK (!t_61) fun (t_62 : Bool) =>
  iteK t_62
  (some false)
  (bind2 (Go.Proofs.Ytlljmgphgmklcaa.GlMarkMailS.P t_28 1) fun (t_67 : Int) (lt_67 : (List Go.Proofs.Ytlljmgphgmklcaa.PMail.Mail)) =>
  bind2 (Go.Proofs.Ytlljmgphgmklcaa.GlMarkCoverS.P t_31 t_67) fun (t_71 : Int) (lt_71 : (List Go.Proofs.Ytlljmgphgmklcaa.PCover.Cover)) =>
  letK (decide (t_71 < 0)) fun (t_74 : Bool) =>
  joinK (fun (t_80 : Bool) =>
  joinK (fun (t_85 : Bool) =>
  iteK t_85
  (some false)
  (bind2 (Go.Proofs.Ytlljmgphgmklcaa.GlMarkIntS.P t_36a 1) fun (t_90 : Int) (lt_90 : (List Int)) =>
  Option.bind (Go.Proofs.Ytlljmgphgmklcaa.GlHeldIntS.P lt_90 1) fun (t_95 : Int) =>
  letK (decide (t_95 < 0)) fun (t_98 : Bool) =>
  iteK t_98
  (some false)
  (letK (t_95 != t_90) fun (t_102 : Bool) =>
  iteK t_102
  (some false)
  (Option.bind (Go.Proofs.Ytlljmgphgmklcaa.GlToMailS.P aMails) fun (t_105 : (List Go.Proofs.Ytlljmgphgmklcaa.PMail.Mail)) =>
  Option.bind (Go.Proofs.Ytlljmgphgmklcaa.GlToCoverS.P aList) fun (t_107 : (List Go.Proofs.Ytlljmgphgmklcaa.PCover.Cover)) =>
  bind2 (Go.Proofs.Ytlljmgphgmklcaa.GiCoversVia.P fuel t_105 t_107 aOffice) fun (t_109a : (List Int)) (t_109b : Bool) =>
  Option.bind (Go.Proofs.Ytlljmgphgmklcaa.GlEqIntS.P t_109a t_21a) fun (t_117 : Bool) =>
  letK (!t_117) fun (t_118 : Bool) =>
  joinK (fun (t_123 : Bool) =>
  iteK t_123
  (some false)
  (Option.bind (Go.Proofs.Ytlljmgphgmklcaa.GlHeldIntS.P lt_90 1) fun (t_128 : Int) =>
  letK (decide (t_128 < 0)) fun (t_131 : Bool) =>
  iteK t_131
  (some false)
  (letK (t_128 != t_90) fun (t_135 : Bool) =>
  iteK t_135
  (some false)
  (some true)))) fun jt_123 => iteK t_118 (appK jt_123 true) (letK (!(t_109b == t_21b)) fun (t_122 : Bool) =>
  appK jt_123 t_122))))) fun jt_85 => iteK t_80 (appK jt_85 true) (letK (!(t_36b == t_21b)) fun (t_84 : Bool) =>
  appK jt_85 t_84)) fun jt_80 => iteK t_74 (appK jt_80 true) (Option.bind (Go.Proofs.Ytlljmgphgmklcaa.GlEqIntS.P t_36a t_21a) fun (t_78 : Bool) =>
  letK (!t_78) fun (t_79 : Bool) =>
  appK jt_80 t_79))))) fun jt_50 => iteK t_45 (appK jt_50 true) (letK (!(t_36b == t_21b)) fun (t_49 : Bool) =>
  appK jt_50 t_49)))

set_option maxRecDepth 100000 in
set_option maxHeartbeats 2000000 in
theorem C (fuel : Nat) (aMails : (List Go.Proofs.Ytlljmgphgmklcaa.PMail.Mail)) (aList : (List Go.Proofs.Ytlljmgphgmklcaa.PCover.Cover)) (aOffice : Int) (A0 : Option Addr) (c0 : Nat) (A1 : Option Addr) (c1 : Nat)  (w : World) (M0 : Hid (Cells w 4 A0 aMails.length (Go.Proofs.Ytlljmgphgmklcaa.PMail.flat aMails))) (N0 : Hid (aMails.length ≤ 9223372036854775807)) (M1 : Hid (Cells w 9 A1 aList.length (Go.Proofs.Ytlljmgphgmklcaa.PCover.flat aList))) (N1 : Hid (aList.length ≤ 9223372036854775807))  {r : Bool} (H : Hid (P fuel aMails aList aOffice = some r)) :
    Calls Try.prog 11 #[.slice A0 aMails.length c0, .slice A1 aList.length c1, .int .i64 aOffice] w (Gives (.bool r) w) := by
  have HB := Lib.hid (Below.refl w.heap.size w)
  unfold P at H
  have N0o := N0.out
  have N1o := N1.out
  go_enter Try.func11, Try.ntmps11
  replace H := bind_hid H
  obtain ⟨t_4, qt_4, H⟩ := H
  go_wp2_with fail
  go_at_call 25
  refine (Go.Proofs.Ytlljmgphgmklcaa.GlSzMailS.C (aMails) (1048576) A0 c0 _   (Lib.hid (Cells.below M0.out HB.out)) N0 qt_4).mono ?_
  rintro e_t_4 wt_4 ⟨rfl, bt_4⟩
  have HBwt_4 := Lib.hid (Below.step HB.out bt_4)
  clear bt_4
  replace H := let_hid H
  obtain ⟨t_7, ht_7, H⟩ := H
  cases t_7 with
  | false =>
    replace H := ite_f H
    replace H := bind_hid H
    obtain ⟨t_11, qt_11, H⟩ := H
    go_wp2_with fail
    go_at_call 19
    refine (Go.Proofs.Ytlljmgphgmklcaa.GlSzCoverS.C (aList) (t_4) A1 c1 _   (Lib.hid (Cells.below M1.out HBwt_4.out)) N1 qt_11).mono ?_
    rintro e_t_11 wt_11 ⟨rfl, bt_11⟩
    have HBwt_11 := Lib.hid (Below.step HBwt_4.out bt_11)
    clear bt_11
    replace H := let_hid H
    obtain ⟨t_14, ht_14, H⟩ := H
    cases t_14 with
    | false =>
      replace H := ite_f H
      replace H := bind_hid H
      obtain ⟨t_17, qt_17, H⟩ := H
      go_wp2_with fail
      go_at_call 28
      refine (Go.Proofs.Ytlljmgphgmklcaa.GlToMailS.C (aMails) A0 c0 _   (Lib.hid (Cells.below M0.out HBwt_11.out)) N0 qt_17).mono ?_
      rintro e_t_17 wt_17 ⟨At_17, ct_17, rfl, ot_17, bt_17⟩
      have Ot_17 := Lib.hid (own_lower ot_17 HBwt_11.out.size)
      clear ot_17
      have HBwt_17 := Lib.hid (Below.step HBwt_11.out bt_17)
      clear bt_17
      replace H := bind_hid H
      obtain ⟨t_19, qt_19, H⟩ := H
      go_wp2_with fail
      go_at_call 21
      refine (Go.Proofs.Ytlljmgphgmklcaa.GlToCoverS.C (aList) A1 c1 _   (Lib.hid (Cells.below M1.out HBwt_17.out)) N1 qt_19).mono ?_
      rintro e_t_19 wt_19 ⟨At_19, ct_19, rfl, ot_19, bt_19⟩
      have Dt_19_t_17 := Lib.hid (apart_call ot_19 Ot_17.out)
      have Ot_19 := Lib.hid (own_lower ot_19 HBwt_17.out.size)
      clear ot_19
      have HBwt_19 := Lib.hid (Below.step HBwt_17.out bt_19)
      replace Ot_17 := Lib.hid (own_below Ot_17.out bt_19)
      clear bt_19
      replace H := bind2_hid H
      obtain ⟨t_21a, t_21b, qt_21, H⟩ := H
      go_wp2_with fail
      go_at_call 49
      refine (Go.Proofs.Ytlljmgphgmklcaa.GsCoversVia.C fuel (t_17) (t_19) (aOffice) At_17 ct_17 At_19 ct_19 _   (Lib.hid (own_cells Ot_17.out)) (Lib.hid (own_max Ot_17.out)) (Lib.hid (own_cells Ot_19.out)) (Lib.hid (own_max Ot_19.out)) qt_21).mono ?_
      rintro e_t_21 wt_21 ⟨At_21a, ct_21a, rfl, ot_21a, bt_21⟩
      have Dt_21a_t_17 := Lib.hid (apart_call ot_21a Ot_17.out)
      have Dt_21a_t_19 := Lib.hid (apart_call ot_21a Ot_19.out)
      have Ot_21a := Lib.hid (own_lower ot_21a HBwt_19.out.size)
      clear ot_21a
      have HBwt_21 := Lib.hid (Below.step HBwt_19.out bt_21)
      replace Ot_17 := Lib.hid (own_below Ot_17.out bt_21)
      replace Ot_19 := Lib.hid (own_below Ot_19.out bt_21)
      clear bt_21
      replace H := bind_hid H
      obtain ⟨t_28, qt_28, H⟩ := H
      go_wp2_with fail
      go_at_call 28
      refine (Go.Proofs.Ytlljmgphgmklcaa.GlToMailS.C (aMails) A0 c0 _   (Lib.hid (Cells.below M0.out HBwt_21.out)) N0 qt_28).mono ?_
      rintro e_t_28 wt_28 ⟨At_28, ct_28, rfl, ot_28, bt_28⟩
      have Dt_28_t_17 := Lib.hid (apart_call ot_28 Ot_17.out)
      have Dt_28_t_19 := Lib.hid (apart_call ot_28 Ot_19.out)
      have Dt_28_t_21a := Lib.hid (apart_call ot_28 Ot_21a.out)
      have Ot_28 := Lib.hid (own_lower ot_28 HBwt_21.out.size)
      clear ot_28
      have HBwt_28 := Lib.hid (Below.step HBwt_21.out bt_28)
      replace Ot_17 := Lib.hid (own_below Ot_17.out bt_28)
      replace Ot_19 := Lib.hid (own_below Ot_19.out bt_28)
      replace Ot_21a := Lib.hid (own_below Ot_21a.out bt_28)
      clear bt_28
      replace H := bind_hid H
      obtain ⟨t_31, qt_31, H⟩ := H
      go_wp2_with fail
      go_at_call 21
      refine (Go.Proofs.Ytlljmgphgmklcaa.GlToCoverS.C (aList) A1 c1 _   (Lib.hid (Cells.below M1.out HBwt_28.out)) N1 qt_31).mono ?_
      rintro e_t_31 wt_31 ⟨At_31, ct_31, rfl, ot_31, bt_31⟩
      have Dt_31_t_17 := Lib.hid (apart_call ot_31 Ot_17.out)
      have Dt_31_t_19 := Lib.hid (apart_call ot_31 Ot_19.out)
      have Dt_31_t_21a := Lib.hid (apart_call ot_31 Ot_21a.out)
      have Dt_31_t_28 := Lib.hid (apart_call ot_31 Ot_28.out)
      have Ot_31 := Lib.hid (own_lower ot_31 HBwt_28.out.size)
      clear ot_31
      have HBwt_31 := Lib.hid (Below.step HBwt_28.out bt_31)
      replace Ot_17 := Lib.hid (own_below Ot_17.out bt_31)
      replace Ot_19 := Lib.hid (own_below Ot_19.out bt_31)
      replace Ot_21a := Lib.hid (own_below Ot_21a.out bt_31)
      replace Ot_28 := Lib.hid (own_below Ot_28.out bt_31)
      clear bt_31
      replace H := bind2_hid H
      obtain ⟨t_36a, t_36b, qt_36, H⟩ := H
      go_wp2_with fail
      go_at_call 50
      refine (Go.Proofs.Ytlljmgphgmklcaa.GiCoversVia.C fuel (t_28) (t_31) (aOffice) At_28 ct_28 At_31 ct_31 _   (Lib.hid (own_cells Ot_28.out)) (Lib.hid (own_max Ot_28.out)) (Lib.hid (own_cells Ot_31.out)) (Lib.hid (own_max Ot_31.out)) qt_36).mono ?_
      rintro e_t_36 wt_36 ⟨At_36a, ct_36a, rfl, ot_36a, bt_36⟩
      have Dt_36a_t_17 := Lib.hid (apart_call ot_36a Ot_17.out)
      have Dt_36a_t_19 := Lib.hid (apart_call ot_36a Ot_19.out)
      have Dt_36a_t_21a := Lib.hid (apart_call ot_36a Ot_21a.out)
      have Dt_36a_t_28 := Lib.hid (apart_call ot_36a Ot_28.out)
      have Dt_36a_t_31 := Lib.hid (apart_call ot_36a Ot_31.out)
      have Ot_36a := Lib.hid (own_lower ot_36a HBwt_31.out.size)
      clear ot_36a
      have HBwt_36 := Lib.hid (Below.step HBwt_31.out bt_36)
      replace Ot_17 := Lib.hid (own_below Ot_17.out bt_36)
      replace Ot_19 := Lib.hid (own_below Ot_19.out bt_36)
      replace Ot_21a := Lib.hid (own_below Ot_21a.out bt_36)
      replace Ot_28 := Lib.hid (own_below Ot_28.out bt_36)
      replace Ot_31 := Lib.hid (own_below Ot_31.out bt_36)
      clear bt_36
      replace H := bind_hid H
      obtain ⟨t_44, qt_44, H⟩ := H
      go_wp2_with fail
      go_at_call 34
      refine (Go.Proofs.Ytlljmgphgmklcaa.GlEqIntS.C (t_36a) (t_21a) At_36a ct_36a At_21a ct_21a _   (Lib.hid (own_cells Ot_36a.out)) (Lib.hid (own_max Ot_36a.out)) (Lib.hid (own_cells Ot_21a.out)) (Lib.hid (own_max Ot_21a.out)) qt_44).mono ?_
      rintro e_t_44 wt_44 ⟨rfl, bt_44⟩
      have HBwt_44 := Lib.hid (Below.step HBwt_36.out bt_44)
      replace Ot_17 := Lib.hid (own_below Ot_17.out bt_44)
      replace Ot_19 := Lib.hid (own_below Ot_19.out bt_44)
      replace Ot_21a := Lib.hid (own_below Ot_21a.out bt_44)
      replace Ot_28 := Lib.hid (own_below Ot_28.out bt_44)
      replace Ot_31 := Lib.hid (own_below Ot_31.out bt_44)
      replace Ot_36a := Lib.hid (own_below Ot_36a.out bt_44)
      clear bt_44
      cases t_44 with
      | false =>
        replace H := let_hid H
        obtain ⟨t_45, ht_45, H⟩ := H
        obtain rfl : t_45 = true := ht_45.symm
        replace H := join_hid H
        replace H := ite_t H
        replace H := app_hid H
        replace H := ite_t H
        obtain rfl := ret_hid H
        go_wp2_with fail
        go_ret
        exact ⟨rfl, HBwt_44.out⟩
      | true =>
        replace H := let_hid H
        obtain ⟨t_45, ht_45, H⟩ := H
        obtain rfl : t_45 = false := ht_45.symm
        replace H := join_hid H
        replace H := ite_f H
        replace H := let_hid H
        obtain ⟨t_49, ht_49, H⟩ := H
        replace H := app_hid H
        cases t_49 with
        | false =>
          replace H := ite_f H
          replace H := bind_hid H
          obtain ⟨t_54, qt_54, H⟩ := H
          go_wp2_with fail
          go_at_call 28
          refine (Go.Proofs.Ytlljmgphgmklcaa.GlToMailS.C (aMails) A0 c0 _   (Lib.hid (Cells.below M0.out HBwt_44.out)) N0 qt_54).mono ?_
          rintro e_t_54 wt_54 ⟨At_54, ct_54, rfl, ot_54, bt_54⟩
          have Dt_54_t_17 := Lib.hid (apart_call ot_54 Ot_17.out)
          have Dt_54_t_19 := Lib.hid (apart_call ot_54 Ot_19.out)
          have Dt_54_t_21a := Lib.hid (apart_call ot_54 Ot_21a.out)
          have Dt_54_t_28 := Lib.hid (apart_call ot_54 Ot_28.out)
          have Dt_54_t_31 := Lib.hid (apart_call ot_54 Ot_31.out)
          have Dt_54_t_36a := Lib.hid (apart_call ot_54 Ot_36a.out)
          have Ot_54 := Lib.hid (own_lower ot_54 HBwt_44.out.size)
          clear ot_54
          have HBwt_54 := Lib.hid (Below.step HBwt_44.out bt_54)
          replace Ot_17 := Lib.hid (own_below Ot_17.out bt_54)
          replace Ot_19 := Lib.hid (own_below Ot_19.out bt_54)
          replace Ot_21a := Lib.hid (own_below Ot_21a.out bt_54)
          replace Ot_28 := Lib.hid (own_below Ot_28.out bt_54)
          replace Ot_31 := Lib.hid (own_below Ot_31.out bt_54)
          replace Ot_36a := Lib.hid (own_below Ot_36a.out bt_54)
          clear bt_54
          replace H := bind_hid H
          obtain ⟨t_55, qt_55, H⟩ := H
          go_wp2_with fail
          go_at_call 31
          refine (Go.Proofs.Ytlljmgphgmklcaa.GlEqMailS.C (t_28) (t_54) At_28 ct_28 At_54 ct_54 _   (Lib.hid (own_cells Ot_28.out)) (Lib.hid (own_max Ot_28.out)) (Lib.hid (own_cells Ot_54.out)) (Lib.hid (own_max Ot_54.out)) qt_55).mono ?_
          rintro e_t_55 wt_55 ⟨rfl, bt_55⟩
          have HBwt_55 := Lib.hid (Below.step HBwt_54.out bt_55)
          replace Ot_17 := Lib.hid (own_below Ot_17.out bt_55)
          replace Ot_19 := Lib.hid (own_below Ot_19.out bt_55)
          replace Ot_21a := Lib.hid (own_below Ot_21a.out bt_55)
          replace Ot_28 := Lib.hid (own_below Ot_28.out bt_55)
          replace Ot_31 := Lib.hid (own_below Ot_31.out bt_55)
          replace Ot_36a := Lib.hid (own_below Ot_36a.out bt_55)
          replace Ot_54 := Lib.hid (own_below Ot_54.out bt_55)
          clear bt_55
          cases t_55 with
          | false =>
            replace H := let_hid H
            obtain ⟨t_56, ht_56, H⟩ := H
            obtain rfl : t_56 = true := ht_56.symm
            replace H := ite_t H
            obtain rfl := ret_hid H
            go_wp2_with fail
            go_ret
            exact ⟨rfl, HBwt_55.out⟩
          | true =>
            replace H := let_hid H
            obtain ⟨t_56, ht_56, H⟩ := H
            obtain rfl : t_56 = false := ht_56.symm
            replace H := ite_f H
            replace H := bind_hid H
            obtain ⟨t_60, qt_60, H⟩ := H
            go_wp2_with fail
            go_at_call 21
            refine (Go.Proofs.Ytlljmgphgmklcaa.GlToCoverS.C (aList) A1 c1 _   (Lib.hid (Cells.below M1.out HBwt_55.out)) N1 qt_60).mono ?_
            rintro e_t_60 wt_60 ⟨At_60, ct_60, rfl, ot_60, bt_60⟩
            have Dt_60_t_17 := Lib.hid (apart_call ot_60 Ot_17.out)
            have Dt_60_t_19 := Lib.hid (apart_call ot_60 Ot_19.out)
            have Dt_60_t_21a := Lib.hid (apart_call ot_60 Ot_21a.out)
            have Dt_60_t_28 := Lib.hid (apart_call ot_60 Ot_28.out)
            have Dt_60_t_31 := Lib.hid (apart_call ot_60 Ot_31.out)
            have Dt_60_t_36a := Lib.hid (apart_call ot_60 Ot_36a.out)
            have Dt_60_t_54 := Lib.hid (apart_call ot_60 Ot_54.out)
            have Ot_60 := Lib.hid (own_lower ot_60 HBwt_55.out.size)
            clear ot_60
            have HBwt_60 := Lib.hid (Below.step HBwt_55.out bt_60)
            replace Ot_17 := Lib.hid (own_below Ot_17.out bt_60)
            replace Ot_19 := Lib.hid (own_below Ot_19.out bt_60)
            replace Ot_21a := Lib.hid (own_below Ot_21a.out bt_60)
            replace Ot_28 := Lib.hid (own_below Ot_28.out bt_60)
            replace Ot_31 := Lib.hid (own_below Ot_31.out bt_60)
            replace Ot_36a := Lib.hid (own_below Ot_36a.out bt_60)
            replace Ot_54 := Lib.hid (own_below Ot_54.out bt_60)
            clear bt_60
            replace H := bind_hid H
            obtain ⟨t_61, qt_61, H⟩ := H
            go_wp2_with fail
            go_at_call 23
            refine (Go.Proofs.Ytlljmgphgmklcaa.GlEqCoverS.C (t_31) (t_60) At_31 ct_31 At_60 ct_60 _   (Lib.hid (own_cells Ot_31.out)) (Lib.hid (own_max Ot_31.out)) (Lib.hid (own_cells Ot_60.out)) (Lib.hid (own_max Ot_60.out)) qt_61).mono ?_
            rintro e_t_61 wt_61 ⟨rfl, bt_61⟩
            have HBwt_61 := Lib.hid (Below.step HBwt_60.out bt_61)
            replace Ot_17 := Lib.hid (own_below Ot_17.out bt_61)
            replace Ot_19 := Lib.hid (own_below Ot_19.out bt_61)
            replace Ot_21a := Lib.hid (own_below Ot_21a.out bt_61)
            replace Ot_28 := Lib.hid (own_below Ot_28.out bt_61)
            replace Ot_31 := Lib.hid (own_below Ot_31.out bt_61)
            replace Ot_36a := Lib.hid (own_below Ot_36a.out bt_61)
            replace Ot_54 := Lib.hid (own_below Ot_54.out bt_61)
            replace Ot_60 := Lib.hid (own_below Ot_60.out bt_61)
            clear bt_61
            cases t_61 with
            | false =>
              replace H := let_hid H
              obtain ⟨t_62, ht_62, H⟩ := H
              obtain rfl : t_62 = true := ht_62.symm
              replace H := ite_t H
              obtain rfl := ret_hid H
              go_wp2_with fail
              go_ret
              exact ⟨rfl, HBwt_61.out⟩
            | true =>
              replace H := let_hid H
              obtain ⟨t_62, ht_62, H⟩ := H
              obtain rfl : t_62 = false := ht_62.symm
              replace H := ite_f H
              replace H := bind2_hid H
              obtain ⟨t_67, lt_67, qt_67, H⟩ := H
              go_wp2_with fail
              go_at_call 36
              refine (Go.Proofs.Ytlljmgphgmklcaa.GlMarkMailS.C (t_28) (1) At_28 ct_28 w.heap.size _   Ot_28 (Lib.hid (own_max Ot_28.out))   qt_67).mono ?_
              rintro e_t_67 wt_67 ⟨rfl, ot_67, nt_67, gt_67⟩
              have Pt_67 := Lib.hid ot_67
              have Gt_67 := Lib.hid gt_67
              replace nt_67 := Lib.hid nt_67
              clear ot_67 gt_67
              have HBwt_67 := Lib.hid (HBwt_61.out.grown Gt_67.out HBwt_61.out.size (fun q hq => (Ot_28.out.lt q hq).1))
              replace Ot_17 := Lib.hid (own_other Ot_17.out Gt_67.out Dt_28_t_17.out)
              replace Ot_19 := Lib.hid (own_other Ot_19.out Gt_67.out Dt_28_t_19.out)
              replace Ot_21a := Lib.hid (own_other Ot_21a.out Gt_67.out Dt_28_t_21a.out)
              replace Ot_31 := Lib.hid (own_other Ot_31.out Gt_67.out (Apart.symm Dt_31_t_28.out))
              replace Ot_36a := Lib.hid (own_other Ot_36a.out Gt_67.out (Apart.symm Dt_36a_t_28.out))
              replace Ot_54 := Lib.hid (own_other Ot_54.out Gt_67.out (Apart.symm Dt_54_t_28.out))
              replace Ot_60 := Lib.hid (own_other Ot_60.out Gt_67.out (Apart.symm Dt_60_t_28.out))
              clear Ot_28 Gt_67
              replace H := bind2_hid H
              obtain ⟨t_71, lt_71, qt_71, H⟩ := H
              go_wp2_with fail
              go_at_call 37
              refine (Go.Proofs.Ytlljmgphgmklcaa.GlMarkCoverS.C (t_31) (t_67) At_31 ct_31 w.heap.size _   Ot_31 (Lib.hid (own_max Ot_31.out))   qt_71).mono ?_
              rintro e_t_71 wt_71 ⟨rfl, ot_71, nt_71, gt_71⟩
              have Pt_71 := Lib.hid ot_71
              have Gt_71 := Lib.hid gt_71
              replace nt_71 := Lib.hid nt_71
              clear ot_71 gt_71
              have HBwt_71 := Lib.hid (HBwt_67.out.grown Gt_71.out HBwt_67.out.size (fun q hq => (Ot_31.out.lt q hq).1))
              replace Ot_17 := Lib.hid (own_other Ot_17.out Gt_71.out Dt_31_t_17.out)
              replace Ot_19 := Lib.hid (own_other Ot_19.out Gt_71.out Dt_31_t_19.out)
              replace Ot_21a := Lib.hid (own_other Ot_21a.out Gt_71.out Dt_31_t_21a.out)
              replace Pt_67 := Lib.hid (own_other Pt_67.out Gt_71.out Dt_31_t_28.out)
              replace Ot_36a := Lib.hid (own_other Ot_36a.out Gt_71.out (Apart.symm Dt_36a_t_31.out))
              replace Ot_54 := Lib.hid (own_other Ot_54.out Gt_71.out (Apart.symm Dt_54_t_31.out))
              replace Ot_60 := Lib.hid (own_other Ot_60.out Gt_71.out (Apart.symm Dt_60_t_31.out))
              clear Ot_31 Gt_71
              replace H := let_hid H
              obtain ⟨t_74, ht_74, H⟩ := H
              replace H := join_hid H
              cases t_74 with
              | false =>
                replace H := ite_f H
                replace H := bind_hid H
                obtain ⟨t_78, qt_78, H⟩ := H
                go_wp2_with fail
                go_at_call 34
                refine (Go.Proofs.Ytlljmgphgmklcaa.GlEqIntS.C (t_36a) (t_21a) At_36a ct_36a At_21a ct_21a _   (Lib.hid (own_cells Ot_36a.out)) (Lib.hid (own_max Ot_36a.out)) (Lib.hid (own_cells Ot_21a.out)) (Lib.hid (own_max Ot_21a.out)) qt_78).mono ?_
                rintro e_t_78 wt_78 ⟨rfl, bt_78⟩
                have HBwt_78 := Lib.hid (Below.step HBwt_71.out bt_78)
                replace Ot_17 := Lib.hid (own_below Ot_17.out bt_78)
                replace Ot_19 := Lib.hid (own_below Ot_19.out bt_78)
                replace Ot_21a := Lib.hid (own_below Ot_21a.out bt_78)
                replace Pt_67 := Lib.hid (own_below Pt_67.out bt_78)
                replace Pt_71 := Lib.hid (own_below Pt_71.out bt_78)
                replace Ot_36a := Lib.hid (own_below Ot_36a.out bt_78)
                replace Ot_54 := Lib.hid (own_below Ot_54.out bt_78)
                replace Ot_60 := Lib.hid (own_below Ot_60.out bt_78)
                clear bt_78
                cases t_78 with
                | false =>
                  replace H := let_hid H
                  obtain ⟨t_79, ht_79, H⟩ := H
                  obtain rfl : t_79 = true := ht_79.symm
                  replace H := app_hid H
                  replace H := join_hid H
                  replace H := ite_t H
                  replace H := app_hid H
                  replace H := ite_t H
                  obtain rfl := ret_hid H
                  go_wp2_with fail
                  go_ret
                  exact ⟨rfl, HBwt_78.out⟩
                | true =>
                  replace H := let_hid H
                  obtain ⟨t_79, ht_79, H⟩ := H
                  obtain rfl : t_79 = false := ht_79.symm
                  replace H := app_hid H
                  replace H := join_hid H
                  replace H := ite_f H
                  replace H := let_hid H
                  obtain ⟨t_84, ht_84, H⟩ := H
                  obtain rfl := ht_49.symm.trans ht_84
                  replace H := app_hid H
                  replace H := ite_f H
                  replace H := bind2_hid H
                  obtain ⟨t_90, lt_90, qt_90, H⟩ := H
                  go_wp2_with fail
                  go_at_call 38
                  refine (Go.Proofs.Ytlljmgphgmklcaa.GlMarkIntS.C (t_36a) (1) At_36a ct_36a w.heap.size _   Ot_36a (Lib.hid (own_max Ot_36a.out))   qt_90).mono ?_
                  rintro e_t_90 wt_90 ⟨rfl, ot_90, nt_90, gt_90⟩
                  have Pt_90 := Lib.hid ot_90
                  have Gt_90 := Lib.hid gt_90
                  replace nt_90 := Lib.hid nt_90
                  clear ot_90 gt_90
                  have HBwt_90 := Lib.hid (HBwt_78.out.grown Gt_90.out HBwt_78.out.size (fun q hq => (Ot_36a.out.lt q hq).1))
                  replace Ot_17 := Lib.hid (own_other Ot_17.out Gt_90.out Dt_36a_t_17.out)
                  replace Ot_19 := Lib.hid (own_other Ot_19.out Gt_90.out Dt_36a_t_19.out)
                  replace Ot_21a := Lib.hid (own_other Ot_21a.out Gt_90.out Dt_36a_t_21a.out)
                  replace Pt_67 := Lib.hid (own_other Pt_67.out Gt_90.out Dt_36a_t_28.out)
                  replace Pt_71 := Lib.hid (own_other Pt_71.out Gt_90.out Dt_36a_t_31.out)
                  replace Ot_54 := Lib.hid (own_other Ot_54.out Gt_90.out (Apart.symm Dt_54_t_36a.out))
                  replace Ot_60 := Lib.hid (own_other Ot_60.out Gt_90.out (Apart.symm Dt_60_t_36a.out))
                  clear Ot_36a Gt_90
                  replace H := bind_hid H
                  obtain ⟨t_95, qt_95, H⟩ := H
                  go_wp2_with fail
                  have hc_ := nt_90.out
                  have hv_ : (Value.slice At_36a t_36a.length ct_36a : Value) = Value.slice At_36a lt_90.length ct_36a := by rw [hc_]
                  try rw [hv_]
                  replace Pt_90 := Lib.hid (own_len hc_ Pt_90.out)
                  clear hc_ hv_
                  go_wp2_with fail
                  go_at_call 39
                  refine (Go.Proofs.Ytlljmgphgmklcaa.GlHeldIntS.C (lt_90) (1) At_36a ct_36a _   (Lib.hid (own_cells Pt_90.out)) (Lib.hid (own_max Pt_90.out)) qt_95).mono ?_
                  rintro e_t_95 wt_95 ⟨rfl, bt_95⟩
                  have HBwt_95 := Lib.hid (Below.step HBwt_90.out bt_95)
                  replace Ot_17 := Lib.hid (own_below Ot_17.out bt_95)
                  replace Ot_19 := Lib.hid (own_below Ot_19.out bt_95)
                  replace Ot_21a := Lib.hid (own_below Ot_21a.out bt_95)
                  replace Pt_67 := Lib.hid (own_below Pt_67.out bt_95)
                  replace Pt_71 := Lib.hid (own_below Pt_71.out bt_95)
                  replace Pt_90 := Lib.hid (own_below Pt_90.out bt_95)
                  replace Ot_54 := Lib.hid (own_below Ot_54.out bt_95)
                  replace Ot_60 := Lib.hid (own_below Ot_60.out bt_95)
                  clear bt_95
                  replace H := let_hid H
                  obtain ⟨t_98, ht_98, H⟩ := H
                  cases t_98 with
                  | false =>
                    replace H := ite_f H
                    replace H := let_hid H
                    obtain ⟨t_102, ht_102, H⟩ := H
                    cases t_102 with
                    | false =>
                      replace H := ite_f H
                      replace H := bind_hid H
                      obtain ⟨t_105, qt_105, H⟩ := H
                      go_wp2_with fail
                      go_at_call 28
                      refine (Go.Proofs.Ytlljmgphgmklcaa.GlToMailS.C (aMails) A0 c0 _   (Lib.hid (Cells.below M0.out HBwt_95.out)) N0 qt_105).mono ?_
                      rintro e_t_105 wt_105 ⟨At_105, ct_105, rfl, ot_105, bt_105⟩
                      have Dt_105_t_17 := Lib.hid (apart_call ot_105 Ot_17.out)
                      have Dt_105_t_19 := Lib.hid (apart_call ot_105 Ot_19.out)
                      have Dt_105_t_21a := Lib.hid (apart_call ot_105 Ot_21a.out)
                      have Dt_105_t_28 := Lib.hid (apart_call ot_105 Pt_67.out)
                      have Dt_105_t_31 := Lib.hid (apart_call ot_105 Pt_71.out)
                      have Dt_105_t_36a := Lib.hid (apart_call ot_105 Pt_90.out)
                      have Dt_105_t_54 := Lib.hid (apart_call ot_105 Ot_54.out)
                      have Dt_105_t_60 := Lib.hid (apart_call ot_105 Ot_60.out)
                      have Ot_105 := Lib.hid (own_lower ot_105 HBwt_95.out.size)
                      clear ot_105
                      have HBwt_105 := Lib.hid (Below.step HBwt_95.out bt_105)
                      replace Ot_17 := Lib.hid (own_below Ot_17.out bt_105)
                      replace Ot_19 := Lib.hid (own_below Ot_19.out bt_105)
                      replace Ot_21a := Lib.hid (own_below Ot_21a.out bt_105)
                      replace Pt_67 := Lib.hid (own_below Pt_67.out bt_105)
                      replace Pt_71 := Lib.hid (own_below Pt_71.out bt_105)
                      replace Pt_90 := Lib.hid (own_below Pt_90.out bt_105)
                      replace Ot_54 := Lib.hid (own_below Ot_54.out bt_105)
                      replace Ot_60 := Lib.hid (own_below Ot_60.out bt_105)
                      clear bt_105
                      replace H := bind_hid H
                      obtain ⟨t_107, qt_107, H⟩ := H
                      go_wp2_with fail
                      go_at_call 21
                      refine (Go.Proofs.Ytlljmgphgmklcaa.GlToCoverS.C (aList) A1 c1 _   (Lib.hid (Cells.below M1.out HBwt_105.out)) N1 qt_107).mono ?_
                      rintro e_t_107 wt_107 ⟨At_107, ct_107, rfl, ot_107, bt_107⟩
                      have Dt_107_t_17 := Lib.hid (apart_call ot_107 Ot_17.out)
                      have Dt_107_t_19 := Lib.hid (apart_call ot_107 Ot_19.out)
                      have Dt_107_t_21a := Lib.hid (apart_call ot_107 Ot_21a.out)
                      have Dt_107_t_28 := Lib.hid (apart_call ot_107 Pt_67.out)
                      have Dt_107_t_31 := Lib.hid (apart_call ot_107 Pt_71.out)
                      have Dt_107_t_36a := Lib.hid (apart_call ot_107 Pt_90.out)
                      have Dt_107_t_54 := Lib.hid (apart_call ot_107 Ot_54.out)
                      have Dt_107_t_60 := Lib.hid (apart_call ot_107 Ot_60.out)
                      have Dt_107_t_105 := Lib.hid (apart_call ot_107 Ot_105.out)
                      have Ot_107 := Lib.hid (own_lower ot_107 HBwt_105.out.size)
                      clear ot_107
                      have HBwt_107 := Lib.hid (Below.step HBwt_105.out bt_107)
                      replace Ot_17 := Lib.hid (own_below Ot_17.out bt_107)
                      replace Ot_19 := Lib.hid (own_below Ot_19.out bt_107)
                      replace Ot_21a := Lib.hid (own_below Ot_21a.out bt_107)
                      replace Pt_67 := Lib.hid (own_below Pt_67.out bt_107)
                      replace Pt_71 := Lib.hid (own_below Pt_71.out bt_107)
                      replace Pt_90 := Lib.hid (own_below Pt_90.out bt_107)
                      replace Ot_54 := Lib.hid (own_below Ot_54.out bt_107)
                      replace Ot_60 := Lib.hid (own_below Ot_60.out bt_107)
                      replace Ot_105 := Lib.hid (own_below Ot_105.out bt_107)
                      clear bt_107
                      replace H := bind2_hid H
                      obtain ⟨t_109a, t_109b, qt_109, H⟩ := H
                      go_wp2_with fail
                      go_at_call 50
                      refine (Go.Proofs.Ytlljmgphgmklcaa.GiCoversVia.C fuel (t_105) (t_107) (aOffice) At_105 ct_105 At_107 ct_107 _   (Lib.hid (own_cells Ot_105.out)) (Lib.hid (own_max Ot_105.out)) (Lib.hid (own_cells Ot_107.out)) (Lib.hid (own_max Ot_107.out)) qt_109).mono ?_
                      rintro e_t_109 wt_109 ⟨At_109a, ct_109a, rfl, ot_109a, bt_109⟩
                      have Dt_109a_t_17 := Lib.hid (apart_call ot_109a Ot_17.out)
                      have Dt_109a_t_19 := Lib.hid (apart_call ot_109a Ot_19.out)
                      have Dt_109a_t_21a := Lib.hid (apart_call ot_109a Ot_21a.out)
                      have Dt_109a_t_28 := Lib.hid (apart_call ot_109a Pt_67.out)
                      have Dt_109a_t_31 := Lib.hid (apart_call ot_109a Pt_71.out)
                      have Dt_109a_t_36a := Lib.hid (apart_call ot_109a Pt_90.out)
                      have Dt_109a_t_54 := Lib.hid (apart_call ot_109a Ot_54.out)
                      have Dt_109a_t_60 := Lib.hid (apart_call ot_109a Ot_60.out)
                      have Dt_109a_t_105 := Lib.hid (apart_call ot_109a Ot_105.out)
                      have Dt_109a_t_107 := Lib.hid (apart_call ot_109a Ot_107.out)
                      have Ot_109a := Lib.hid (own_lower ot_109a HBwt_107.out.size)
                      clear ot_109a
                      have HBwt_109 := Lib.hid (Below.step HBwt_107.out bt_109)
                      replace Ot_17 := Lib.hid (own_below Ot_17.out bt_109)
                      replace Ot_19 := Lib.hid (own_below Ot_19.out bt_109)
                      replace Ot_21a := Lib.hid (own_below Ot_21a.out bt_109)
                      replace Pt_67 := Lib.hid (own_below Pt_67.out bt_109)
                      replace Pt_71 := Lib.hid (own_below Pt_71.out bt_109)
                      replace Pt_90 := Lib.hid (own_below Pt_90.out bt_109)
                      replace Ot_54 := Lib.hid (own_below Ot_54.out bt_109)
                      replace Ot_60 := Lib.hid (own_below Ot_60.out bt_109)
                      replace Ot_105 := Lib.hid (own_below Ot_105.out bt_109)
                      replace Ot_107 := Lib.hid (own_below Ot_107.out bt_109)
                      clear bt_109
                      replace H := bind_hid H
                      obtain ⟨t_117, qt_117, H⟩ := H
                      go_wp2_with fail
                      go_at_call 34
                      refine (Go.Proofs.Ytlljmgphgmklcaa.GlEqIntS.C (t_109a) (t_21a) At_109a ct_109a At_21a ct_21a _   (Lib.hid (own_cells Ot_109a.out)) (Lib.hid (own_max Ot_109a.out)) (Lib.hid (own_cells Ot_21a.out)) (Lib.hid (own_max Ot_21a.out)) qt_117).mono ?_
                      rintro e_t_117 wt_117 ⟨rfl, bt_117⟩
                      have HBwt_117 := Lib.hid (Below.step HBwt_109.out bt_117)
                      replace Ot_17 := Lib.hid (own_below Ot_17.out bt_117)
                      replace Ot_19 := Lib.hid (own_below Ot_19.out bt_117)
                      replace Ot_21a := Lib.hid (own_below Ot_21a.out bt_117)
                      replace Pt_67 := Lib.hid (own_below Pt_67.out bt_117)
                      replace Pt_71 := Lib.hid (own_below Pt_71.out bt_117)
                      replace Pt_90 := Lib.hid (own_below Pt_90.out bt_117)
                      replace Ot_54 := Lib.hid (own_below Ot_54.out bt_117)
                      replace Ot_60 := Lib.hid (own_below Ot_60.out bt_117)
                      replace Ot_105 := Lib.hid (own_below Ot_105.out bt_117)
                      replace Ot_107 := Lib.hid (own_below Ot_107.out bt_117)
                      replace Ot_109a := Lib.hid (own_below Ot_109a.out bt_117)
                      clear bt_117
                      cases t_117 with
                      | false =>
                        replace H := let_hid H
                        obtain ⟨t_118, ht_118, H⟩ := H
                        obtain rfl : t_118 = true := ht_118.symm
                        replace H := join_hid H
                        replace H := ite_t H
                        replace H := app_hid H
                        replace H := ite_t H
                        obtain rfl := ret_hid H
                        go_wp2_with fail
                        go_ret
                        exact ⟨rfl, HBwt_117.out⟩
                      | true =>
                        replace H := let_hid H
                        obtain ⟨t_118, ht_118, H⟩ := H
                        obtain rfl : t_118 = false := ht_118.symm
                        replace H := join_hid H
                        replace H := ite_f H
                        replace H := let_hid H
                        obtain ⟨t_122, ht_122, H⟩ := H
                        replace H := app_hid H
                        cases t_122 with
                        | false =>
                          replace H := ite_f H
                          replace H := bind_hid H
                          obtain ⟨t_128, qt_128, H⟩ := H
                          go_wp2_with fail
                          go_at_call 39
                          refine (Go.Proofs.Ytlljmgphgmklcaa.GlHeldIntS.C (lt_90) (1) At_36a ct_36a _   (Lib.hid (own_cells Pt_90.out)) (Lib.hid (own_max Pt_90.out)) qt_128).mono ?_
                          rintro e_t_128 wt_128 ⟨rfl, bt_128⟩
                          have HBwt_128 := Lib.hid (Below.step HBwt_117.out bt_128)
                          replace Ot_17 := Lib.hid (own_below Ot_17.out bt_128)
                          replace Ot_19 := Lib.hid (own_below Ot_19.out bt_128)
                          replace Ot_21a := Lib.hid (own_below Ot_21a.out bt_128)
                          replace Pt_67 := Lib.hid (own_below Pt_67.out bt_128)
                          replace Pt_71 := Lib.hid (own_below Pt_71.out bt_128)
                          replace Pt_90 := Lib.hid (own_below Pt_90.out bt_128)
                          replace Ot_54 := Lib.hid (own_below Ot_54.out bt_128)
                          replace Ot_60 := Lib.hid (own_below Ot_60.out bt_128)
                          replace Ot_105 := Lib.hid (own_below Ot_105.out bt_128)
                          replace Ot_107 := Lib.hid (own_below Ot_107.out bt_128)
                          replace Ot_109a := Lib.hid (own_below Ot_109a.out bt_128)
                          clear bt_128
                          replace H := let_hid H
                          obtain ⟨t_131, ht_131, H⟩ := H
                          cases t_131 with
                          | false =>
                            replace H := ite_f H
                            replace H := let_hid H
                            obtain ⟨t_135, ht_135, H⟩ := H
                            cases t_135 with
                            | false =>
                              replace H := ite_f H
                              obtain rfl := ret_hid H
                              go_wp2_with fail
                              go_ret
                              exact ⟨rfl, HBwt_128.out⟩
                            | true =>
                              replace H := ite_t H
                              obtain rfl := ret_hid H
                              go_wp2_with fail
                              go_ret
                              exact ⟨rfl, HBwt_128.out⟩
                          | true =>
                            replace H := ite_t H
                            obtain rfl := ret_hid H
                            go_wp2_with fail
                            go_ret
                            exact ⟨rfl, HBwt_128.out⟩
                        | true =>
                          replace H := ite_t H
                          obtain rfl := ret_hid H
                          go_wp2_with fail
                          go_ret
                          exact ⟨rfl, HBwt_117.out⟩
                    | true =>
                      replace H := ite_t H
                      obtain rfl := ret_hid H
                      go_wp2_with fail
                      go_ret
                      exact ⟨rfl, HBwt_95.out⟩
                  | true =>
                    replace H := ite_t H
                    obtain rfl := ret_hid H
                    go_wp2_with fail
                    go_ret
                    exact ⟨rfl, HBwt_95.out⟩
              | true =>
                replace H := ite_t H
                replace H := app_hid H
                replace H := join_hid H
                replace H := ite_t H
                replace H := app_hid H
                replace H := ite_t H
                obtain rfl := ret_hid H
                go_wp2_with fail
                go_ret
                exact ⟨rfl, HBwt_71.out⟩
        | true =>
          replace H := ite_t H
          obtain rfl := ret_hid H
          go_wp2_with fail
          go_ret
          exact ⟨rfl, HBwt_44.out⟩
    | true =>
      replace H := ite_t H
      obtain rfl := ret_hid H
      go_wp2_with fail
      go_ret
      exact ⟨rfl, HBwt_11.out⟩
  | true =>
    replace H := ite_t H
    obtain rfl := ret_hid H
    go_wp2_with fail
    go_ret
    exact ⟨rfl, HBwt_4.out⟩
end Go.Proofs.Ytlljmgphgmklcaa.GlFnExactCoversVia

/- Plain words on stamps: what a stamp is, when one is valid, when a list of them is; the cells of a list of records. No condition. -/
namespace Go.Proofs.Ytlljmgphgmklcaa.PlainStamp
set_option linter.unusedVariables false

/-- a number lies in a..b -/
def inB (x a b : Int) : Bool := decide (a ≤ x ∧ x ≤ b)
theorem inB_yes {x a b : Int} (h1 : a ≤ x) (h2 : x ≤ b) : inB x a b = true := by unfold inB; exact decide_eq_true ⟨h1, h2⟩
theorem inB_of {x a b : Int} (h : inB x a b = true) : a ≤ x ∧ x ≤ b := by unfold inB at h; exact of_decide_eq_true h
theorem inB_no {x a b : Int} (h : x < a ∨ b < x) : inB x a b = false := by unfold inB; exact decide_eq_false (by omega)

structure St where
  id : Int
  face : Int
  color : Int
  year : Int
deriving DecidableEq

def St.cells (s : St) : List Value := [.int .i64 s.id, .int .i64 s.face, .int .i64 s.color, .int .i64 s.year]
def St.val (s : St) : Value := .agg #[.int .i64 s.id, .int .i64 s.face, .int .i64 s.color, .int .i64 s.year]
/-- each field fits an int -/
def St.fits (s : St) : Prop := (Lit.int .i64 s.id).wf = true ∧ (Lit.int .i64 s.face).wf = true ∧ (Lit.int .i64 s.color).wf = true ∧ (Lit.int .i64 s.year).wf = true

def okSt (s : St) : Bool := inB s.id 1 999 && inB s.face 0 9999 && inB s.color 0 99 && inB s.year 1840 2100
theorem okSt_yes {s : St} (h : okSt s = true) : (1 ≤ s.id ∧ s.id ≤ 999) ∧ (0 ≤ s.face ∧ s.face ≤ 9999) ∧ (0 ≤ s.color ∧ s.color ≤ 99) ∧ (1840 ≤ s.year ∧ s.year ≤ 2100) := by
  unfold okSt at h
  simp only [Bool.and_eq_true] at h
  exact ⟨inB_of h.1.1.1, inB_of h.1.1.2, inB_of h.1.2, inB_of h.2⟩

/-- the stamp at k is valid, and its id is above the one ahead of it -/
def okAt (l : List St) (k : Nat) : Bool :=
  match l[k]? with
  | none => true
  | some s => okSt s && (decide (k = 0) || (match l[k-1]? with | none => true | some r => decide (r.id < s.id)))
def okUp (l : List St) (k : Nat) : Bool := (List.range k).all (okAt l)
theorem okUp_zero (l : List St) : okUp l 0 = true := by simp [okUp]
theorem okUp_succ (l : List St) (k : Nat) : okUp l (k + 1) = (okUp l k && okAt l k) := by simp [okUp, List.range_succ, List.all_append]
theorem okUp_not {l : List St} {k n : Nat} (h : okAt l k = false) (hk : k < n) : okUp l n = false := by
  unfold okUp
  rw [Bool.eq_false_iff]
  intro hall
  have := List.all_eq_true.1 hall k (List.mem_range.2 hk)
  rw [h] at this; exact absurd this (by simp)
/-- a list of at most twelve valid stamps with rising ids -/
def okSts (l : List St) : Bool := decide (l.length ≤ 12) && okUp l l.length
theorem okAt_of {l : List St} {k : Nat} {s : St} (hs : l[k]? = some s) (h : okAt l k = true) : okSt s = true ∧ ∀ r, 0 < k → l[k-1]? = some r → r.id < s.id := by
  unfold okAt at h
  rw [hs] at h
  simp only [Bool.and_eq_true, Bool.or_eq_true, decide_eq_true_eq] at h
  refine ⟨h.1, fun r hk hr => ?_⟩
  rcases h.2 with h0 | h0
  · omega
  · rw [hr] at h0; simpa using h0
theorem okSts_len {l : List St} (h : okSts l = true) : l.length ≤ 12 := by unfold okSts at h; simp only [Bool.and_eq_true, decide_eq_true_eq] at h; exact h.1
theorem okSts_at {l : List St} (h : okSts l = true) {k : Nat} {s : St} (hs : l[k]? = some s) : okSt s = true ∧ ∀ r, 0 < k → l[k-1]? = some r → r.id < s.id := by
  unfold okSts at h
  simp only [Bool.and_eq_true, decide_eq_true_eq] at h
  exact okAt_of hs (List.all_eq_true.1 h.2 k (List.mem_range.2 (List.getElem?_eq_some_iff.1 hs).1))
theorem okSts_mem {l : List St} (h : okSts l = true) {s : St} (hs : s ∈ l) : okSt s = true := by
  obtain ⟨k, hk⟩ := List.getElem?_of_mem hs
  exact (okSts_at h hk).1

/-- the cells of a list of stamps, one after the other -/
def flat (l : List St) : List Value := l.flatMap St.cells
theorem flat_nil : flat [] = [] := rfl
theorem flat_cons (s : St) (l : List St) : flat (s :: l) = s.cells ++ flat l := by simp [flat]
theorem flat_len (l : List St) : (flat l).length = l.length * 4 := by
  induction l with
  | nil => rfl
  | cons s l ih => rw [flat_cons, List.length_append, ih]; simp [St.cells]; omega
theorem flat_at : ∀ (l : List St) (k : Nat) (s : St), l[k]? = some s → ∀ j, j < 4 → (flat l)[k * 4 + j]? = s.cells[j]?
  | [], k, s, h, _, _ => by simp at h
  | r :: l, 0, s, h, j, hj => by
    obtain rfl : r = s := by simpa using h
    rw [flat_cons, List.getElem?_append_left (by simp [St.cells]; omega)]; simp
  | r :: l, k + 1, s, h, j, hj => by
    rw [flat_cons, List.getElem?_append_right (by simp [St.cells]; omega), show (k + 1) * 4 + j - r.cells.length = k * 4 + j by simp [St.cells]; omega]
    exact flat_at l k s (by simpa using h) j hj
end Go.Proofs.Ytlljmgphgmklcaa.PlainStamp

/- Words for reckoning with plain functions; within and l1In. No condition. -/
namespace Go.Proofs.Ytlljmgphgmklcaa.QBase
set_option linter.unusedVariables false
set_option linter.unusedSimpArgs false
open Go.RowKit
open Go.Proofs.Ytlljmgphgmklcaa.GoP Go.Proofs.Ytlljmgphgmklcaa.PlainStamp

theorem iteK_if {ρ : Type} (c : Bool) (a b : Option ρ) : iteK c a b = if c = true then a else b := by cases c <;> rfl
theorem bind2_some {α β ρ : Type} (a : α) (b : β) (f : α → β → Option ρ) : bind2 (some (a, b)) f = f a b := rfl
theorem bind3_some {α β γ ρ : Type} (a : α) (b : β) (c : γ) (f : α → β → γ → Option ρ) : bind3 (some (a, b, c)) f = f a b c := rfl
theorem unp2_mk {α β ρ : Type} (a : α) (b : β) (f : α → β → Option ρ) : unp2 (a, b) f = f a b := rfl
theorem unp3_mk {α β γ ρ : Type} (a : α) (b : β) (c : γ) (f : α → β → γ → Option ρ) : unp3 (a, b, c) f = f a b c := rfl
theorem guardK_pos {ρ : Type} {p : Prop} [Decidable p] {a : Option ρ} (h : p) : guardK p a = a := if_pos h
theorem cut2 {α β : Type} {x : Option (α × β)} {p : α × β} (h : x = some p) : x = some (p.1, p.2) := h
theorem cut3 {α β γ : Type} {x : Option (α × β × γ)} {p : α × β × γ} (h : x = some p) : x = some (p.1, p.2.1, p.2.2) := h
theorem within_eq (n a b : Int) : GiWithin.P n a b = some (inB n a b) := by
  simp only [GiWithin.P, letK, joinK, appK, iteK_if, inB]
  by_cases h1 : a ≤ n <;> by_cases h2 : n ≤ b <;> simp [h1, h2]
theorem l1In_eq (n a b : Int) : GsL1In.P n a b = some (inB n a b) := by
  simp only [GsL1In.P, letK, joinK, appK, iteK_if, inB]
  by_cases h1 : a ≤ n <;> by_cases h2 : n ≤ b <;> simp [h1, h2]
end Go.Proofs.Ytlljmgphgmklcaa.QBase

/- Reckoning with the loops of plain functions; lists of valid records with rising ids. No condition. -/
namespace Go.Proofs.Ytlljmgphgmklcaa.QLoop
set_option linter.unusedVariables false
open Go.RowKit
open Go.Proofs.Ytlljmgphgmklcaa.GoP Go.Proofs.Ytlljmgphgmklcaa.QBase

theorem cnt_ex {σ ρ : Type} {f : Nat → σ → (σ → Option ρ) → (σ → Option ρ) → Option ρ} {fin : σ → Option ρ} {Q : ρ → Prop} {n : Nat} (I : Nat → σ → Prop)
    (step : ∀ k s nx, k < n → I k s → (∀ s', I (k + 1) s' → ∃ r, nx s' = some r ∧ Q r) → ∃ r, f k s nx fin = some r ∧ Q r) (done : ∀ s, I n s → ∃ r, fin s = some r ∧ Q r) :
    ∀ m k s, k + m = n → I k s → ∃ r, cntK f m k s fin = some r ∧ Q r := by
  intro m
  induction m with
  | zero => intro k s hk hI; obtain rfl : k = n := by omega
            exact done s hI
  | succ m ih => intro k s hk hI; exact step k s _ (by omega) hI (fun s' h' => ih (k + 1) s' (by omega) h')
theorem cnt_is {σ ρ : Type} {f : Nat → σ → (σ → Option ρ) → (σ → Option ρ) → Option ρ} {fin : σ → Option ρ} {n : Nat} (r : ρ) (I : Nat → σ → Prop)
    (step : ∀ k s nx, k < n → I k s → (∀ s', I (k + 1) s' → nx s' = some r) → f k s nx fin = some r) (done : ∀ s, I n s → fin s = some r) (s : σ) (h0 : I 0 s) : cntK f n 0 s fin = some r := by
  obtain ⟨r', h, rfl⟩ := cnt_ex (Q := fun x => x = r) I (fun k s nx hk hI hn => ⟨r, step k s nx hk hI (fun s' h' => by obtain ⟨_, h, rfl⟩ := hn s' h'; exact h), rfl⟩) (fun s h => ⟨r, done s h, rfl⟩) n 0 s (by omega) h0
  exact h
theorem at_lt {α : Type} {l : List α} {k : Nat} (h : k < l.length) : ∃ x, l[k]? = some x ∧ idx l (k : Int) = some x := ⟨l[k], List.getElem?_eq_getElem h, by rw [idx_nat, List.getElem?_eq_getElem h]⟩
theorem idx_pred {α : Type} {l : List α} {k : Nat} {x : α} (hk : 0 < k) (hb : k ≤ 9223372036854775807) (h : l[k - 1]? = some x) : idx l (IntKind.i64.wrap ((k : Int) - 1)) = some x := by
  rw [IntWalk.i64_in _ (by omega), show ((k : Int) - 1) = ((k - 1 : Nat) : Int) by omega, idx_nat, h]
theorem take_next {α : Type} {l : List α} {k : Nat} {x : α} (h : l[k]? = some x) : l.take (k + 1) = l.take k ++ [x] := by
  obtain ⟨hk, e⟩ := List.getElem?_eq_some_iff.1 h
  rw [List.take_succ_eq_append_getElem hk, e]
theorem all_next {α : Type} {p : α → Bool} {l : List α} {k : Nat} {x : α} (h : l[k]? = some x) : (l.take (k + 1)).all p = ((l.take k).all p && p x) := by
  rw [take_next h]; simp
theorem not_all {α : Type} {p : α → Bool} {l : List α} {k : Nat} {x : α} (h : l[k]? = some x) (hp : p x = false) : l.all p = false := by
  rw [Bool.eq_false_iff]
  intro ha
  have := List.all_eq_true.1 ha x (List.mem_of_getElem? h)
  rw [hp] at this; exact absurd this (by simp)
theorem wrap_in {x : Int} (h1 : -9223372036854775808 ≤ x) (h2 : x ≤ 9223372036854775807) : IntKind.i64.wrap x = x := IntWalk.i64_in _ (by omega)

/-- valid, and above the one ahead of it -/
def upAt {α : Type} (ok : α → Bool) (id : α → Int) (l : List α) (k : Nat) : Bool :=
  match l[k]? with
  | none => true
  | some s => ok s && (decide (k = 0) || (match l[k-1]? with | none => true | some r => decide (id r < id s)))
def upTo {α : Type} (ok : α → Bool) (id : α → Int) (l : List α) (k : Nat) : Bool := (List.range k).all (upAt ok id l)
theorem upTo_zero {α : Type} (ok : α → Bool) (id : α → Int) (l : List α) : upTo ok id l 0 = true := rfl
theorem upTo_succ {α : Type} (ok : α → Bool) (id : α → Int) (l : List α) (k : Nat) : upTo ok id l (k + 1) = (upTo ok id l k && upAt ok id l k) := by simp [upTo, List.range_succ, List.all_append]
theorem upTo_not {α : Type} {ok : α → Bool} {id : α → Int} {l : List α} {k n : Nat} (h : upAt ok id l k = false) (hk : k < n) : upTo ok id l n = false := by
  unfold upTo
  rw [Bool.eq_false_iff]
  intro ha
  have := List.all_eq_true.1 ha k (List.mem_range.2 hk)
  rw [h] at this; exact absurd this (by simp)
/-- a list of at most m valid records with rising ids -/
def upL {α : Type} (m : Nat) (ok : α → Bool) (id : α → Int) (l : List α) : Bool := decide (l.length ≤ m) && upTo ok id l l.length
theorem upAt_bad {α : Type} {ok : α → Bool} {id : α → Int} {l : List α} {k : Nat} {s : α} (hs : l[k]? = some s) (h : ok s = false) : upAt ok id l k = false := by unfold upAt; rw [hs]; simp [h]
theorem upAt_first {α : Type} {ok : α → Bool} {id : α → Int} {l : List α} {s : α} (hs : l[0]? = some s) (h : ok s = true) : upAt ok id l 0 = true := by unfold upAt; rw [hs]; simp [h]
theorem upAt_next {α : Type} {ok : α → Bool} {id : α → Int} {l : List α} {k : Nat} {s r : α} (hs : l[k]? = some s) (hr : l[k-1]? = some r) (hk : 0 < k) (h : ok s = true) : upAt ok id l k = decide (id r < id s) := by
  unfold upAt; rw [hs]; simp only [hr, h, Bool.true_and, decide_eq_false (show ¬ k = 0 by omega), Bool.false_or]
theorem upL_len {α : Type} {m : Nat} {ok : α → Bool} {id : α → Int} {l : List α} (h : upL m ok id l = true) : l.length ≤ m := by unfold upL at h; simp only [Bool.and_eq_true, decide_eq_true_eq] at h; exact h.1
theorem upL_ok {α : Type} {m : Nat} {ok : α → Bool} {id : α → Int} {l : List α} (h : upL m ok id l = true) {k : Nat} {s : α} (hs : l[k]? = some s) : ok s = true := by
  unfold upL at h
  simp only [Bool.and_eq_true, decide_eq_true_eq] at h
  have := List.all_eq_true.1 h.2 k (List.mem_range.2 (List.getElem?_eq_some_iff.1 hs).1)
  unfold upAt at this
  rw [hs] at this
  simp only [Bool.and_eq_true] at this
  exact this.1
theorem upL_mem {α : Type} {m : Nat} {ok : α → Bool} {id : α → Int} {l : List α} (h : upL m ok id l = true) {s : α} (hs : s ∈ l) : ok s = true := by
  obtain ⟨k, hk⟩ := List.getElem?_of_mem hs
  exact upL_ok h hk
/-- a loop that goes through a list of records and stops with 'false' at the first that is bad -/
theorem up_loop {α : Type} {ok : α → Bool} {id : α → Int} {l : List α} {R : Type} {no : R} {f : Nat → Unit → (Unit → Option R) → (Unit → Option R) → Option R} {fin : Unit → Option R}
    (step : ∀ k nx s, l[k]? = some s → (ok s = false → f k () nx fin = some no) ∧ (ok s = true → (k = 0 → f k () nx fin = nx ()) ∧ (0 < k → ∀ r, l[k-1]? = some r → (id r < id s → f k () nx fin = nx ()) ∧ (id s ≤ id r → f k () nx fin = some no)))) :
    cntK f l.length 0 () fin = if upTo ok id l l.length then fin () else some no := by
  have key : ∀ m k, k + m = l.length → upTo ok id l k = true → cntK f m k () fin = if upTo ok id l l.length then fin () else some no := by
    intro m
    induction m with
    | zero => intro k hk hu; obtain rfl : k = l.length := by omega
              rw [hu]; rfl
    | succ m ih =>
      intro k hk hu
      have hlt : k < l.length := by omega
      obtain ⟨s, hs, _⟩ := at_lt hlt
      obtain ⟨h1, h2⟩ := step k (fun s' => cntK f m (k + 1) s' fin) s hs
      show f k () _ fin = _
      cases hok : ok s with
      | false => rw [h1 hok, upTo_not (upAt_bad hs hok) hlt]; rfl
      | true =>
        obtain ⟨h3, h4⟩ := h2 hok
        by_cases hk0 : k = 0
        · rw [h3 hk0]
          subst hk0
          exact ih 1 (by omega) (by rw [upTo_succ, hu, upAt_first hs hok]; rfl)
        · obtain ⟨r, hr, _⟩ := at_lt (l := l) (k := k - 1) (by omega)
          obtain ⟨h5, h6⟩ := h4 (by omega) r hr
          by_cases hlt2 : id r < id s
          · rw [h5 hlt2]
            exact ih (k + 1) (by omega) (by rw [upTo_succ, hu, upAt_next hs hr (by omega) hok]; simpa using hlt2)
          · rw [h6 (by omega), upTo_not (by rw [upAt_next hs hr (by omega) hok]; simpa using hlt2) hlt]; rfl
  exact key l.length 0 (by omega) (upTo_zero ok id l)
end Go.Proofs.Ytlljmgphgmklcaa.QLoop

/- Plain words on the record Rate: its fields, its cells, a list of it as cells one after the other. No condition. -/
namespace Go.Proofs.Ytlljmgphgmklcaa.PRate
set_option linter.unusedVariables false
set_option maxRecDepth 100000

structure Rate where
  zone : Int
  grams : Int
  from_ : Int
  until_ : Int
  cents : Int
def Rate.cells (s : Rate) : List Value := [.int .i64 s.zone, .int .i64 s.grams, .int .i64 s.from_, .int .i64 s.until_, .int .i64 s.cents]
def Rate.val (s : Rate) : Value := .agg #[.int .i64 s.zone, .int .i64 s.grams, .int .i64 s.from_, .int .i64 s.until_, .int .i64 s.cents]
/-- each field fits -/
def Rate.fits (s : Rate) : Prop := (Lit.int .i64 s.zone).wf = true ∧ (Lit.int .i64 s.grams).wf = true ∧ (Lit.int .i64 s.from_).wf = true ∧ (Lit.int .i64 s.until_).wf = true ∧ (Lit.int .i64 s.cents).wf = true
def zero : Rate := ⟨0, 0, 0, 0, 0⟩
/-- the letters of its texts -/
def Rate.wt (s : Rate) : Nat := 0
def wts (l : List Rate) : Nat := (l.map Rate.wt).sum
theorem wts_snoc (l : List Rate) (s : Rate) : wts (l ++ [s]) = wts l + s.wt := by unfold wts; simp [List.sum_append]
theorem wts_succ {l : List Rate} {k : Nat} {s : Rate} (h : l[k]? = some s) : wts (l.take (k + 1)) = wts (l.take k) + s.wt := by
  have hk := List.getElem?_eq_some_iff.1 h
  rw [List.take_succ_eq_append_getElem hk.1, hk.2, wts_snoc]
theorem wts_take (l : List Rate) (k : Nat) : wts (l.take k) ≤ wts l := by
  have : wts l = wts (l.take k) + wts (l.drop k) := by
    unfold wts; rw [← List.sum_append, ← List.map_append, List.take_append_drop]
  omega
theorem wts_all (l : List Rate) : wts (l.take l.length) = wts l := by rw [List.take_of_length_le (Nat.le_refl _)]

/-- the cells of a list of records, one after the other -/
def flat (l : List Rate) : List Value := l.flatMap Rate.cells
theorem flat_nil : flat [] = [] := rfl
theorem flat_cons (s : Rate) (l : List Rate) : flat (s :: l) = s.cells ++ flat l := by simp [flat]
theorem flat_snoc (l : List Rate) (s : Rate) : flat (l ++ [s]) = flat l ++ s.cells := by simp [flat]
theorem flat_len (l : List Rate) : (flat l).length = l.length * 5 := by
  induction l with
  | nil => rfl
  | cons s l ih => rw [flat_cons, List.length_append, ih]; simp [Rate.cells]; omega
theorem flat_at : ∀ (l : List Rate) (k : Nat) (s : Rate), l[k]? = some s → ∀ j, j < 5 → (flat l)[k * 5 + j]? = s.cells[j]?
  | [], k, s, h, _, _ => by simp at h
  | r :: l, 0, s, h, j, hj => by
    obtain rfl : r = s := by simpa using h
    rw [flat_cons, List.getElem?_append_left (by simp [Rate.cells]; omega)]; simp
  | r :: l, k + 1, s, h, j, hj => by
    rw [flat_cons, List.getElem?_append_right (by simp [Rate.cells]; omega), show (k + 1) * 5 + j - r.cells.length = k * 5 + j by simp [Rate.cells]; omega]
    exact flat_at l k s (by simpa using h) j hj
end Go.Proofs.Ytlljmgphgmklcaa.PRate

/- Plain words on the record rateClass: its fields, its cells, a list of it as cells one after the other. No condition. -/
namespace Go.Proofs.Ytlljmgphgmklcaa.PrateClass
set_option linter.unusedVariables false
set_option maxRecDepth 100000

structure rateClass where
  zone : Int
  grams : Int
def rateClass.cells (s : rateClass) : List Value := [.int .i64 s.zone, .int .i64 s.grams]
def rateClass.val (s : rateClass) : Value := .agg #[.int .i64 s.zone, .int .i64 s.grams]
/-- each field fits -/
def rateClass.fits (s : rateClass) : Prop := (Lit.int .i64 s.zone).wf = true ∧ (Lit.int .i64 s.grams).wf = true
def zero : rateClass := ⟨0, 0⟩
/-- the letters of its texts -/
def rateClass.wt (s : rateClass) : Nat := 0
def wts (l : List rateClass) : Nat := (l.map rateClass.wt).sum
theorem wts_snoc (l : List rateClass) (s : rateClass) : wts (l ++ [s]) = wts l + s.wt := by unfold wts; simp [List.sum_append]
theorem wts_succ {l : List rateClass} {k : Nat} {s : rateClass} (h : l[k]? = some s) : wts (l.take (k + 1)) = wts (l.take k) + s.wt := by
  have hk := List.getElem?_eq_some_iff.1 h
  rw [List.take_succ_eq_append_getElem hk.1, hk.2, wts_snoc]
theorem wts_take (l : List rateClass) (k : Nat) : wts (l.take k) ≤ wts l := by
  have : wts l = wts (l.take k) + wts (l.drop k) := by
    unfold wts; rw [← List.sum_append, ← List.map_append, List.take_append_drop]
  omega
theorem wts_all (l : List rateClass) : wts (l.take l.length) = wts l := by rw [List.take_of_length_le (Nat.le_refl _)]

/-- the cells of a list of records, one after the other -/
def flat (l : List rateClass) : List Value := l.flatMap rateClass.cells
theorem flat_nil : flat [] = [] := rfl
theorem flat_cons (s : rateClass) (l : List rateClass) : flat (s :: l) = s.cells ++ flat l := by simp [flat]
theorem flat_snoc (l : List rateClass) (s : rateClass) : flat (l ++ [s]) = flat l ++ s.cells := by simp [flat]
theorem flat_len (l : List rateClass) : (flat l).length = l.length * 2 := by
  induction l with
  | nil => rfl
  | cons s l ih => rw [flat_cons, List.length_append, ih]; simp [rateClass.cells]; omega
theorem flat_at : ∀ (l : List rateClass) (k : Nat) (s : rateClass), l[k]? = some s → ∀ j, j < 2 → (flat l)[k * 2 + j]? = s.cells[j]?
  | [], k, s, h, _, _ => by simp at h
  | r :: l, 0, s, h, j, hj => by
    obtain rfl : r = s := by simpa using h
    rw [flat_cons, List.getElem?_append_left (by simp [rateClass.cells]; omega)]; simp
  | r :: l, k + 1, s, h, j, hj => by
    rw [flat_cons, List.getElem?_append_right (by simp [rateClass.cells]; omega), show (k + 1) * 2 + j - r.cells.length = k * 2 + j by simp [rateClass.cells]; omega]
    exact flat_at l k s (by simpa using h) j hj
end Go.Proofs.Ytlljmgphgmklcaa.PrateClass

/- A record Rate opened into its fields. No condition. -/
namespace Go.Proofs.Ytlljmgphgmklcaa.GoP
set_option linter.unusedVariables false
open Go.RowKit
def unRate {ρ : Type} (s : Go.Proofs.Ytlljmgphgmklcaa.PRate.Rate) (f : Int → Int → Int → Int → Int → Option ρ) : Option ρ := f s.zone s.grams s.from_ s.until_ s.cents
theorem unRate_hid {ρ : Type} {x0 : Int} {x1 : Int} {x2 : Int} {x3 : Int} {x4 : Int} {f : Int → Int → Int → Int → Int → Option ρ} {r : ρ} (H : Hid (unRate ⟨x0, x1, x2, x3, x4⟩ f = some r)) : Hid (f x0 x1 x2 x3 x4 = some r) := H
end Go.Proofs.Ytlljmgphgmklcaa.GoP

/- A record rateClass opened into its fields. No condition. -/
namespace Go.Proofs.Ytlljmgphgmklcaa.GoP
set_option linter.unusedVariables false
open Go.RowKit
def unrateClass {ρ : Type} (s : Go.Proofs.Ytlljmgphgmklcaa.PrateClass.rateClass) (f : Int → Int → Option ρ) : Option ρ := f s.zone s.grams
theorem unrateClass_hid {ρ : Type} {x0 : Int} {x1 : Int} {f : Int → Int → Option ρ} {r : ρ} (H : Hid (unrateClass ⟨x0, x1⟩ f = some r)) : Hid (f x0 x1 = some r) := H
end Go.Proofs.Ytlljmgphgmklcaa.GoP

/- loop.example/g01062/impl.IsRate as a plain function, and the contract of the program's: where the plain one has an answer, the program has it. Conditions: slices read as lists. -/
namespace Go.Proofs.Ytlljmgphgmklcaa.GiIsRate
set_option linter.unusedVariables false
set_option linter.unusedSimpArgs false
open Go.RowKit
open Go.Proofs.Ytlljmgphgmklcaa.Rowed Go.Proofs.Ytlljmgphgmklcaa.Turn Go.Proofs.Ytlljmgphgmklcaa.Aid Go.Proofs.Ytlljmgphgmklcaa.GoP Go.Proofs.Ytlljmgphgmklcaa.GoM

def P (r_0 : Go.Proofs.Ytlljmgphgmklcaa.PRate.Rate) : Option (Bool) :=
  unRate r_0 fun (r_0_zone : Int) (r_0_grams : Int) (r_0_from_ : Int) (r_0_until_ : Int) (r_0_cents : Int) =>
  Option.bind (Go.Proofs.Ytlljmgphgmklcaa.GiIsZone.P r_0_zone) fun (t_4 : Bool) =>
  joinK (fun (t_9 : Bool) =>
  joinK (fun (t_14 : Bool) =>
  joinK (fun (t_19 : Bool) =>
  joinK (fun (t_24 : Bool) =>
  joinK (fun (t_31 : Bool) =>
  some t_31) fun jt_31 => iteK t_24 (letK (decide (r_0_from_ ≤ r_0_until_)) fun (t_30 : Bool) =>
  appK jt_31 t_30) (appK jt_31 false)) fun jt_24 => iteK t_19 (Option.bind (Go.Proofs.Ytlljmgphgmklcaa.GiIsDay.P r_0_until_) fun (t_23 : Bool) =>
  appK jt_24 t_23) (appK jt_24 false)) fun jt_19 => iteK t_14 (Option.bind (Go.Proofs.Ytlljmgphgmklcaa.GiIsDay.P r_0_from_) fun (t_18 : Bool) =>
  appK jt_19 t_18) (appK jt_19 false)) fun jt_14 => iteK t_9 (Option.bind (Go.Proofs.Ytlljmgphgmklcaa.GiIsRateCents.P r_0_cents) fun (t_13 : Bool) =>
  appK jt_14 t_13) (appK jt_14 false)) fun jt_9 => iteK t_4 (Option.bind (Go.Proofs.Ytlljmgphgmklcaa.GiIsWeight.P r_0_grams) fun (t_8 : Bool) =>
  appK jt_9 t_8) (appK jt_9 false)

set_option maxRecDepth 100000 in
set_option maxHeartbeats 2000000 in
theorem C (r_0 : Go.Proofs.Ytlljmgphgmklcaa.PRate.Rate)   (w : World)   {r : Bool} (H : Hid (P r_0 = some r)) :
    Calls Try.prog 132 #[r_0.val] w (Gives (.bool r) w) := by
  have HB := Lib.hid (Below.refl w.heap.size w)
  unfold P at H
  obtain ⟨r_0_zone, r_0_grams, r_0_from_, r_0_until_, r_0_cents⟩ := r_0
  replace H := unRate_hid H
  unfold Go.Proofs.Ytlljmgphgmklcaa.PRate.Rate.val
  go_enter Try.func132, Try.ntmps132
  obtain ⟨w_r_0, hw_r_0⟩ : ∃ x, w.alloc (.cells #[.int .i64 r_0_zone, .int .i64 r_0_grams, .int .i64 r_0_from_, .int .i64 r_0_until_, .int .i64 r_0_cents] 104) = x := ⟨_, rfl⟩
  have bw_r_0 : Below w.heap.size w w_r_0 := by rw [← hw_r_0]; exact (Below.refl _ _).alloc (Nat.le_refl _) _
  have HBw_r_0 := Lib.hid (Below.step HB.out bw_r_0)
  clear bw_r_0
  have kr_0_0 : w_r_0.cell? ⟨w.heap.size, 0, none⟩ = some (.int .i64 r_0_zone) := by rw [← hw_r_0]; exact box_new _ _ _ 0 _ rfl
  have kr_0_1 : w_r_0.cell? ⟨w.heap.size, 1, none⟩ = some (.int .i64 r_0_grams) := by rw [← hw_r_0]; exact box_new _ _ _ 1 _ rfl
  have kr_0_2 : w_r_0.cell? ⟨w.heap.size, 2, none⟩ = some (.int .i64 r_0_from_) := by rw [← hw_r_0]; exact box_new _ _ _ 2 _ rfl
  have kr_0_3 : w_r_0.cell? ⟨w.heap.size, 3, none⟩ = some (.int .i64 r_0_until_) := by rw [← hw_r_0]; exact box_new _ _ _ 3 _ rfl
  have kr_0_4 : w_r_0.cell? ⟨w.heap.size, 4, none⟩ = some (.int .i64 r_0_cents) := by rw [← hw_r_0]; exact box_new _ _ _ 4 _ rfl
  replace H := bind_hid H
  obtain ⟨t_4, qt_4, H⟩ := H
  go_wp2_with fail
  go_at_call 80
  refine (Go.Proofs.Ytlljmgphgmklcaa.GiIsZone.C (r_0_zone)  _    qt_4).mono ?_
  rintro e_t_4 wt_4 ⟨rfl, bt_4⟩
  have HBwt_4 := Lib.hid (Below.step HBw_r_0.out bt_4)
  replace kr_0_0 := cell_below bt_4 kr_0_0
  replace kr_0_1 := cell_below bt_4 kr_0_1
  replace kr_0_2 := cell_below bt_4 kr_0_2
  replace kr_0_3 := cell_below bt_4 kr_0_3
  replace kr_0_4 := cell_below bt_4 kr_0_4
  clear bt_4
  replace H := join_hid H
  cases t_4 with
  | false =>
    replace H := ite_f H
    replace H := app_hid H
    replace H := join_hid H
    replace H := ite_f H
    replace H := app_hid H
    replace H := join_hid H
    replace H := ite_f H
    replace H := app_hid H
    replace H := join_hid H
    replace H := ite_f H
    replace H := app_hid H
    replace H := join_hid H
    replace H := ite_f H
    replace H := app_hid H
    obtain rfl := ret_hid H
    go_wp2_with fail
    go_ret
    exact ⟨rfl, HBwt_4.out⟩
  | true =>
    replace H := ite_t H
    replace H := bind_hid H
    obtain ⟨t_8, qt_8, H⟩ := H
    go_wp2_with fail
    go_at_call 81
    refine (Go.Proofs.Ytlljmgphgmklcaa.GiIsWeight.C (r_0_grams)  _    qt_8).mono ?_
    rintro e_t_8 wt_8 ⟨rfl, bt_8⟩
    have HBwt_8 := Lib.hid (Below.step HBwt_4.out bt_8)
    replace kr_0_0 := cell_below bt_8 kr_0_0
    replace kr_0_1 := cell_below bt_8 kr_0_1
    replace kr_0_2 := cell_below bt_8 kr_0_2
    replace kr_0_3 := cell_below bt_8 kr_0_3
    replace kr_0_4 := cell_below bt_8 kr_0_4
    clear bt_8
    replace H := app_hid H
    replace H := join_hid H
    cases t_8 with
    | false =>
      replace H := ite_f H
      replace H := app_hid H
      replace H := join_hid H
      replace H := ite_f H
      replace H := app_hid H
      replace H := join_hid H
      replace H := ite_f H
      replace H := app_hid H
      replace H := join_hid H
      replace H := ite_f H
      replace H := app_hid H
      obtain rfl := ret_hid H
      go_wp2_with fail
      go_ret
      exact ⟨rfl, HBwt_8.out⟩
    | true =>
      replace H := ite_t H
      replace H := bind_hid H
      obtain ⟨t_13, qt_13, H⟩ := H
      go_wp2_with fail
      go_at_call 82
      refine (Go.Proofs.Ytlljmgphgmklcaa.GiIsRateCents.C (r_0_cents)  _    qt_13).mono ?_
      rintro e_t_13 wt_13 ⟨rfl, bt_13⟩
      have HBwt_13 := Lib.hid (Below.step HBwt_8.out bt_13)
      replace kr_0_0 := cell_below bt_13 kr_0_0
      replace kr_0_1 := cell_below bt_13 kr_0_1
      replace kr_0_2 := cell_below bt_13 kr_0_2
      replace kr_0_3 := cell_below bt_13 kr_0_3
      replace kr_0_4 := cell_below bt_13 kr_0_4
      clear bt_13
      replace H := app_hid H
      replace H := join_hid H
      cases t_13 with
      | false =>
        replace H := ite_f H
        replace H := app_hid H
        replace H := join_hid H
        replace H := ite_f H
        replace H := app_hid H
        replace H := join_hid H
        replace H := ite_f H
        replace H := app_hid H
        obtain rfl := ret_hid H
        go_wp2_with fail
        go_ret
        exact ⟨rfl, HBwt_13.out⟩
      | true =>
        replace H := ite_t H
        replace H := bind_hid H
        obtain ⟨t_18, qt_18, H⟩ := H
        go_wp2_with fail
        go_at_call 79
        refine (Go.Proofs.Ytlljmgphgmklcaa.GiIsDay.C (r_0_from_)  _    qt_18).mono ?_
        rintro e_t_18 wt_18 ⟨rfl, bt_18⟩
        have HBwt_18 := Lib.hid (Below.step HBwt_13.out bt_18)
        replace kr_0_0 := cell_below bt_18 kr_0_0
        replace kr_0_1 := cell_below bt_18 kr_0_1
        replace kr_0_2 := cell_below bt_18 kr_0_2
        replace kr_0_3 := cell_below bt_18 kr_0_3
        replace kr_0_4 := cell_below bt_18 kr_0_4
        clear bt_18
        replace H := app_hid H
        replace H := join_hid H
        cases t_18 with
        | false =>
          replace H := ite_f H
          replace H := app_hid H
          replace H := join_hid H
          replace H := ite_f H
          replace H := app_hid H
          obtain rfl := ret_hid H
          go_wp2_with fail
          go_ret
          exact ⟨rfl, HBwt_18.out⟩
        | true =>
          replace H := ite_t H
          replace H := bind_hid H
          obtain ⟨t_23, qt_23, H⟩ := H
          go_wp2_with fail
          go_at_call 79
          refine (Go.Proofs.Ytlljmgphgmklcaa.GiIsDay.C (r_0_until_)  _    qt_23).mono ?_
          rintro e_t_23 wt_23 ⟨rfl, bt_23⟩
          have HBwt_23 := Lib.hid (Below.step HBwt_18.out bt_23)
          replace kr_0_0 := cell_below bt_23 kr_0_0
          replace kr_0_1 := cell_below bt_23 kr_0_1
          replace kr_0_2 := cell_below bt_23 kr_0_2
          replace kr_0_3 := cell_below bt_23 kr_0_3
          replace kr_0_4 := cell_below bt_23 kr_0_4
          clear bt_23
          replace H := app_hid H
          replace H := join_hid H
          cases t_23 with
          | false =>
            replace H := ite_f H
            replace H := app_hid H
            obtain rfl := ret_hid H
            go_wp2_with fail
            go_ret
            exact ⟨rfl, HBwt_23.out⟩
          | true =>
            replace H := ite_t H
            replace H := let_hid H
            obtain ⟨t_30, ht_30, H⟩ := H
            replace H := app_hid H
            obtain rfl := ret_hid H
            go_wp2_with fail
            go_ret
            exact ⟨rfl, HBwt_23.out⟩
end Go.Proofs.Ytlljmgphgmklcaa.GiIsRate

/- loop.example/g01062/spec.l8One as a plain function, and the contract of the program's: where the plain one has an answer, the program has it. Conditions: slices read as lists. -/
namespace Go.Proofs.Ytlljmgphgmklcaa.GsL8One
set_option linter.unusedVariables false
set_option linter.unusedSimpArgs false
open Go.RowKit
open Go.Proofs.Ytlljmgphgmklcaa.Rowed Go.Proofs.Ytlljmgphgmklcaa.Turn Go.Proofs.Ytlljmgphgmklcaa.Aid Go.Proofs.Ytlljmgphgmklcaa.GoP Go.Proofs.Ytlljmgphgmklcaa.GoM

def P (r_0 : Go.Proofs.Ytlljmgphgmklcaa.PRate.Rate) : Option (Bool) :=
  unRate r_0 fun (r_0_zone : Int) (r_0_grams : Int) (r_0_from_ : Int) (r_0_until_ : Int) (r_0_cents : Int) =>
  Option.bind (Go.Proofs.Ytlljmgphgmklcaa.GsL8Zone.P r_0_zone) fun (t_4 : Bool) =>
  joinK (fun (t_9 : Bool) =>
  joinK (fun (t_14 : Bool) =>
  joinK (fun (t_21 : Bool) =>
  joinK (fun (t_26 : Bool) =>
  some t_26) fun jt_26 => iteK t_21 (Option.bind (Go.Proofs.Ytlljmgphgmklcaa.GsL8Cents.P r_0_cents) fun (t_25 : Bool) =>
  appK jt_26 t_25) (appK jt_26 false)) fun jt_21 => iteK t_14 (Option.bind (Go.Proofs.Ytlljmgphgmklcaa.GsL1In.P r_0_from_ 0 r_0_until_) fun (t_20 : Bool) =>
  appK jt_21 t_20) (appK jt_21 false)) fun jt_14 => iteK t_9 (Option.bind (Go.Proofs.Ytlljmgphgmklcaa.GsL2Day.P r_0_until_) fun (t_13 : Bool) =>
  appK jt_14 t_13) (appK jt_14 false)) fun jt_9 => iteK t_4 (Option.bind (Go.Proofs.Ytlljmgphgmklcaa.GsL8Grams.P r_0_grams) fun (t_8 : Bool) =>
  appK jt_9 t_8) (appK jt_9 false)

set_option maxRecDepth 100000 in
set_option maxHeartbeats 2000000 in
theorem C (r_0 : Go.Proofs.Ytlljmgphgmklcaa.PRate.Rate)   (w : World)   {r : Bool} (H : Hid (P r_0 = some r)) :
    Calls Try.prog 141 #[r_0.val] w (Gives (.bool r) w) := by
  have HB := Lib.hid (Below.refl w.heap.size w)
  unfold P at H
  obtain ⟨r_0_zone, r_0_grams, r_0_from_, r_0_until_, r_0_cents⟩ := r_0
  replace H := unRate_hid H
  unfold Go.Proofs.Ytlljmgphgmklcaa.PRate.Rate.val
  go_enter Try.func141, Try.ntmps141
  obtain ⟨w_r_0, hw_r_0⟩ : ∃ x, w.alloc (.cells #[.int .i64 r_0_zone, .int .i64 r_0_grams, .int .i64 r_0_from_, .int .i64 r_0_until_, .int .i64 r_0_cents] 104) = x := ⟨_, rfl⟩
  have bw_r_0 : Below w.heap.size w w_r_0 := by rw [← hw_r_0]; exact (Below.refl _ _).alloc (Nat.le_refl _) _
  have HBw_r_0 := Lib.hid (Below.step HB.out bw_r_0)
  clear bw_r_0
  have kr_0_0 : w_r_0.cell? ⟨w.heap.size, 0, none⟩ = some (.int .i64 r_0_zone) := by rw [← hw_r_0]; exact box_new _ _ _ 0 _ rfl
  have kr_0_1 : w_r_0.cell? ⟨w.heap.size, 1, none⟩ = some (.int .i64 r_0_grams) := by rw [← hw_r_0]; exact box_new _ _ _ 1 _ rfl
  have kr_0_2 : w_r_0.cell? ⟨w.heap.size, 2, none⟩ = some (.int .i64 r_0_from_) := by rw [← hw_r_0]; exact box_new _ _ _ 2 _ rfl
  have kr_0_3 : w_r_0.cell? ⟨w.heap.size, 3, none⟩ = some (.int .i64 r_0_until_) := by rw [← hw_r_0]; exact box_new _ _ _ 3 _ rfl
  have kr_0_4 : w_r_0.cell? ⟨w.heap.size, 4, none⟩ = some (.int .i64 r_0_cents) := by rw [← hw_r_0]; exact box_new _ _ _ 4 _ rfl
  replace H := bind_hid H
  obtain ⟨t_4, qt_4, H⟩ := H
  go_wp2_with fail
  go_at_call 139
  refine (Go.Proofs.Ytlljmgphgmklcaa.GsL8Zone.C (r_0_zone)  _    qt_4).mono ?_
  rintro e_t_4 wt_4 ⟨rfl, bt_4⟩
  have HBwt_4 := Lib.hid (Below.step HBw_r_0.out bt_4)
  replace kr_0_0 := cell_below bt_4 kr_0_0
  replace kr_0_1 := cell_below bt_4 kr_0_1
  replace kr_0_2 := cell_below bt_4 kr_0_2
  replace kr_0_3 := cell_below bt_4 kr_0_3
  replace kr_0_4 := cell_below bt_4 kr_0_4
  clear bt_4
  replace H := join_hid H
  cases t_4 with
  | false =>
    replace H := ite_f H
    replace H := app_hid H
    replace H := join_hid H
    replace H := ite_f H
    replace H := app_hid H
    replace H := join_hid H
    replace H := ite_f H
    replace H := app_hid H
    replace H := join_hid H
    replace H := ite_f H
    replace H := app_hid H
    obtain rfl := ret_hid H
    go_wp2_with fail
    go_ret
    exact ⟨rfl, HBwt_4.out⟩
  | true =>
    replace H := ite_t H
    replace H := bind_hid H
    obtain ⟨t_8, qt_8, H⟩ := H
    go_wp2_with fail
    go_at_call 134
    refine (Go.Proofs.Ytlljmgphgmklcaa.GsL8Grams.C (r_0_grams)  _    qt_8).mono ?_
    rintro e_t_8 wt_8 ⟨rfl, bt_8⟩
    have HBwt_8 := Lib.hid (Below.step HBwt_4.out bt_8)
    replace kr_0_0 := cell_below bt_8 kr_0_0
    replace kr_0_1 := cell_below bt_8 kr_0_1
    replace kr_0_2 := cell_below bt_8 kr_0_2
    replace kr_0_3 := cell_below bt_8 kr_0_3
    replace kr_0_4 := cell_below bt_8 kr_0_4
    clear bt_8
    replace H := app_hid H
    replace H := join_hid H
    cases t_8 with
    | false =>
      replace H := ite_f H
      replace H := app_hid H
      replace H := join_hid H
      replace H := ite_f H
      replace H := app_hid H
      replace H := join_hid H
      replace H := ite_f H
      replace H := app_hid H
      obtain rfl := ret_hid H
      go_wp2_with fail
      go_ret
      exact ⟨rfl, HBwt_8.out⟩
    | true =>
      replace H := ite_t H
      replace H := bind_hid H
      obtain ⟨t_13, qt_13, H⟩ := H
      go_wp2_with fail
      go_at_call 129
      refine (Go.Proofs.Ytlljmgphgmklcaa.GsL2Day.C (r_0_until_)  _    qt_13).mono ?_
      rintro e_t_13 wt_13 ⟨rfl, bt_13⟩
      have HBwt_13 := Lib.hid (Below.step HBwt_8.out bt_13)
      replace kr_0_0 := cell_below bt_13 kr_0_0
      replace kr_0_1 := cell_below bt_13 kr_0_1
      replace kr_0_2 := cell_below bt_13 kr_0_2
      replace kr_0_3 := cell_below bt_13 kr_0_3
      replace kr_0_4 := cell_below bt_13 kr_0_4
      clear bt_13
      replace H := app_hid H
      replace H := join_hid H
      cases t_13 with
      | false =>
        replace H := ite_f H
        replace H := app_hid H
        replace H := join_hid H
        replace H := ite_f H
        replace H := app_hid H
        obtain rfl := ret_hid H
        go_wp2_with fail
        go_ret
        exact ⟨rfl, HBwt_13.out⟩
      | true =>
        replace H := ite_t H
        replace H := bind_hid H
        obtain ⟨t_20, qt_20, H⟩ := H
        go_wp2_with fail
        go_at_call 113
        refine (Go.Proofs.Ytlljmgphgmklcaa.GsL1In.C (r_0_from_) (0) (r_0_until_)  _    qt_20).mono ?_
        rintro e_t_20 wt_20 ⟨rfl, bt_20⟩
        have HBwt_20 := Lib.hid (Below.step HBwt_13.out bt_20)
        replace kr_0_0 := cell_below bt_20 kr_0_0
        replace kr_0_1 := cell_below bt_20 kr_0_1
        replace kr_0_2 := cell_below bt_20 kr_0_2
        replace kr_0_3 := cell_below bt_20 kr_0_3
        replace kr_0_4 := cell_below bt_20 kr_0_4
        clear bt_20
        replace H := app_hid H
        replace H := join_hid H
        cases t_20 with
        | false =>
          replace H := ite_f H
          replace H := app_hid H
          obtain rfl := ret_hid H
          go_wp2_with fail
          go_ret
          exact ⟨rfl, HBwt_20.out⟩
        | true =>
          replace H := ite_t H
          replace H := bind_hid H
          obtain ⟨t_25, qt_25, H⟩ := H
          go_wp2_with fail
          go_at_call 130
          refine (Go.Proofs.Ytlljmgphgmklcaa.GsL8Cents.C (r_0_cents)  _    qt_25).mono ?_
          rintro e_t_25 wt_25 ⟨rfl, bt_25⟩
          have HBwt_25 := Lib.hid (Below.step HBwt_20.out bt_25)
          replace kr_0_0 := cell_below bt_25 kr_0_0
          replace kr_0_1 := cell_below bt_25 kr_0_1
          replace kr_0_2 := cell_below bt_25 kr_0_2
          replace kr_0_3 := cell_below bt_25 kr_0_3
          replace kr_0_4 := cell_below bt_25 kr_0_4
          clear bt_25
          replace H := app_hid H
          obtain rfl := ret_hid H
          go_wp2_with fail
          go_ret
          exact ⟨rfl, HBwt_25.out⟩
end Go.Proofs.Ytlljmgphgmklcaa.GsL8One

/- loop.example/g01062/impl.classOf as a plain function, and the contract of the program's: where the plain one has an answer, the program has it. Conditions: slices read as lists. -/
namespace Go.Proofs.Ytlljmgphgmklcaa.GiClassOf
set_option linter.unusedVariables false
set_option linter.unusedSimpArgs false
open Go.RowKit
open Go.Proofs.Ytlljmgphgmklcaa.Rowed Go.Proofs.Ytlljmgphgmklcaa.Turn Go.Proofs.Ytlljmgphgmklcaa.Aid Go.Proofs.Ytlljmgphgmklcaa.GoP Go.Proofs.Ytlljmgphgmklcaa.GoM

def P (r_0 : Go.Proofs.Ytlljmgphgmklcaa.PRate.Rate) : Option (Go.Proofs.Ytlljmgphgmklcaa.PrateClass.rateClass) :=
  unRate r_0 fun (r_0_zone : Int) (r_0_grams : Int) (r_0_from_ : Int) (r_0_until_ : Int) (r_0_cents : Int) =>
  some (Go.Proofs.Ytlljmgphgmklcaa.PrateClass.rateClass.mk r_0_zone r_0_grams)

set_option maxRecDepth 100000 in
set_option maxHeartbeats 2000000 in
theorem C (r_0 : Go.Proofs.Ytlljmgphgmklcaa.PRate.Rate)   (w : World)   {r : Go.Proofs.Ytlljmgphgmklcaa.PrateClass.rateClass} (H : Hid (P r_0 = some r)) :
    Calls Try.prog 127 #[r_0.val] w (Gives ((Go.Proofs.Ytlljmgphgmklcaa.PrateClass.rateClass.val r)) w) := by
  have HB := Lib.hid (Below.refl w.heap.size w)
  unfold P at H
  obtain ⟨r_0_zone, r_0_grams, r_0_from_, r_0_until_, r_0_cents⟩ := r_0
  replace H := unRate_hid H
  unfold Go.Proofs.Ytlljmgphgmklcaa.PRate.Rate.val
  go_enter Try.func127, Try.ntmps127
  obtain ⟨w_r_0, hw_r_0⟩ : ∃ x, w.alloc (.cells #[.int .i64 r_0_zone, .int .i64 r_0_grams, .int .i64 r_0_from_, .int .i64 r_0_until_, .int .i64 r_0_cents] 104) = x := ⟨_, rfl⟩
  have bw_r_0 : Below w.heap.size w w_r_0 := by rw [← hw_r_0]; exact (Below.refl _ _).alloc (Nat.le_refl _) _
  have HBw_r_0 := Lib.hid (Below.step HB.out bw_r_0)
  clear bw_r_0
  have kr_0_0 : w_r_0.cell? ⟨w.heap.size, 0, none⟩ = some (.int .i64 r_0_zone) := by rw [← hw_r_0]; exact box_new _ _ _ 0 _ rfl
  have kr_0_1 : w_r_0.cell? ⟨w.heap.size, 1, none⟩ = some (.int .i64 r_0_grams) := by rw [← hw_r_0]; exact box_new _ _ _ 1 _ rfl
  have kr_0_2 : w_r_0.cell? ⟨w.heap.size, 2, none⟩ = some (.int .i64 r_0_from_) := by rw [← hw_r_0]; exact box_new _ _ _ 2 _ rfl
  have kr_0_3 : w_r_0.cell? ⟨w.heap.size, 3, none⟩ = some (.int .i64 r_0_until_) := by rw [← hw_r_0]; exact box_new _ _ _ 3 _ rfl
  have kr_0_4 : w_r_0.cell? ⟨w.heap.size, 4, none⟩ = some (.int .i64 r_0_cents) := by rw [← hw_r_0]; exact box_new _ _ _ 4 _ rfl
  obtain ⟨w_t_1, hw_t_1⟩ : ∃ x, w_r_0.alloc (.cells #[.int .i64 0, .int .i64 0] 141) = x := ⟨_, rfl⟩
  have bw_t_1 : Below w_r_0.heap.size w_r_0 w_t_1 := by rw [← hw_t_1]; exact (Below.refl _ _).alloc (Nat.le_refl _) _
  have Dt_1_r_0 := Lib.hid (apart_box kr_0_0)
  have HBw_t_1 := Lib.hid (Below.step HBw_r_0.out bw_t_1)
  have kr_0_0__763 := cell_below bw_t_1 kr_0_0
  have kr_0_1__764 := cell_below bw_t_1 kr_0_1
  have kr_0_2__765 := cell_below bw_t_1 kr_0_2
  have kr_0_3__766 := cell_below bw_t_1 kr_0_3
  have kr_0_4__767 := cell_below bw_t_1 kr_0_4
  clear bw_t_1
  have kt_1_0 : w_t_1.cell? ⟨w_r_0.heap.size, 0, none⟩ = some (.int .i64 0) := by rw [← hw_t_1]; exact box_new _ _ _ 0 _ rfl
  have kt_1_1 : w_t_1.cell? ⟨w_r_0.heap.size, 1, none⟩ = some (.int .i64 0) := by rw [← hw_t_1]; exact box_new _ _ _ 1 _ rfl
  have Ot_1 : Hid (w_t_1.ownsRow w.heap.size 141 2 (.slice (some ⟨w_r_0.heap.size, 0, none⟩) 1 1) 1 [.int .i64 0, .int .i64 0]) := Lib.hid (by rw [← hw_t_1]; exact own_laid (n := 1) HBw_r_0.out.size rfl rfl (by unfold maxLen; omega))
  obtain ⟨wb7_7, hwb7_7⟩ : ∃ x, ((w_t_1).setCell ⟨w_r_0.heap.size, 0, none⟩ (.int .i64 r_0_zone)).setCell ⟨w_r_0.heap.size, 1, none⟩ (.int .i64 r_0_grams) = x := ⟨_, rfl⟩
  have z0b7_7 := Ot_1.out.frozenAt 0
  have z1b7_7 := Ot_1.out.frozenAt 1
  have Sb7_7 := Lib.hid (own_stores [(0, .int .i64 r_0_zone), (1, .int .i64 r_0_grams)] Ot_1.out)
  have Pb7_7 : Hid (wb7_7.ownsRow w.heap.size 141 2 (.slice (some ⟨w_r_0.heap.size, 0, none⟩) 1 1) 1 [.int .i64 r_0_zone, .int .i64 r_0_grams]) := Lib.hid (by rw [← hwb7_7]; exact Sb7_7.out.1)
  have Gb7_7 : Hid (w_t_1.grownBy wb7_7 (Value.slice (some ⟨w_r_0.heap.size, 0, none⟩) 1 1).ownBlock) := Lib.hid (by rw [← hwb7_7]; exact Sb7_7.out.2)
  have HBwb7_7 := Lib.hid (HBw_t_1.out.grown Gb7_7.out HBw_t_1.out.size (fun q hq => (Ot_1.out.lt q hq).1))
  clear Sb7_7
  have kr_0_0__768 := cell_other kr_0_0__763 Gb7_7.out Dt_1_r_0.out
  have kr_0_1__769 := cell_other kr_0_1__764 Gb7_7.out Dt_1_r_0.out
  have kr_0_2__770 := cell_other kr_0_2__765 Gb7_7.out Dt_1_r_0.out
  have kr_0_3__771 := cell_other kr_0_3__766 Gb7_7.out Dt_1_r_0.out
  have kr_0_4__772 := cell_other kr_0_4__767 Gb7_7.out Dt_1_r_0.out
  clear Ot_1 Gb7_7
  have kt_1_0__773 : wb7_7.cell? ⟨w_r_0.heap.size, 0, none⟩ = some (.int .i64 r_0_zone) := Pb7_7.out.cells rfl 0 _ rfl
  have kt_1_1__774 : wb7_7.cell? ⟨w_r_0.heap.size, 1, none⟩ = some (.int .i64 r_0_grams) := Pb7_7.out.cells rfl 1 _ rfl
  cases ret_hid H
  go_wp2_with fail
  (try simp only [Exit.inBlock, Exit.then])
  refine bodyPost_ret (v := .agg #[.int .i64 r_0_zone, .int .i64 r_0_grams]) ?hr_ ?hd_ ?_
  case hd_ => rfl
  case hr_ => simp [results, Try.results127, kt_1_0__773, kt_1_1__774, go_sem]
  exact ⟨rfl, HBwb7_7.out⟩
end Go.Proofs.Ytlljmgphgmklcaa.GiClassOf

