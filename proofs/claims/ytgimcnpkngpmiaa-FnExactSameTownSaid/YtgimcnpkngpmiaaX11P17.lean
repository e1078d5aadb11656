/- Texts on which the proofs of several laws stand, one behind the other (17 of 18). No condition of their own. -/
import Derived.Test.YtgimcnpkngpmiaaChecked
import Derived.Test.YtgimcnpkngpmiaaX11P1
import Derived.WalkKit
import Derived.WalkSpells
import Derived.WalkLawsBesides
import Derived.BigQuiet
import Derived.OwnWalk
import Derived.Deep.LoopGhost
import Derived.Deep.QuietTactic
import Derived.IntWalk
import Derived.Lib.QuietBelow
import Derived.Test.YtgimcnpkngpmiaaX11P2
import Derived.Test.YtgimcnpkngpmiaaX11P4
import Derived.Test.YtgimcnpkngpmiaaX11P3
import Derived.Test.YtgimcnpkngpmiaaX11P5
/- loop.example/g01062/spec.l11Reads as a plain function, and the contract of the program's: where the plain one has an answer, the program has it. Conditions: slices read as lists. -/
namespace Go.Proofs.Ytgimcnpkngpmiaa.GsL11Reads
set_option linter.unusedVariables false
set_option linter.unusedSimpArgs false
open Go.RowKit
open Go.Proofs.Ytgimcnpkngpmiaa.Rowed Go.Proofs.Ytgimcnpkngpmiaa.Turn Go.Proofs.Ytgimcnpkngpmiaa.Aid Go.Proofs.Ytgimcnpkngpmiaa.GoP Go.Proofs.Ytgimcnpkngpmiaa.GoM

def l0 (a : ByteArray) (b : ByteArray) (k0 : Nat) (s : Unit) (nx0 bk0 : Unit → Option (Bool)) : Option (Bool) :=
  
  Option.bind (idx a.toList (k0 : Int)) fun (yt_14 : UInt8) =>
  letK ((yt_14.toNat : Int)) fun (t_14 : Int) =>
  Option.bind (idx b.toList (k0 : Int)) fun (yt_17 : UInt8) =>
  letK ((yt_17.toNat : Int)) fun (t_17 : Int) =>
  letK (t_14 != t_17) fun (t_18 : Bool) =>
  joinK (fun (t_24 : Bool) =>
  joinK (fun (t_30 : Bool) =>
  iteK t_30
  (some false)
  (appK nx0 ())) fun jt_30 => iteK t_24 (Option.bind (idx b.toList (k0 : Int)) fun (yt_28 : UInt8) =>
  letK ((yt_28.toNat : Int)) fun (t_28 : Int) =>
  letK (t_28 != 63) fun (t_29 : Bool) =>
  appK jt_30 t_29) (appK jt_30 false)) fun jt_24 => iteK t_18 (Option.bind (idx a.toList (k0 : Int)) fun (yt_22 : UInt8) =>
  letK ((yt_22.toNat : Int)) fun (t_22 : Int) =>
  letK (t_22 != 63) fun (t_23 : Bool) =>
  appK jt_24 t_23) (appK jt_24 false)

def e0  (s : Unit) : Option (Bool) :=
  
  some true

def P (a : ByteArray) (b : ByteArray) : Option (Bool) :=
  letK ((a.size : Int) != (b.size : Int)) fun (t_5 : Bool) =>
  iteK t_5
  (some false)
  (guardK (a.size ≤ 9223372036854775807) <|
  cntK (l0 a b) (a.size) 0 () (e0 ))

set_option maxRecDepth 100000 in
set_option maxHeartbeats 2000000 in
theorem C (a : ByteArray) (b : ByteArray)   (w : World)   {r : Bool} (H : Hid (P a b = some r)) :
    Calls Try.prog 71 #[.string a, .string b] w (Gives (.bool r) w) := by
  have HB := Lib.hid (Below.refl w.heap.size w)
  unfold P at H
  go_enter Try.func71, Try.ntmps71
  replace H := let_hid H
  obtain ⟨t_5, ht_5, H⟩ := H
  cases t_5 with
  | false =>
    have Hht_5 : Hid (a.size = b.size) := Lib.hid (by have := bne_eq_false_iff_eq.1 ht_5; omega)
    have nht_5 : (a.size == b.size) = true := beq_iff_eq.2 Hht_5.out
    replace H := ite_f H
    replace H := guard_hid H
    obtain ⟨hg0, H⟩ := H
    go_wp2_with fail
    go_loopg [5] (a.size) (fun m_ v5_ wr => ∃ (k0 : Nat) , k0 + m_ = a.size ∧ v5_ = .int .i64 (k0 : Int) ∧ Hid (cntK (l0 a b) m_ k0 () (e0 ) = some r) ∧ Hid (Below w.heap.size w wr))
    case atStart => exact ⟨0, by omega, rfl, H, HB⟩
    case round =>
      obtain ⟨k0, hkm0, rfl, H, HBwr0⟩ := hrel
      rename World => wr0
      cases gk with
      | zero =>
        obtain rfl : k0 = a.size := by omega
        have hc0 : decide (((a.size : Nat) : Int) < ((a.size : Nat) : Int)) = false := by simp
        replace H := cnt_zero H
        unfold e0 at H
        obtain rfl := ret_hid H
        go_wp2_with fail
        go_ret
        exact ⟨rfl, HBwr0.out⟩
      | succ m0 =>
        have hlt0 : k0 < a.size := by omega
        have hc0 : decide ((k0 : Int) < ((a.size : Nat) : Int)) = true := by simp; omega
        replace H := cnt_succ H
        unfold l0 at H
        go_wp2_with fail
        replace H := idx_hid H
        obtain ⟨nt_14, yt_14, et_14, lt_14, gt_14, H⟩ := H
        obtain rfl : k0 = nt_14 := by omega
        clear et_14
        have rt_14 := byte_rule lt_14 gt_14.out
        have b0t_14 : (0 : Int) ≤ (k0 : Int) := by omega
        have b1t_14 : (k0 : Int) < (a.size : Int) := by have := size_list a; omega
        have b2t_14 : ((k0 : Int)).toNat = k0 := by omega
        have b3t_14 : k0 < a.size := by have := size_list a; omega
        replace H := let_hid H
        obtain ⟨t_14, ht_14, H⟩ := H
        replace H := idx_hid H
        obtain ⟨nt_17, yt_17, et_17, lt_17, gt_17, H⟩ := H
        obtain rfl : k0 = nt_17 := by omega
        clear et_17
        have rt_17 := byte_rule lt_17 gt_17.out
        have b0t_17 : (0 : Int) ≤ (k0 : Int) := by omega
        have b1t_17 : (k0 : Int) < (b.size : Int) := by have := size_list b; omega
        have b2t_17 : ((k0 : Int)).toNat = k0 := by omega
        have b3t_17 : k0 < b.size := by have := size_list b; omega
        replace H := let_hid H
        obtain ⟨t_17, ht_17, H⟩ := H
        replace H := let_hid H
        obtain ⟨t_18, ht_18, H⟩ := H
        replace H := join_hid H
        cases t_18 with
        | false =>
          replace H := ite_f H
          replace H := app_hid H
          replace H := join_hid H
          replace H := ite_f H
          replace H := app_hid H
          refine wp_region_quiet_below (by kernel_rfl) (by kernel_rfl) ?_
          repeat (go_big_quiet_step (fail))
          refine wpQuiet_nil ?_
          intro Y6 hY6
          replace hY6 := below_class hY6
          have HBY6 := Lib.hid (Below.step HBwr0.out hY6)
          clear hY6
          replace H := ite_f H
          replace H := app_hid H
          go_wp2_with fail
          go_roundg m0
          case measure => omega
          case rel => exact ⟨k0 + 1, by omega, by go_num, H, HBY6⟩
        | true =>
          replace H := ite_t H
          replace H := idx_hid H
          obtain ⟨nt_22, yt_22, et_22, lt_22, gt_22, H⟩ := H
          obtain rfl : k0 = nt_22 := by omega
          clear et_22
          obtain rfl := Option.some.inj (gt_14.out.symm.trans gt_22.out)
          clear gt_22 lt_22
          replace H := let_hid H
          obtain ⟨t_22, ht_22, H⟩ := H
          obtain rfl := ht_14.symm.trans ht_22
          replace H := let_hid H
          obtain ⟨t_23, ht_23, H⟩ := H
          replace H := app_hid H
          replace H := join_hid H
          cases t_23 with
          | false =>
            replace H := ite_f H
            replace H := app_hid H
            refine wp_region_quiet_below (by kernel_rfl) (by kernel_rfl) ?_
            repeat (go_big_quiet_step (fail))
            refine wpQuiet_nil ?_
            intro Y6 hY6
            replace hY6 := below_class hY6
            have HBY6 := Lib.hid (Below.step HBwr0.out hY6)
            clear hY6
            replace H := ite_f H
            replace H := app_hid H
            go_wp2_with fail
            go_roundg m0
            case measure => omega
            case rel => exact ⟨k0 + 1, by omega, by go_num, H, HBY6⟩
          | true =>
            replace H := ite_t H
            replace H := idx_hid H
            obtain ⟨nt_28, yt_28, et_28, lt_28, gt_28, H⟩ := H
            obtain rfl : k0 = nt_28 := by omega
            clear et_28
            obtain rfl := Option.some.inj (gt_17.out.symm.trans gt_28.out)
            clear gt_28 lt_28
            replace H := let_hid H
            obtain ⟨t_28, ht_28, H⟩ := H
            obtain rfl := ht_17.symm.trans ht_28
            replace H := let_hid H
            obtain ⟨t_29, ht_29, H⟩ := H
            replace H := app_hid H
            refine wp_region_quiet_below (by kernel_rfl) (by kernel_rfl) ?_
            repeat (go_big_quiet_step (fail))
            refine wpQuiet_nil ?_
            intro Y6 hY6
            replace hY6 := below_class hY6
            have HBY6 := Lib.hid (Below.step HBwr0.out hY6)
            clear hY6
            cases t_29 with
            | false =>
              replace H := ite_f H
              replace H := app_hid H
              go_wp2_with fail
              go_roundg m0
              case measure => omega
              case rel => exact ⟨k0 + 1, by omega, by go_num, H, HBY6⟩
            | true =>
              replace H := ite_t H
              obtain rfl := ret_hid H
              go_wp2_with fail
              go_ret
              exact ⟨rfl, HBY6.out⟩
  | true =>
    have nht_5 : ¬ (a.size = b.size) := by have := bne_iff_ne.1 ht_5; omega
    replace H := ite_t H
    obtain rfl := ret_hid H
    go_wp2_with fail
    go_ret
    exact ⟨rfl, HB.out⟩
end Go.Proofs.Ytgimcnpkngpmiaa.GsL11Reads

/- loop.example/g01062/spec.SameTown as a plain function, and the contract of the program's: where the plain one has an answer, the program has it. Conditions: slices read as lists. -/
namespace Go.Proofs.Ytgimcnpkngpmiaa.GsSameTown
set_option linter.unusedVariables false
set_option linter.unusedSimpArgs false
open Go.RowKit
open Go.Proofs.Ytgimcnpkngpmiaa.Rowed Go.Proofs.Ytgimcnpkngpmiaa.Turn Go.Proofs.Ytgimcnpkngpmiaa.Aid Go.Proofs.Ytgimcnpkngpmiaa.GoP Go.Proofs.Ytgimcnpkngpmiaa.GoM

def P (fuel : Nat) (list : (List Go.Proofs.Ytgimcnpkngpmiaa.PPostmark.Postmark)) (a : Int) (b : Int) : Option (Bool × Bool) :=
  Option.bind (Go.Proofs.Ytgimcnpkngpmiaa.GsL11Find.P list a) fun (t_4 : Int) =>
  Option.bind (Go.Proofs.Ytgimcnpkngpmiaa.GsL11Find.P list b) fun (t_7 : Int) =>
  Option.bind (Go.Proofs.Ytgimcnpkngpmiaa.GsL11Good.P fuel list) fun (t_11 : Bool) =>
  letK (!t_11) fun (t_12 : Bool) =>
  joinK (fun (t_16 : Bool) =>
  joinK (fun (t_20 : Bool) =>
  iteK t_20
  (some (false, false))
  (Option.bind (idx list t_4) fun (yt_25 : Go.Proofs.Ytgimcnpkngpmiaa.PPostmark.Postmark) =>
  unPostmark yt_25 fun (t_25_id : Int) (t_25_town : ByteArray) (t_25_kind_ : Int) (t_25_first : Int) (t_25_last : Int) (t_25_lost : ByteArray) =>
  Option.bind (Go.Proofs.Ytgimcnpkngpmiaa.GsL11Shown.P fuel (Go.Proofs.Ytgimcnpkngpmiaa.PPostmark.Postmark.mk t_25_id t_25_town t_25_kind_ t_25_first t_25_last t_25_lost)) fun (t_27 : ByteArray) =>
  Option.bind (idx list t_7) fun (yt_30 : Go.Proofs.Ytgimcnpkngpmiaa.PPostmark.Postmark) =>
  unPostmark yt_30 fun (t_30_id : Int) (t_30_town : ByteArray) (t_30_kind_ : Int) (t_30_first : Int) (t_30_last : Int) (t_30_lost : ByteArray) =>
  Option.bind (Go.Proofs.Ytgimcnpkngpmiaa.GsL11Shown.P fuel (Go.Proofs.Ytgimcnpkngpmiaa.PPostmark.Postmark.mk t_30_id t_30_town t_30_kind_ t_30_first t_30_last t_30_lost)) fun (t_32 : ByteArray) =>
  Option.bind (Go.Proofs.Ytgimcnpkngpmiaa.GsL11Reads.P t_27 t_32) fun (t_33 : Bool) =>
  some (t_33, true))) fun jt_20 => iteK t_16 (appK jt_20 true) (letK (decide (t_7 < 0)) fun (t_19 : Bool) =>
  appK jt_20 t_19)) fun jt_16 => iteK t_12 (appK jt_16 true) (letK (decide (t_4 < 0)) fun (t_15 : Bool) =>
  appK jt_16 t_15)

set_option maxRecDepth 100000 in
set_option maxHeartbeats 2000000 in
theorem C (fuel : Nat) (list : (List Go.Proofs.Ytgimcnpkngpmiaa.PPostmark.Postmark)) (a : Int) (b : Int) (A0 : Option Addr) (c0 : Nat)  (w : World) (M0 : Hid (Cells w 6 A0 list.length (Go.Proofs.Ytgimcnpkngpmiaa.PPostmark.flat list))) (N0 : Hid (list.length ≤ 9223372036854775807))  {r0 : Bool} {r1 : Bool} (H : Hid (P fuel list a b = some (r0, r1))) :
    Calls Try.prog 36 #[.slice A0 list.length c0, .int .i64 a, .int .i64 b] w (Gives (.tuple #[.bool r0, .bool r1]) w) := by
  have HB := Lib.hid (Below.refl w.heap.size w)
  unfold P at H
  have N0o := N0.out
  go_enter Try.func36, Try.ntmps36
  replace H := bind_hid H
  obtain ⟨t_4, qt_4, H⟩ := H
  go_wp2_with fail
  go_at_call 51
  refine (Go.Proofs.Ytgimcnpkngpmiaa.GsL11Find.C (list) (a) A0 c0 _   (Lib.hid (Cells.below M0.out HB.out)) N0 qt_4).mono ?_
  rintro e_t_4 wt_4 ⟨rfl, bt_4⟩
  have HBwt_4 := Lib.hid (Below.step HB.out bt_4)
  clear bt_4
  replace H := bind_hid H
  obtain ⟨t_7, qt_7, H⟩ := H
  go_wp2_with fail
  go_at_call 51
  refine (Go.Proofs.Ytgimcnpkngpmiaa.GsL11Find.C (list) (b) A0 c0 _   (Lib.hid (Cells.below M0.out HBwt_4.out)) N0 qt_7).mono ?_
  rintro e_t_7 wt_7 ⟨rfl, bt_7⟩
  have HBwt_7 := Lib.hid (Below.step HBwt_4.out bt_7)
  clear bt_7
  replace H := bind_hid H
  obtain ⟨t_11, qt_11, H⟩ := H
  go_wp2_with fail
  go_at_call 45
  refine (Go.Proofs.Ytgimcnpkngpmiaa.GsL11Good.C fuel (list) A0 c0 _   (Lib.hid (Cells.below M0.out HBwt_7.out)) N0 qt_11).mono ?_
  rintro e_t_11 wt_11 ⟨rfl, bt_11⟩
  have HBwt_11 := Lib.hid (Below.step HBwt_7.out bt_11)
  clear bt_11
  cases t_11 with
  | false =>
    replace H := let_hid H
    obtain ⟨t_12, ht_12, H⟩ := H
    obtain rfl : t_12 = true := ht_12.symm
    replace H := join_hid H
    replace H := ite_t H
    replace H := app_hid H
    replace H := join_hid H
    replace H := ite_t H
    replace H := app_hid H
    replace H := ite_t H
    cases ret_hid H
    go_wp2_with fail
    go_ret2
    exact ⟨rfl, HBwt_11.out⟩
  | true =>
    replace H := let_hid H
    obtain ⟨t_12, ht_12, H⟩ := H
    obtain rfl : t_12 = false := ht_12.symm
    replace H := join_hid H
    replace H := ite_f H
    replace H := let_hid H
    obtain ⟨t_15, ht_15, H⟩ := H
    replace H := app_hid H
    replace H := join_hid H
    cases t_15 with
    | false =>
      replace H := ite_f H
      replace H := let_hid H
      obtain ⟨t_19, ht_19, H⟩ := H
      replace H := app_hid H
      cases t_19 with
      | false =>
        replace H := ite_f H
        go_wp2_with fail
        replace H := idx_hid H
        obtain ⟨nt_25, yt_25, et_25, lt_25, gt_25, H⟩ := H
        subst et_25
        have nc_574 : ¬ (nt_25 < 0) := by have := of_decide_eq_false ht_15; omega
        obtain ⟨t_25_id, t_25_town, t_25_kind_, t_25_first, t_25_last, t_25_lost⟩ := yt_25
        replace H := unPostmark_hid H
        obtain ⟨ab_t_25, ao_t_25, zt_25, At_25, z_t_25, ct_25_0, ct_25_1, ct_25_2, ct_25_3, ct_25_4, ct_25_5⟩ := Go.Proofs.Ytgimcnpkngpmiaa.OPostmark.at_ M0.out lt_25
        obtain rfl := Option.some.inj (gt_25.out.symm.trans z_t_25)
        subst At_25
        have ltt_25 := cell_lt ct_25_0
        replace ct_25_0 := cell_below HBwt_11.out ct_25_0
        replace ct_25_1 := cell_below HBwt_11.out ct_25_1
        replace ct_25_2 := cell_below HBwt_11.out ct_25_2
        replace ct_25_3 := cell_below HBwt_11.out ct_25_3
        replace ct_25_4 := cell_below HBwt_11.out ct_25_4
        replace ct_25_5 := cell_below HBwt_11.out ct_25_5
        clear z_t_25
        have b0t_25 : (0 : Int) ≤ (nt_25 : Int) := by omega
        have b1t_25 : (nt_25 : Int) < ((list.length : Nat) : Int) := by omega
        have b2t_25 : ((nt_25 : Int)).toNat = nt_25 := by omega
        have Hct_25_0 := Lib.hid ct_25_0
        replace ct_25_0 := cell_regrown ct_25_0
        have Hct_25_1 := Lib.hid ct_25_1
        replace ct_25_1 := cell_regrown ct_25_1
        have Hct_25_2 := Lib.hid ct_25_2
        replace ct_25_2 := cell_regrown ct_25_2
        have Hct_25_3 := Lib.hid ct_25_3
        replace ct_25_3 := cell_regrown ct_25_3
        have Hct_25_4 := Lib.hid ct_25_4
        replace ct_25_4 := cell_regrown ct_25_4
        have Hct_25_5 := Lib.hid ct_25_5
        replace ct_25_5 := cell_regrown ct_25_5
        replace H := bind_hid H
        obtain ⟨t_27, qt_27, H⟩ := H
        have nt_27 : ∀ d os, Calls Try.prog 49 #[.agg #[.int .i64 t_25_id, .string t_25_town, .int .i64 t_25_kind_, .int .i64 t_25_first, .int .i64 t_25_last, .string t_25_lost]] (Go.Sort.grow (redrawn wt_11 d) os) fun e w'' => e = .returned (.string t_27) ∧ ∃ p : Regrown, w'' = Go.Sort.grow (redrawn wt_11 p.d) p.os := fun d os => Calls.regrown_of (Go.Proofs.Ytgimcnpkngpmiaa.GsL11Shown.C fuel ((Go.Proofs.Ytgimcnpkngpmiaa.PPostmark.Postmark.mk t_25_id t_25_town t_25_kind_ t_25_first t_25_last t_25_lost))  _    qt_27)
        replace H := idx_hid H
        obtain ⟨nt_30, yt_30, et_30, lt_30, gt_30, H⟩ := H
        subst et_30
        have nc_575 : ¬ (nt_30 < 0) := by have := of_decide_eq_false ht_19; omega
        obtain ⟨t_30_id, t_30_town, t_30_kind_, t_30_first, t_30_last, t_30_lost⟩ := yt_30
        replace H := unPostmark_hid H
        obtain ⟨ab_t_30, ao_t_30, zt_30, At_30, z_t_30, ct_30_0, ct_30_1, ct_30_2, ct_30_3, ct_30_4, ct_30_5⟩ := Go.Proofs.Ytgimcnpkngpmiaa.OPostmark.at_ M0.out lt_30
        obtain rfl := Option.some.inj (gt_30.out.symm.trans z_t_30)
        simp only [Option.some.injEq, Addr.mk.injEq] at At_30
        obtain ⟨rfl, rfl, _⟩ := At_30
        have ltt_30 := cell_lt ct_30_0
        replace ct_30_0 := cell_below HBwt_11.out ct_30_0
        replace ct_30_1 := cell_below HBwt_11.out ct_30_1
        replace ct_30_2 := cell_below HBwt_11.out ct_30_2
        replace ct_30_3 := cell_below HBwt_11.out ct_30_3
        replace ct_30_4 := cell_below HBwt_11.out ct_30_4
        replace ct_30_5 := cell_below HBwt_11.out ct_30_5
        clear z_t_30
        have b0t_30 : (0 : Int) ≤ (nt_30 : Int) := by omega
        have b1t_30 : (nt_30 : Int) < ((list.length : Nat) : Int) := by omega
        have b2t_30 : ((nt_30 : Int)).toNat = nt_30 := by omega
        have Hct_30_0 := Lib.hid ct_30_0
        replace ct_30_0 := cell_regrown ct_30_0
        have Hct_30_1 := Lib.hid ct_30_1
        replace ct_30_1 := cell_regrown ct_30_1
        have Hct_30_2 := Lib.hid ct_30_2
        replace ct_30_2 := cell_regrown ct_30_2
        have Hct_30_3 := Lib.hid ct_30_3
        replace ct_30_3 := cell_regrown ct_30_3
        have Hct_30_4 := Lib.hid ct_30_4
        replace ct_30_4 := cell_regrown ct_30_4
        have Hct_30_5 := Lib.hid ct_30_5
        replace ct_30_5 := cell_regrown ct_30_5
        replace H := bind_hid H
        obtain ⟨t_32, qt_32, H⟩ := H
        have nt_32 : ∀ d os, Calls Try.prog 49 #[.agg #[.int .i64 t_30_id, .string t_30_town, .int .i64 t_30_kind_, .int .i64 t_30_first, .int .i64 t_30_last, .string t_30_lost]] (Go.Sort.grow (redrawn wt_11 d) os) fun e w'' => e = .returned (.string t_32) ∧ ∃ p : Regrown, w'' = Go.Sort.grow (redrawn wt_11 p.d) p.os := fun d os => Calls.regrown_of (Go.Proofs.Ytgimcnpkngpmiaa.GsL11Shown.C fuel ((Go.Proofs.Ytgimcnpkngpmiaa.PPostmark.Postmark.mk t_30_id t_30_town t_30_kind_ t_30_first t_30_last t_30_lost))  _    qt_32)
        replace H := bind_hid H
        obtain ⟨t_33, qt_33, H⟩ := H
        have nt_33 : ∀ d os, Calls Try.prog 71 #[.string t_27, .string t_32] (Go.Sort.grow (redrawn wt_11 d) os) fun e w'' => e = .returned (.bool t_33) ∧ ∃ p : Regrown, w'' = Go.Sort.grow (redrawn wt_11 p.d) p.os := fun d os => Calls.regrown_of (Go.Proofs.Ytgimcnpkngpmiaa.GsL11Reads.C (t_27) (t_32)  _    qt_33)
        refine wp_region_quiet_below (by kernel_rfl) (by kernel_rfl) ?_
        repeat (go_big_quiet_step (first | (go_at_call 49; with_reducible exact nt_27 _ _) | (go_at_call 49; with_reducible exact nt_32 _ _) | (go_at_call 49; exact nt_27 _ _) | (go_at_call 49; exact nt_32 _ _) | (go_at_call 71; exact nt_33 _ _)))
        refine wpQuiet_nil ?_
        intro Y4 hY4
        replace hY4 := below_class hY4
        clear nt_27 nt_32 nt_33
        replace ct_25_0 := Hct_25_0.out
        clear Hct_25_0
        replace ct_25_1 := Hct_25_1.out
        clear Hct_25_1
        replace ct_25_2 := Hct_25_2.out
        clear Hct_25_2
        replace ct_25_3 := Hct_25_3.out
        clear Hct_25_3
        replace ct_25_4 := Hct_25_4.out
        clear Hct_25_4
        replace ct_25_5 := Hct_25_5.out
        clear Hct_25_5
        replace ct_30_0 := Hct_30_0.out
        clear Hct_30_0
        replace ct_30_1 := Hct_30_1.out
        clear Hct_30_1
        replace ct_30_2 := Hct_30_2.out
        clear Hct_30_2
        replace ct_30_3 := Hct_30_3.out
        clear Hct_30_3
        replace ct_30_4 := Hct_30_4.out
        clear Hct_30_4
        replace ct_30_5 := Hct_30_5.out
        clear Hct_30_5
        have HBY4 := Lib.hid (Below.step HBwt_11.out hY4)
        replace ct_25_0 := cell_below hY4 ct_25_0
        replace ct_25_1 := cell_below hY4 ct_25_1
        replace ct_25_2 := cell_below hY4 ct_25_2
        replace ct_25_3 := cell_below hY4 ct_25_3
        replace ct_25_4 := cell_below hY4 ct_25_4
        replace ct_25_5 := cell_below hY4 ct_25_5
        replace ct_30_0 := cell_below hY4 ct_30_0
        replace ct_30_1 := cell_below hY4 ct_30_1
        replace ct_30_2 := cell_below hY4 ct_30_2
        replace ct_30_3 := cell_below hY4 ct_30_3
        replace ct_30_4 := cell_below hY4 ct_30_4
        replace ct_30_5 := cell_below hY4 ct_30_5
        clear hY4
        cases ret_hid H
        go_wp2_with fail
        go_ret2
        exact ⟨rfl, HBY4.out⟩
      | true =>
        replace H := ite_t H
        cases ret_hid H
        go_wp2_with fail
        go_ret2
        exact ⟨rfl, HBwt_11.out⟩
    | true =>
      replace H := ite_t H
      replace H := app_hid H
      replace H := ite_t H
      cases ret_hid H
      go_wp2_with fail
      go_ret2
      exact ⟨rfl, HBwt_11.out⟩
end Go.Proofs.Ytgimcnpkngpmiaa.GsSameTown

/- loop.example/g01062/impl.readsAs as a plain function, and the contract of the program's: where the plain one has an answer, the program has it. Conditions: slices read as lists. -/
namespace Go.Proofs.Ytgimcnpkngpmiaa.GiReadsAs
set_option linter.unusedVariables false
set_option linter.unusedSimpArgs false
open Go.RowKit
open Go.Proofs.Ytgimcnpkngpmiaa.Rowed Go.Proofs.Ytgimcnpkngpmiaa.Turn Go.Proofs.Ytgimcnpkngpmiaa.Aid Go.Proofs.Ytgimcnpkngpmiaa.GoP Go.Proofs.Ytgimcnpkngpmiaa.GoM

def l0 (a : ByteArray) (b : ByteArray) (k0 : Nat) (s : Unit) (nx0 bk0 : Unit → Option (Bool)) : Option (Bool) :=
  
  Option.bind (idx a.toList (k0 : Int)) fun (yt_15 : UInt8) =>
  letK ((yt_15.toNat : Int)) fun (t_15 : Int) =>
  Option.bind (idx b.toList (k0 : Int)) fun (yt_18 : UInt8) =>
  letK ((yt_18.toNat : Int)) fun (t_18 : Int) =>
  letK (t_15 != t_18) fun (t_19 : Bool) =>
  joinK (fun (t_25 : Bool) =>
  joinK (fun (t_31 : Bool) =>
  iteK t_31
  (some false)
  (appK nx0 ())) fun jt_31 => iteK t_25 (Option.bind (idx b.toList (k0 : Int)) fun (yt_29 : UInt8) =>
  letK ((yt_29.toNat : Int)) fun (t_29 : Int) =>
  letK (t_29 != 63) fun (t_30 : Bool) =>
  appK jt_31 t_30) (appK jt_31 false)) fun jt_25 => iteK t_19 (Option.bind (idx a.toList (k0 : Int)) fun (yt_23 : UInt8) =>
  letK ((yt_23.toNat : Int)) fun (t_23 : Int) =>
  letK (t_23 != 63) fun (t_24 : Bool) =>
  appK jt_25 t_24) (appK jt_25 false)

def e0  (s : Unit) : Option (Bool) :=
  
  some true

def P (a : ByteArray) (b : ByteArray) : Option (Bool) :=
  letK ((a.size : Int) != (b.size : Int)) fun (t_5 : Bool) =>
  iteK t_5
  (some false)
  (guardK (a.size ≤ 9223372036854775807) <|
  cntK (l0 a b) (a.size) 0 () (e0 ))

set_option maxRecDepth 100000 in
set_option maxHeartbeats 2000000 in
theorem C (a : ByteArray) (b : ByteArray)   (w : World)   {r : Bool} (H : Hid (P a b = some r)) :
    Calls Try.prog 72 #[.string a, .string b] w (Gives (.bool r) w) := by
  have HB := Lib.hid (Below.refl w.heap.size w)
  unfold P at H
  go_enter Try.func72, Try.ntmps72
  replace H := let_hid H
  obtain ⟨t_5, ht_5, H⟩ := H
  cases t_5 with
  | false =>
    have Hht_5 : Hid (a.size = b.size) := Lib.hid (by have := bne_eq_false_iff_eq.1 ht_5; omega)
    have nht_5 : (a.size == b.size) = true := beq_iff_eq.2 Hht_5.out
    replace H := ite_f H
    replace H := guard_hid H
    obtain ⟨hg0, H⟩ := H
    go_wp2_with fail
    go_loopg [13] (a.size) (fun m_ v13_ wr => ∃ (k0 : Nat) , k0 + m_ = a.size ∧ v13_ = .int .i64 (k0 : Int) ∧ Hid (cntK (l0 a b) m_ k0 () (e0 ) = some r) ∧ Hid (Below w.heap.size w wr))
    case atStart => exact ⟨0, by omega, rfl, H, HB⟩
    case round =>
      obtain ⟨k0, hkm0, rfl, H, HBwr0⟩ := hrel
      rename World => wr0
      cases gk with
      | zero =>
        obtain rfl : k0 = a.size := by omega
        have hc0 : decide (((a.size : Nat) : Int) < ((a.size : Nat) : Int)) = false := by simp
        replace H := cnt_zero H
        unfold e0 at H
        obtain rfl := ret_hid H
        go_wp2_with fail
        go_ret
        exact ⟨rfl, HBwr0.out⟩
      | succ m0 =>
        have hlt0 : k0 < a.size := by omega
        have hc0 : decide ((k0 : Int) < ((a.size : Nat) : Int)) = true := by simp; omega
        replace H := cnt_succ H
        unfold l0 at H
        go_wp2_with fail
        replace H := idx_hid H
        obtain ⟨nt_15, yt_15, et_15, lt_15, gt_15, H⟩ := H
        obtain rfl : k0 = nt_15 := by omega
        clear et_15
        have rt_15 := byte_rule lt_15 gt_15.out
        have b0t_15 : (0 : Int) ≤ (k0 : Int) := by omega
        have b1t_15 : (k0 : Int) < (a.size : Int) := by have := size_list a; omega
        have b2t_15 : ((k0 : Int)).toNat = k0 := by omega
        have b3t_15 : k0 < a.size := by have := size_list a; omega
        replace H := let_hid H
        obtain ⟨t_15, ht_15, H⟩ := H
        replace H := idx_hid H
        obtain ⟨nt_18, yt_18, et_18, lt_18, gt_18, H⟩ := H
        obtain rfl : k0 = nt_18 := by omega
        clear et_18
        have rt_18 := byte_rule lt_18 gt_18.out
        have b0t_18 : (0 : Int) ≤ (k0 : Int) := by omega
        have b1t_18 : (k0 : Int) < (b.size : Int) := by have := size_list b; omega
        have b2t_18 : ((k0 : Int)).toNat = k0 := by omega
        have b3t_18 : k0 < b.size := by have := size_list b; omega
        replace H := let_hid H
        obtain ⟨t_18, ht_18, H⟩ := H
        replace H := let_hid H
        obtain ⟨t_19, ht_19, H⟩ := H
        replace H := join_hid H
        cases t_19 with
        | false =>
          replace H := ite_f H
          replace H := app_hid H
          replace H := join_hid H
          replace H := ite_f H
          replace H := app_hid H
          refine wp_region_quiet_below (by kernel_rfl) (by kernel_rfl) ?_
          repeat (go_big_quiet_step (fail))
          refine wpQuiet_nil ?_
          intro Y6 hY6
          replace hY6 := below_class hY6
          have HBY6 := Lib.hid (Below.step HBwr0.out hY6)
          clear hY6
          replace H := ite_f H
          replace H := app_hid H
          go_wp2_with fail
          go_roundg m0
          case measure => omega
          case rel => exact ⟨k0 + 1, by omega, by go_num, H, HBY6⟩
        | true =>
          replace H := ite_t H
          replace H := idx_hid H
          obtain ⟨nt_23, yt_23, et_23, lt_23, gt_23, H⟩ := H
          obtain rfl : k0 = nt_23 := by omega
          clear et_23
          obtain rfl := Option.some.inj (gt_15.out.symm.trans gt_23.out)
          clear gt_23 lt_23
          replace H := let_hid H
          obtain ⟨t_23, ht_23, H⟩ := H
          obtain rfl := ht_15.symm.trans ht_23
          replace H := let_hid H
          obtain ⟨t_24, ht_24, H⟩ := H
          replace H := app_hid H
          replace H := join_hid H
          cases t_24 with
          | false =>
            replace H := ite_f H
            replace H := app_hid H
            refine wp_region_quiet_below (by kernel_rfl) (by kernel_rfl) ?_
            repeat (go_big_quiet_step (fail))
            refine wpQuiet_nil ?_
            intro Y6 hY6
            replace hY6 := below_class hY6
            have HBY6 := Lib.hid (Below.step HBwr0.out hY6)
            clear hY6
            replace H := ite_f H
            replace H := app_hid H
            go_wp2_with fail
            go_roundg m0
            case measure => omega
            case rel => exact ⟨k0 + 1, by omega, by go_num, H, HBY6⟩
          | true =>
            replace H := ite_t H
            replace H := idx_hid H
            obtain ⟨nt_29, yt_29, et_29, lt_29, gt_29, H⟩ := H
            obtain rfl : k0 = nt_29 := by omega
            clear et_29
            obtain rfl := Option.some.inj (gt_18.out.symm.trans gt_29.out)
            clear gt_29 lt_29
            replace H := let_hid H
            obtain ⟨t_29, ht_29, H⟩ := H
            obtain rfl := ht_18.symm.trans ht_29
            replace H := let_hid H
            obtain ⟨t_30, ht_30, H⟩ := H
            replace H := app_hid H
            refine wp_region_quiet_below (by kernel_rfl) (by kernel_rfl) ?_
            repeat (go_big_quiet_step (fail))
            refine wpQuiet_nil ?_
            intro Y6 hY6
            replace hY6 := below_class hY6
            have HBY6 := Lib.hid (Below.step HBwr0.out hY6)
            clear hY6
            cases t_30 with
            | false =>
              replace H := ite_f H
              replace H := app_hid H
              go_wp2_with fail
              go_roundg m0
              case measure => omega
              case rel => exact ⟨k0 + 1, by omega, by go_num, H, HBY6⟩
            | true =>
              replace H := ite_t H
              obtain rfl := ret_hid H
              go_wp2_with fail
              go_ret
              exact ⟨rfl, HBY6.out⟩
  | true =>
    have nht_5 : ¬ (a.size = b.size) := by have := bne_iff_ne.1 ht_5; omega
    replace H := ite_t H
    obtain rfl := ret_hid H
    go_wp2_with fail
    go_ret
    exact ⟨rfl, HB.out⟩
end Go.Proofs.Ytgimcnpkngpmiaa.GiReadsAs

/- loop.example/g01062/impl.SameTown as a plain function, and the contract of the program's: where the plain one has an answer, the program has it. Conditions: slices read as lists. -/
namespace Go.Proofs.Ytgimcnpkngpmiaa.GiSameTown
set_option linter.unusedVariables false
set_option linter.unusedSimpArgs false
open Go.RowKit
open Go.Proofs.Ytgimcnpkngpmiaa.Rowed Go.Proofs.Ytgimcnpkngpmiaa.Turn Go.Proofs.Ytgimcnpkngpmiaa.Aid Go.Proofs.Ytgimcnpkngpmiaa.GoP Go.Proofs.Ytgimcnpkngpmiaa.GoM

def P (list : (List Go.Proofs.Ytgimcnpkngpmiaa.PPostmark.Postmark)) (a : Int) (b : Int) : Option (Bool × Bool) :=
  Option.bind (Go.Proofs.Ytgimcnpkngpmiaa.GiIndexOfPostmark.P list a) fun (t_4 : Int) =>
  Option.bind (Go.Proofs.Ytgimcnpkngpmiaa.GiIndexOfPostmark.P list b) fun (t_7 : Int) =>
  letK (decide (t_4 < 0)) fun (t_11 : Bool) =>
  joinK (fun (t_15 : Bool) =>
  iteK t_15
  (some (false, false))
  (Option.bind (idx list t_4) fun (yt_20 : Go.Proofs.Ytgimcnpkngpmiaa.PPostmark.Postmark) =>
  unPostmark yt_20 fun (t_20_id : Int) (t_20_town : ByteArray) (t_20_kind_ : Int) (t_20_first : Int) (t_20_last : Int) (t_20_lost : ByteArray) =>
  Option.bind (Go.Proofs.Ytgimcnpkngpmiaa.GiLoShownBy.P (Go.Proofs.Ytgimcnpkngpmiaa.PPostmark.Postmark.mk t_20_id t_20_town t_20_kind_ t_20_first t_20_last t_20_lost)) fun (t_22 : ByteArray) =>
  Option.bind (idx list t_7) fun (yt_25 : Go.Proofs.Ytgimcnpkngpmiaa.PPostmark.Postmark) =>
  unPostmark yt_25 fun (t_25_id : Int) (t_25_town : ByteArray) (t_25_kind_ : Int) (t_25_first : Int) (t_25_last : Int) (t_25_lost : ByteArray) =>
  Option.bind (Go.Proofs.Ytgimcnpkngpmiaa.GiLoShownBy.P (Go.Proofs.Ytgimcnpkngpmiaa.PPostmark.Postmark.mk t_25_id t_25_town t_25_kind_ t_25_first t_25_last t_25_lost)) fun (t_27 : ByteArray) =>
  Option.bind (Go.Proofs.Ytgimcnpkngpmiaa.GiReadsAs.P t_22 t_27) fun (t_28 : Bool) =>
  some (t_28, true))) fun jt_15 => iteK t_11 (appK jt_15 true) (letK (decide (t_7 < 0)) fun (t_14 : Bool) =>
  appK jt_15 t_14)

set_option maxRecDepth 100000 in
set_option maxHeartbeats 2000000 in
theorem C (list : (List Go.Proofs.Ytgimcnpkngpmiaa.PPostmark.Postmark)) (a : Int) (b : Int) (A0 : Option Addr) (c0 : Nat)  (w : World) (M0 : Hid (Cells w 6 A0 list.length (Go.Proofs.Ytgimcnpkngpmiaa.PPostmark.flat list))) (N0 : Hid (list.length ≤ 9223372036854775807))  {r0 : Bool} {r1 : Bool} (H : Hid (P list a b = some (r0, r1))) :
    Calls Try.prog 37 #[.slice A0 list.length c0, .int .i64 a, .int .i64 b] w (Gives (.tuple #[.bool r0, .bool r1]) w) := by
  have HB := Lib.hid (Below.refl w.heap.size w)
  unfold P at H
  have N0o := N0.out
  go_enter Try.func37, Try.ntmps37
  replace H := bind_hid H
  obtain ⟨t_4, qt_4, H⟩ := H
  go_wp2_with fail
  go_at_call 53
  refine (Go.Proofs.Ytgimcnpkngpmiaa.GiIndexOfPostmark.C (list) (a) A0 c0 _   (Lib.hid (Cells.below M0.out HB.out)) N0 qt_4).mono ?_
  rintro e_t_4 wt_4 ⟨rfl, bt_4⟩
  have HBwt_4 := Lib.hid (Below.step HB.out bt_4)
  clear bt_4
  replace H := bind_hid H
  obtain ⟨t_7, qt_7, H⟩ := H
  go_wp2_with fail
  go_at_call 53
  refine (Go.Proofs.Ytgimcnpkngpmiaa.GiIndexOfPostmark.C (list) (b) A0 c0 _   (Lib.hid (Cells.below M0.out HBwt_4.out)) N0 qt_7).mono ?_
  rintro e_t_7 wt_7 ⟨rfl, bt_7⟩
  have HBwt_7 := Lib.hid (Below.step HBwt_4.out bt_7)
  clear bt_7
  replace H := let_hid H
  obtain ⟨t_11, ht_11, H⟩ := H
  replace H := join_hid H
  cases t_11 with
  | false =>
    replace H := ite_f H
    replace H := let_hid H
    obtain ⟨t_14, ht_14, H⟩ := H
    replace H := app_hid H
    cases t_14 with
    | false =>
      replace H := ite_f H
      go_wp2_with fail
      replace H := idx_hid H
      obtain ⟨nt_20, yt_20, et_20, lt_20, gt_20, H⟩ := H
      subst et_20
      have nc_576 : ¬ (nt_20 < 0) := by have := of_decide_eq_false ht_11; omega
      obtain ⟨t_20_id, t_20_town, t_20_kind_, t_20_first, t_20_last, t_20_lost⟩ := yt_20
      replace H := unPostmark_hid H
      obtain ⟨ab_t_20, ao_t_20, zt_20, At_20, z_t_20, ct_20_0, ct_20_1, ct_20_2, ct_20_3, ct_20_4, ct_20_5⟩ := Go.Proofs.Ytgimcnpkngpmiaa.OPostmark.at_ M0.out lt_20
      obtain rfl := Option.some.inj (gt_20.out.symm.trans z_t_20)
      subst At_20
      have ltt_20 := cell_lt ct_20_0
      replace ct_20_0 := cell_below HBwt_7.out ct_20_0
      replace ct_20_1 := cell_below HBwt_7.out ct_20_1
      replace ct_20_2 := cell_below HBwt_7.out ct_20_2
      replace ct_20_3 := cell_below HBwt_7.out ct_20_3
      replace ct_20_4 := cell_below HBwt_7.out ct_20_4
      replace ct_20_5 := cell_below HBwt_7.out ct_20_5
      clear z_t_20
      have b0t_20 : (0 : Int) ≤ (nt_20 : Int) := by omega
      have b1t_20 : (nt_20 : Int) < ((list.length : Nat) : Int) := by omega
      have b2t_20 : ((nt_20 : Int)).toNat = nt_20 := by omega
      have Hct_20_0 := Lib.hid ct_20_0
      replace ct_20_0 := cell_regrown ct_20_0
      have Hct_20_1 := Lib.hid ct_20_1
      replace ct_20_1 := cell_regrown ct_20_1
      have Hct_20_2 := Lib.hid ct_20_2
      replace ct_20_2 := cell_regrown ct_20_2
      have Hct_20_3 := Lib.hid ct_20_3
      replace ct_20_3 := cell_regrown ct_20_3
      have Hct_20_4 := Lib.hid ct_20_4
      replace ct_20_4 := cell_regrown ct_20_4
      have Hct_20_5 := Lib.hid ct_20_5
      replace ct_20_5 := cell_regrown ct_20_5
      replace H := bind_hid H
      obtain ⟨t_22, qt_22, H⟩ := H
      have nt_22 : ∀ d os, Calls Try.prog 50 #[.agg #[.int .i64 t_20_id, .string t_20_town, .int .i64 t_20_kind_, .int .i64 t_20_first, .int .i64 t_20_last, .string t_20_lost]] (Go.Sort.grow (redrawn wt_7 d) os) fun e w'' => e = .returned (.string t_22) ∧ ∃ p : Regrown, w'' = Go.Sort.grow (redrawn wt_7 p.d) p.os := fun d os => Calls.regrown_of (Go.Proofs.Ytgimcnpkngpmiaa.GiLoShownBy.C ((Go.Proofs.Ytgimcnpkngpmiaa.PPostmark.Postmark.mk t_20_id t_20_town t_20_kind_ t_20_first t_20_last t_20_lost))  _    qt_22)
      replace H := idx_hid H
      obtain ⟨nt_25, yt_25, et_25, lt_25, gt_25, H⟩ := H
      subst et_25
      have nc_577 : ¬ (nt_25 < 0) := by have := of_decide_eq_false ht_14; omega
      obtain ⟨t_25_id, t_25_town, t_25_kind_, t_25_first, t_25_last, t_25_lost⟩ := yt_25
      replace H := unPostmark_hid H
      obtain ⟨ab_t_25, ao_t_25, zt_25, At_25, z_t_25, ct_25_0, ct_25_1, ct_25_2, ct_25_3, ct_25_4, ct_25_5⟩ := Go.Proofs.Ytgimcnpkngpmiaa.OPostmark.at_ M0.out lt_25
      obtain rfl := Option.some.inj (gt_25.out.symm.trans z_t_25)
      simp only [Option.some.injEq, Addr.mk.injEq] at At_25
      obtain ⟨rfl, rfl, _⟩ := At_25
      have ltt_25 := cell_lt ct_25_0
      replace ct_25_0 := cell_below HBwt_7.out ct_25_0
      replace ct_25_1 := cell_below HBwt_7.out ct_25_1
      replace ct_25_2 := cell_below HBwt_7.out ct_25_2
      replace ct_25_3 := cell_below HBwt_7.out ct_25_3
      replace ct_25_4 := cell_below HBwt_7.out ct_25_4
      replace ct_25_5 := cell_below HBwt_7.out ct_25_5
      clear z_t_25
      have b0t_25 : (0 : Int) ≤ (nt_25 : Int) := by omega
      have b1t_25 : (nt_25 : Int) < ((list.length : Nat) : Int) := by omega
      have b2t_25 : ((nt_25 : Int)).toNat = nt_25 := by omega
      have Hct_25_0 := Lib.hid ct_25_0
      replace ct_25_0 := cell_regrown ct_25_0
      have Hct_25_1 := Lib.hid ct_25_1
      replace ct_25_1 := cell_regrown ct_25_1
      have Hct_25_2 := Lib.hid ct_25_2
      replace ct_25_2 := cell_regrown ct_25_2
      have Hct_25_3 := Lib.hid ct_25_3
      replace ct_25_3 := cell_regrown ct_25_3
      have Hct_25_4 := Lib.hid ct_25_4
      replace ct_25_4 := cell_regrown ct_25_4
      have Hct_25_5 := Lib.hid ct_25_5
      replace ct_25_5 := cell_regrown ct_25_5
      replace H := bind_hid H
      obtain ⟨t_27, qt_27, H⟩ := H
      have nt_27 : ∀ d os, Calls Try.prog 50 #[.agg #[.int .i64 t_25_id, .string t_25_town, .int .i64 t_25_kind_, .int .i64 t_25_first, .int .i64 t_25_last, .string t_25_lost]] (Go.Sort.grow (redrawn wt_7 d) os) fun e w'' => e = .returned (.string t_27) ∧ ∃ p : Regrown, w'' = Go.Sort.grow (redrawn wt_7 p.d) p.os := fun d os => Calls.regrown_of (Go.Proofs.Ytgimcnpkngpmiaa.GiLoShownBy.C ((Go.Proofs.Ytgimcnpkngpmiaa.PPostmark.Postmark.mk t_25_id t_25_town t_25_kind_ t_25_first t_25_last t_25_lost))  _    qt_27)
      replace H := bind_hid H
      obtain ⟨t_28, qt_28, H⟩ := H
      have nt_28 : ∀ d os, Calls Try.prog 72 #[.string t_22, .string t_27] (Go.Sort.grow (redrawn wt_7 d) os) fun e w'' => e = .returned (.bool t_28) ∧ ∃ p : Regrown, w'' = Go.Sort.grow (redrawn wt_7 p.d) p.os := fun d os => Calls.regrown_of (Go.Proofs.Ytgimcnpkngpmiaa.GiReadsAs.C (t_22) (t_27)  _    qt_28)
      refine wp_region_quiet_below (by kernel_rfl) (by kernel_rfl) ?_
      repeat (go_big_quiet_step (first | (go_at_call 50; with_reducible exact nt_22 _ _) | (go_at_call 50; with_reducible exact nt_27 _ _) | (go_at_call 50; exact nt_22 _ _) | (go_at_call 50; exact nt_27 _ _) | (go_at_call 72; exact nt_28 _ _)))
      refine wpQuiet_nil ?_
      intro Y4 hY4
      replace hY4 := below_class hY4
      clear nt_22 nt_27 nt_28
      replace ct_20_0 := Hct_20_0.out
      clear Hct_20_0
      replace ct_20_1 := Hct_20_1.out
      clear Hct_20_1
      replace ct_20_2 := Hct_20_2.out
      clear Hct_20_2
      replace ct_20_3 := Hct_20_3.out
      clear Hct_20_3
      replace ct_20_4 := Hct_20_4.out
      clear Hct_20_4
      replace ct_20_5 := Hct_20_5.out
      clear Hct_20_5
      replace ct_25_0 := Hct_25_0.out
      clear Hct_25_0
      replace ct_25_1 := Hct_25_1.out
      clear Hct_25_1
      replace ct_25_2 := Hct_25_2.out
      clear Hct_25_2
      replace ct_25_3 := Hct_25_3.out
      clear Hct_25_3
      replace ct_25_4 := Hct_25_4.out
      clear Hct_25_4
      replace ct_25_5 := Hct_25_5.out
      clear Hct_25_5
      have HBY4 := Lib.hid (Below.step HBwt_7.out hY4)
      replace ct_20_0 := cell_below hY4 ct_20_0
      replace ct_20_1 := cell_below hY4 ct_20_1
      replace ct_20_2 := cell_below hY4 ct_20_2
      replace ct_20_3 := cell_below hY4 ct_20_3
      replace ct_20_4 := cell_below hY4 ct_20_4
      replace ct_20_5 := cell_below hY4 ct_20_5
      replace ct_25_0 := cell_below hY4 ct_25_0
      replace ct_25_1 := cell_below hY4 ct_25_1
      replace ct_25_2 := cell_below hY4 ct_25_2
      replace ct_25_3 := cell_below hY4 ct_25_3
      replace ct_25_4 := cell_below hY4 ct_25_4
      replace ct_25_5 := cell_below hY4 ct_25_5
      clear hY4
      cases ret_hid H
      go_wp2_with fail
      go_ret2
      exact ⟨rfl, HBY4.out⟩
    | true =>
      replace H := ite_t H
      cases ret_hid H
      go_wp2_with fail
      go_ret2
      exact ⟨rfl, HBwt_7.out⟩
  | true =>
    replace H := ite_t H
    replace H := app_hid H
    replace H := ite_t H
    cases ret_hid H
    go_wp2_with fail
    go_ret2
    exact ⟨rfl, HBwt_7.out⟩
end Go.Proofs.Ytgimcnpkngpmiaa.GiSameTown

/- loop.example/g01062/laws.FnExactSameTown as a plain function, and the contract of the program's: where the plain one has an answer, the program has it. Conditions: slices read as lists. -/
namespace Go.Proofs.Ytgimcnpkngpmiaa.GlFnExactSameTown
set_option linter.unusedVariables false
set_option linter.unusedSimpArgs false
open Go.RowKit
open Go.Proofs.Ytgimcnpkngpmiaa.Rowed Go.Proofs.Ytgimcnpkngpmiaa.Turn Go.Proofs.Ytgimcnpkngpmiaa.Aid Go.Proofs.Ytgimcnpkngpmiaa.GoP Go.Proofs.Ytgimcnpkngpmiaa.GoM

def P (fuel : Nat) (aList : (List Go.Proofs.Ytgimcnpkngpmiaa.PPostmark.Postmark)) (aA : Int) (aB : Int) : Option (Bool) :=
  Option.bind (Go.Proofs.Ytgimcnpkngpmiaa.GlSzPostmarkS.P aList 1048576) fun (t_4 : Int) =>
  letK (decide (t_4 < 0)) fun (t_7 : Bool) =>
  iteK t_7
  (some true)
  (Option.bind (Go.Proofs.Ytgimcnpkngpmiaa.GlToPostmarkS.P aList) fun (t_10 : (List Go.Proofs.Ytgimcnpkngpmiaa.PPostmark.Postmark)) =>
  bind2 (Go.Proofs.Ytgimcnpkngpmiaa.GsSameTown.P fuel t_10 aA aB) fun (t_13a : Bool) (t_13b : Bool) =>
  Option.bind (Go.Proofs.Ytgimcnpkngpmiaa.GlToPostmarkS.P aList) fun (t_20 : (List Go.Proofs.Ytgimcnpkngpmiaa.PPostmark.Postmark)) =>
  bind2 (Go.Proofs.Ytgimcnpkngpmiaa.GiSameTown.P t_20 aA aB) fun (t_25a : Bool) (t_25b : Bool) =>
  letK (!(t_25a == t_13a)) fun (t_33 : Bool) =>
  joinK (fun (t_38 : Bool) =>
  iteK t_38
  (some false)
  (Option.bind (Go.Proofs.Ytgimcnpkngpmiaa.GlToPostmarkS.P aList) fun (t_42 : (List Go.Proofs.Ytgimcnpkngpmiaa.PPostmark.Postmark)) =>
  Option.bind (Go.Proofs.Ytgimcnpkngpmiaa.GlEqPostmarkS.P t_20 t_42) fun (t_43 : Bool) =>
  letK (!t_43) fun (t_44 : Bool) =>
  iteK t_44
  (some false)
  (some true))) fun jt_38 => iteK t_33 (appK jt_38 true) (letK (!(t_25b == t_13b)) fun (t_37 : Bool) =>
  appK jt_38 t_37))

set_option maxRecDepth 100000 in
set_option maxHeartbeats 2000000 in
theorem C (fuel : Nat) (aList : (List Go.Proofs.Ytgimcnpkngpmiaa.PPostmark.Postmark)) (aA : Int) (aB : Int) (A0 : Option Addr) (c0 : Nat)  (w : World) (M0 : Hid (Cells w 6 A0 aList.length (Go.Proofs.Ytgimcnpkngpmiaa.PPostmark.flat aList))) (N0 : Hid (aList.length ≤ 9223372036854775807))  {r : Bool} (H : Hid (P fuel aList aA aB = some r)) :
    Calls Try.prog 10 #[.slice A0 aList.length c0, .int .i64 aA, .int .i64 aB] w (Gives (.bool r) w) := by
  have HB := Lib.hid (Below.refl w.heap.size w)
  unfold P at H
  have N0o := N0.out
  go_enter Try.func10, Try.ntmps10
  replace H := bind_hid H
  obtain ⟨t_4, qt_4, H⟩ := H
  go_wp2_with fail
  go_at_call 16
  refine (Go.Proofs.Ytgimcnpkngpmiaa.GlSzPostmarkS.C (aList) (1048576) A0 c0 _   (Lib.hid (Cells.below M0.out HB.out)) N0 qt_4).mono ?_
  rintro e_t_4 wt_4 ⟨rfl, bt_4⟩
  have HBwt_4 := Lib.hid (Below.step HB.out bt_4)
  clear bt_4
  replace H := let_hid H
  obtain ⟨t_7, ht_7, H⟩ := H
  cases t_7 with
  | false =>
    replace H := ite_f H
    replace H := bind_hid H
    obtain ⟨t_10, qt_10, H⟩ := H
    go_wp2_with fail
    go_at_call 18
    refine (Go.Proofs.Ytgimcnpkngpmiaa.GlToPostmarkS.C (aList) A0 c0 _   (Lib.hid (Cells.below M0.out HBwt_4.out)) N0 qt_10).mono ?_
    rintro e_t_10 wt_10 ⟨At_10, ct_10, rfl, ot_10, bt_10⟩
    have Ot_10 := Lib.hid (own_lower ot_10 HBwt_4.out.size)
    clear ot_10
    have HBwt_10 := Lib.hid (Below.step HBwt_4.out bt_10)
    clear bt_10
    replace H := bind2_hid H
    obtain ⟨t_13a, t_13b, qt_13, H⟩ := H
    go_wp2_with fail
    go_at_call 36
    refine (Go.Proofs.Ytgimcnpkngpmiaa.GsSameTown.C fuel (t_10) (aA) (aB) At_10 ct_10 _   (Lib.hid (own_cells Ot_10.out)) (Lib.hid (own_max Ot_10.out)) qt_13).mono ?_
    rintro e_t_13 wt_13 ⟨rfl, bt_13⟩
    have HBwt_13 := Lib.hid (Below.step HBwt_10.out bt_13)
    replace Ot_10 := Lib.hid (own_below Ot_10.out bt_13)
    clear bt_13
    replace H := bind_hid H
    obtain ⟨t_20, qt_20, H⟩ := H
    go_wp2_with fail
    go_at_call 18
    refine (Go.Proofs.Ytgimcnpkngpmiaa.GlToPostmarkS.C (aList) A0 c0 _   (Lib.hid (Cells.below M0.out HBwt_13.out)) N0 qt_20).mono ?_
    rintro e_t_20 wt_20 ⟨At_20, ct_20, rfl, ot_20, bt_20⟩
    have Dt_20_t_10 := Lib.hid (apart_call ot_20 Ot_10.out)
    have Ot_20 := Lib.hid (own_lower ot_20 HBwt_13.out.size)
    clear ot_20
    have HBwt_20 := Lib.hid (Below.step HBwt_13.out bt_20)
    replace Ot_10 := Lib.hid (own_below Ot_10.out bt_20)
    clear bt_20
    replace H := bind2_hid H
    obtain ⟨t_25a, t_25b, qt_25, H⟩ := H
    go_wp2_with fail
    go_at_call 37
    refine (Go.Proofs.Ytgimcnpkngpmiaa.GiSameTown.C (t_20) (aA) (aB) At_20 ct_20 _   (Lib.hid (own_cells Ot_20.out)) (Lib.hid (own_max Ot_20.out)) qt_25).mono ?_
    rintro e_t_25 wt_25 ⟨rfl, bt_25⟩
    have HBwt_25 := Lib.hid (Below.step HBwt_20.out bt_25)
    replace Ot_10 := Lib.hid (own_below Ot_10.out bt_25)
    replace Ot_20 := Lib.hid (own_below Ot_20.out bt_25)
    clear bt_25
    replace H := let_hid H
    obtain ⟨t_33, ht_33, H⟩ := H
    replace H := join_hid H
    cases t_33 with
    | false =>
      replace H := ite_f H
      replace H := let_hid H
      obtain ⟨t_37, ht_37, H⟩ := H
      replace H := app_hid H
      cases t_37 with
      | false =>
        replace H := ite_f H
        replace H := bind_hid H
        obtain ⟨t_42, qt_42, H⟩ := H
        go_wp2_with fail
        go_at_call 18
        refine (Go.Proofs.Ytgimcnpkngpmiaa.GlToPostmarkS.C (aList) A0 c0 _   (Lib.hid (Cells.below M0.out HBwt_25.out)) N0 qt_42).mono ?_
        rintro e_t_42 wt_42 ⟨At_42, ct_42, rfl, ot_42, bt_42⟩
        have Dt_42_t_10 := Lib.hid (apart_call ot_42 Ot_10.out)
        have Dt_42_t_20 := Lib.hid (apart_call ot_42 Ot_20.out)
        have Ot_42 := Lib.hid (own_lower ot_42 HBwt_25.out.size)
        clear ot_42
        have HBwt_42 := Lib.hid (Below.step HBwt_25.out bt_42)
        replace Ot_10 := Lib.hid (own_below Ot_10.out bt_42)
        replace Ot_20 := Lib.hid (own_below Ot_20.out bt_42)
        clear bt_42
        replace H := bind_hid H
        obtain ⟨t_43, qt_43, H⟩ := H
        go_wp2_with fail
        go_at_call 20
        refine (Go.Proofs.Ytgimcnpkngpmiaa.GlEqPostmarkS.C (t_20) (t_42) At_20 ct_20 At_42 ct_42 _   (Lib.hid (own_cells Ot_20.out)) (Lib.hid (own_max Ot_20.out)) (Lib.hid (own_cells Ot_42.out)) (Lib.hid (own_max Ot_42.out)) qt_43).mono ?_
        rintro e_t_43 wt_43 ⟨rfl, bt_43⟩
        have HBwt_43 := Lib.hid (Below.step HBwt_42.out bt_43)
        replace Ot_10 := Lib.hid (own_below Ot_10.out bt_43)
        replace Ot_20 := Lib.hid (own_below Ot_20.out bt_43)
        replace Ot_42 := Lib.hid (own_below Ot_42.out bt_43)
        clear bt_43
        cases t_43 with
        | false =>
          replace H := let_hid H
          obtain ⟨t_44, ht_44, H⟩ := H
          obtain rfl : t_44 = true := ht_44.symm
          replace H := ite_t H
          obtain rfl := ret_hid H
          go_wp2_with fail
          go_ret
          exact ⟨rfl, HBwt_43.out⟩
        | true =>
          replace H := let_hid H
          obtain ⟨t_44, ht_44, H⟩ := H
          obtain rfl : t_44 = false := ht_44.symm
          replace H := ite_f H
          obtain rfl := ret_hid H
          go_wp2_with fail
          go_ret
          exact ⟨rfl, HBwt_43.out⟩
      | true =>
        replace H := ite_t H
        obtain rfl := ret_hid H
        go_wp2_with fail
        go_ret
        exact ⟨rfl, HBwt_25.out⟩
    | true =>
      replace H := ite_t H
      replace H := app_hid H
      replace H := ite_t H
      obtain rfl := ret_hid H
      go_wp2_with fail
      go_ret
      exact ⟨rfl, HBwt_25.out⟩
  | true =>
    replace H := ite_t H
    obtain rfl := ret_hid H
    go_wp2_with fail
    go_ret
    exact ⟨rfl, HBwt_4.out⟩
end Go.Proofs.Ytgimcnpkngpmiaa.GlFnExactSameTown

/- Chapter 11: postmarks: the plain functions of the program and of the reference agree, and the laws answer true. (Q11Reads) No condition but those of each theorem. -/
namespace Go.Proofs.Ytgimcnpkngpmiaa.Q11Reads
set_option linter.unusedVariables false
set_option linter.unusedSimpArgs false
open Go.RowKit
open Go.Proofs.Ytgimcnpkngpmiaa.GoP Go.Proofs.Ytgimcnpkngpmiaa.PlainStamp Go.Proofs.Ytgimcnpkngpmiaa.QBase Go.Proofs.Ytgimcnpkngpmiaa.QAll Go.Proofs.Ytgimcnpkngpmiaa.QByte Go.Proofs.Ytgimcnpkngpmiaa.QLoop

def readAt (x y : UInt8) : Bool := (x == y || x == 63) || y == 63
def readsB (a b : ByteArray) : Bool := decide (a.size = b.size) && allN a.size fun i => readAt (a.toList.getD i 0) (b.toList.getD i 0)
theorem reads_impl (a b : ByteArray) (hz : a.size ≤ 9223372036854775807) : GiReadsAs.P a b = some (readsB a b) := by
  simp only [GiReadsAs.P, letK, iteK_if, readsB]
  by_cases h : a.size = b.size
  · rw [if_neg (by simp; omega), guardK_pos hz, decide_eq_true h, Bool.true_and, all_cnt (p := fun i => readAt (a.toList.getD i 0) (b.toList.getD i 0)) (no := false)]
    · cases allN a.size fun i => readAt (a.toList.getD i 0) (b.toList.getD i 0) <;> simp [GiReadsAs.e0]
    · intro k nx hk
      obtain ⟨x, hx, hxi⟩ := at_lt (l := a.toList) (k := k) (by rw [toList_size]; omega)
      obtain ⟨y, hy, hyi⟩ := at_lt (l := b.toList) (k := k) (by rw [toList_size]; omega)
      have gx : a.toList.getD k 0 = x := by simp [List.getD, hx]
      have gy : b.toList.getD k 0 = y := by simp [List.getD, hy]
      have n1 : ((x.toNat : Int) != (y.toNat : Int)) = !(x == y) := by rw [← byte_eq x y]; rfl
      have n2 : ((x.toNat : Int) != 63) = !(x == 63) := by rw [← byte_eq x 63]; rfl
      have n3 : ((y.toNat : Int) != 63) = !(y == 63) := by rw [← byte_eq y 63]; rfl
      simp only [GiReadsAs.l0, hxi, hyi, gx, gy, Option.bind_some, letK, joinK, appK, iteK_if, n1, n2, n3, readAt]
      cases (x == y) <;> cases (x == 63) <;> cases (y == 63) <;> simp
  · rw [if_pos (by simp; omega), decide_eq_false h, Bool.false_and]
theorem reads_spec (a b : ByteArray) (hz : a.size ≤ 9223372036854775807) : GsL11Reads.P a b = some (readsB a b) := by
  simp only [GsL11Reads.P, letK, iteK_if, readsB]
  by_cases h : a.size = b.size
  · rw [if_neg (by simp; omega), guardK_pos hz, decide_eq_true h, Bool.true_and, all_cnt (p := fun i => readAt (a.toList.getD i 0) (b.toList.getD i 0)) (no := false)]
    · cases allN a.size fun i => readAt (a.toList.getD i 0) (b.toList.getD i 0) <;> simp [GsL11Reads.e0]
    · intro k nx hk
      obtain ⟨x, hx, hxi⟩ := at_lt (l := a.toList) (k := k) (by rw [toList_size]; omega)
      obtain ⟨y, hy, hyi⟩ := at_lt (l := b.toList) (k := k) (by rw [toList_size]; omega)
      have gx : a.toList.getD k 0 = x := by simp [List.getD, hx]
      have gy : b.toList.getD k 0 = y := by simp [List.getD, hy]
      have n1 : ((x.toNat : Int) != (y.toNat : Int)) = !(x == y) := by rw [← byte_eq x y]; rfl
      have n2 : ((x.toNat : Int) != 63) = !(x == 63) := by rw [← byte_eq x 63]; rfl
      have n3 : ((y.toNat : Int) != 63) = !(y == 63) := by rw [← byte_eq y 63]; rfl
      simp only [GsL11Reads.l0, hxi, hyi, gx, gy, Option.bind_some, letK, joinK, appK, iteK_if, n1, n2, n3, readAt]
      cases (x == y) <;> cases (x == 63) <;> cases (y == 63) <;> simp
  · rw [if_pos (by simp; omega), decide_eq_false h, Bool.false_and]
end Go.Proofs.Ytgimcnpkngpmiaa.Q11Reads

/- Chapter 11: postmarks: the plain functions of the program and of the reference agree, and the laws answer true. (Q11Same) No condition but those of each theorem. -/
namespace Go.Proofs.Ytgimcnpkngpmiaa.Q11Same
set_option linter.unusedVariables false
set_option linter.unusedSimpArgs false
open Go.RowKit
open Go.Proofs.Ytgimcnpkngpmiaa.GoP Go.Proofs.Ytgimcnpkngpmiaa.PlainStamp Go.Proofs.Ytgimcnpkngpmiaa.QBase Go.Proofs.Ytgimcnpkngpmiaa.Q11Find Go.Proofs.Ytgimcnpkngpmiaa.Q11Reads Go.Proofs.Ytgimcnpkngpmiaa.Q11Show Go.Proofs.Ytgimcnpkngpmiaa.QCount Go.Proofs.Ytgimcnpkngpmiaa.QOrd Go.Proofs.Ytgimcnpkngpmiaa.Q11List Go.Proofs.Ytgimcnpkngpmiaa.Q11Mark Go.Proofs.Ytgimcnpkngpmiaa.QUp Go.Proofs.Ytgimcnpkngpmiaa.QLoop Go.Proofs.Ytgimcnpkngpmiaa.PPostmark

def sameRes (l : List Postmark) (a b : Int) : Bool × Bool := if okPms l = true then (match fnd l a, fnd l b with | some (_, x), some (_, y) => (readsB (shown x) (shown y), true) | _, _ => (false, false)) else (false, false)
theorem same_impl (l : List Postmark) (hf : ∀ s ∈ l, s.fits) (a b : Int) : GiSameTown.P l a b = some (sameRes l a b) := by
  simp only [GiSameTown.P, indexOf_eq l hf, Option.bind_some, letK, joinK, appK, iteK_if, sameRes]
  cases hc : okPms l with
  | false => simp
  | true =>
    simp only [if_true]
    cases ha : fnd l a with
    | none => simp [(fnd_none ha).1]
    | some p =>
      obtain ⟨i, x⟩ := p
      obtain ⟨e1, hx, _, _⟩ := fnd_some ha
      have hnx : ¬ ((i : Int) < 0) := by omega
      cases hb : fnd l b with
      | none => simp [(fnd_none hb).1]
      | some q =>
        obtain ⟨k, y⟩ := q
        obtain ⟨e2, hy, _, _⟩ := fnd_some hb
        have hny : ¬ ((k : Int) < 0) := by omega
        have hzx := okPm_size (pms_mem hc (List.mem_of_getElem? hx))
        have hzy := okPm_size (pms_mem hc (List.mem_of_getElem? hy))
        have s1 := shown_impl hzx.1 (by omega)
        have s2 := shown_impl hzy.1 (by omega)
        have hr := reads_impl (shown x) (shown y) (by rw [shown_size hzx.1]; omega)
        simp [e1, e2, hnx, hny, idx_nat, hx, hy, unPostmark, s1, s2, hr]
theorem same_spec (fuel : Nat) (hfu : 100 ≤ fuel) (l : List Postmark) (hf : ∀ s ∈ l, s.fits) (hl : l.length ≤ 9223372036854775807) (a b : Int) : GsSameTown.P fuel l a b = some (sameRes l a b) := by
  simp only [GsSameTown.P, l11Good_eq fuel hfu l hf hl, l11Find_eq, Option.bind_some, letK, joinK, appK, iteK_if, sameRes]
  cases hc : okPms l with
  | false => simp
  | true =>
    cases ha : fnd l a with
    | none => simp [(fnd_none ha).1]
    | some p =>
      obtain ⟨i, x⟩ := p
      obtain ⟨e1, hx, _, _⟩ := fnd_some ha
      have hnx : ¬ ((i : Int) < 0) := by omega
      cases hb : fnd l b with
      | none => simp [(fnd_none hb).1]
      | some q =>
        obtain ⟨k, y⟩ := q
        obtain ⟨e2, hy, _, _⟩ := fnd_some hb
        have hny : ¬ ((k : Int) < 0) := by omega
        have hzx := okPm_size (pms_mem hc (List.mem_of_getElem? hx))
        have hzy := okPm_size (pms_mem hc (List.mem_of_getElem? hy))
        have s1 := shown_spec hzx.1 (by omega) fuel hfu
        have s2 := shown_spec hzy.1 (by omega) fuel hfu
        have hr := reads_spec (shown x) (shown y) (by rw [shown_size hzx.1]; omega)
        simp [e1, e2, hnx, hny, idx_nat, hx, hy, unPostmark, s1, s2, hr]
end Go.Proofs.Ytgimcnpkngpmiaa.Q11Same

/- Chapter 11: postmarks: the plain functions of the program and of the reference agree, and the laws answer true. (QL11Same) No condition but those of each theorem. -/
namespace Go.Proofs.Ytgimcnpkngpmiaa.QL11Same
set_option linter.unusedVariables false
set_option linter.unusedSimpArgs false
open Go.RowKit
open Go.Proofs.Ytgimcnpkngpmiaa.GoP Go.Proofs.Ytgimcnpkngpmiaa.PlainStamp Go.Proofs.Ytgimcnpkngpmiaa.QBase Go.Proofs.Ytgimcnpkngpmiaa.Q11Same Go.Proofs.Ytgimcnpkngpmiaa.QLoop Go.Proofs.Ytgimcnpkngpmiaa.PPostmark Go.Proofs.Ytgimcnpkngpmiaa.QHPostmarkE

theorem law_same (fuel : Nat) (hfu : 100 ≤ fuel) (l : List Postmark) (a b : Int) (hf : ∀ s ∈ l, s.fits) (hl : l.length ≤ 9223372036854775807) : GlFnExactSameTown.P fuel l a b = some true := by
  obtain ⟨v, hv, hn⟩ := szS l hf hl
  simp only [GlFnExactSameTown.P, hv, Option.bind_some, letK, iteK_if]
  by_cases hb : v < 0
  · rw [if_pos (by simp; omega)]
  · rw [if_neg (by simp; omega)]
    obtain ⟨⟨x, y⟩, hr⟩ : ∃ z, z = sameRes l a b := ⟨_, rfl⟩
    simp [toS l (hn (by omega)), same_spec fuel hfu l hf hl, same_impl l hf, ← hr, bind2, joinK, appK, iteK_if, eqS]
end Go.Proofs.Ytgimcnpkngpmiaa.QL11Same

