/- Texts on which the proofs of several laws stand, one behind the other (13 of 21). No condition of their own. -/
import Derived.Test.YtlljmgphgmklcaaChecked
import Derived.Test.YtlljmgphgmklcaaC10P1
import Derived.Test.YtlljmgphgmklcaaC10P2
import Derived.Test.YtlljmgphgmklcaaC10P4
import Derived.Test.YtlljmgphgmklcaaC10P6
import Derived.Test.YtlljmgphgmklcaaC10P3
import Derived.Test.YtlljmgphgmklcaaC10P7
import Derived.WalkKit
import Derived.WalkSpells
import Derived.WalkLawsBesides
import Derived.BigQuiet
import Derived.OwnWalk
import Derived.Deep.LoopGhost
import Derived.Deep.QuietTactic
import Derived.IntWalk
import Derived.Lib.QuietBelow
import Derived.Test.YtlljmgphgmklcaaC10P8
import Derived.Test.YtlljmgphgmklcaaC10P5
/- loop.example/g01062/spec.TrueCovers as a plain function, and the contract of the program's: where the plain one has an answer, the program has it. Conditions: slices read as lists. -/
namespace Go.Proofs.Ytlljmgphgmklcaa.GsTrueCovers
set_option linter.unusedVariables false
set_option linter.unusedSimpArgs false
open Go.RowKit
open Go.Proofs.Ytlljmgphgmklcaa.Rowed Go.Proofs.Ytlljmgphgmklcaa.Turn Go.Proofs.Ytlljmgphgmklcaa.Aid Go.Proofs.Ytlljmgphgmklcaa.GoP Go.Proofs.Ytlljmgphgmklcaa.GoM

def l0 (rates : (List Go.Proofs.Ytlljmgphgmklcaa.PRate.Rate)) (mails : (List Go.Proofs.Ytlljmgphgmklcaa.PMail.Mail)) (list : (List Go.Proofs.Ytlljmgphgmklcaa.PCover.Cover)) (k0 : Nat) (s : (List Int)) (nx0 bk0 : (List Int) → Option ((List Int) × Bool)) : Option ((List Int) × Bool) :=
  letK s fun out_8l0 =>
  Option.bind (idx list (k0 : Int)) fun (yt_29 : Go.Proofs.Ytlljmgphgmklcaa.PCover.Cover) =>
  unCover yt_29 fun (t_29_id : Int) (t_29_day : Int) (t_29_zone : Int) (t_29_grams : Int) (t_29_paid : Int) (t_29_from_ : Int) (t_29_to_ : Int) (t_29_leave : Int) (t_29_arrive : Int) =>
  Option.bind (Go.Proofs.Ytlljmgphgmklcaa.GsL10Fault.P rates mails (Go.Proofs.Ytlljmgphgmklcaa.PCover.Cover.mk t_29_id t_29_day t_29_zone t_29_grams t_29_paid t_29_from_ t_29_to_ t_29_leave t_29_arrive)) fun (t_31 : Int) =>
  letK (t_31 == 0) fun (t_32 : Bool) =>
  iteK t_32
  (Option.bind (idx list (k0 : Int)) fun (yt_36 : Go.Proofs.Ytlljmgphgmklcaa.PCover.Cover) =>
  unCover yt_36 fun (t_36_id : Int) (t_36_day : Int) (t_36_zone : Int) (t_36_grams : Int) (t_36_paid : Int) (t_36_from_ : Int) (t_36_to_ : Int) (t_36_leave : Int) (t_36_arrive : Int) =>
  guardK (out_8l0.length ≤ 1099511627776) <|
  letK (out_8l0 ++ [t_36_id]) fun (t_40 : (List Int)) =>
  appK nx0 (t_40))
  (appK nx0 (out_8l0))

def e0  (s : (List Int)) : Option ((List Int) × Bool) :=
  letK s fun out_8l0 =>
  some (out_8l0, true)

def P (fuel : Nat) (rates : (List Go.Proofs.Ytlljmgphgmklcaa.PRate.Rate)) (mails : (List Go.Proofs.Ytlljmgphgmklcaa.PMail.Mail)) (list : (List Go.Proofs.Ytlljmgphgmklcaa.PCover.Cover)) : Option ((List Int) × Bool) :=
  Option.bind (Go.Proofs.Ytlljmgphgmklcaa.GsL8Good.P fuel rates) fun (t_5 : Bool) =>
  letK (!t_5) fun (t_6 : Bool) =>
  joinK (fun (t_11 : Bool) =>
  joinK (fun (t_16 : Bool) =>
  iteK t_16
  (some (([] : List Int), false))
  (cntK (l0 rates mails list) (list.length) 0 (([] : List Int)) (e0 ))) fun jt_16 => iteK t_11 (appK jt_16 true) (Option.bind (Go.Proofs.Ytlljmgphgmklcaa.GsL10Good.P list) fun (t_14 : Bool) =>
  letK (!t_14) fun (t_15 : Bool) =>
  appK jt_16 t_15)) fun jt_11 => iteK t_6 (appK jt_11 true) (Option.bind (Go.Proofs.Ytlljmgphgmklcaa.GsL9Good.P mails) fun (t_9 : Bool) =>
  letK (!t_9) fun (t_10 : Bool) =>
  appK jt_11 t_10)

set_option maxRecDepth 100000 in
set_option maxHeartbeats 2000000 in
theorem C (fuel : Nat) (rates : (List Go.Proofs.Ytlljmgphgmklcaa.PRate.Rate)) (mails : (List Go.Proofs.Ytlljmgphgmklcaa.PMail.Mail)) (list : (List Go.Proofs.Ytlljmgphgmklcaa.PCover.Cover)) (A0 : Option Addr) (c0 : Nat) (A1 : Option Addr) (c1 : Nat) (A2 : Option Addr) (c2 : Nat)  (w : World) (M0 : Hid (Cells w 5 A0 rates.length (Go.Proofs.Ytlljmgphgmklcaa.PRate.flat rates))) (N0 : Hid (rates.length ≤ 9223372036854775807)) (M1 : Hid (Cells w 4 A1 mails.length (Go.Proofs.Ytlljmgphgmklcaa.PMail.flat mails))) (N1 : Hid (mails.length ≤ 9223372036854775807)) (M2 : Hid (Cells w 9 A2 list.length (Go.Proofs.Ytlljmgphgmklcaa.PCover.flat list))) (N2 : Hid (list.length ≤ 9223372036854775807))  {r0 : (List Int)} {r1 : Bool} (H : Hid (P fuel rates mails list = some (r0, r1))) :
    Calls Try.prog 32 #[.slice A0 rates.length c0, .slice A1 mails.length c1, .slice A2 list.length c2] w (fun e w' => ∃ A_r0 c_r0, e = .returned (.tuple #[.slice A_r0 r0.length c_r0, .bool r1]) ∧ w'.ownsRow w.heap.size 3 1 (.slice A_r0 r0.length c_r0) r0.length (Go.Proofs.Ytlljmgphgmklcaa.HelpInt.iv r0) ∧ Below w.heap.size w w') := by
  have HB := Lib.hid (Below.refl w.heap.size w)
  unfold P at H
  have N0o := N0.out
  have N1o := N1.out
  have N2o := N2.out
  obtain ⟨i0_3, hi_3, hz0_3, hz1_3, hz2_3⟩ := Aid.info_parts (P := Try.prog) (T := 3) (z := .int .i64 0) (s := 1) (b := 8) (by kernel_rfl)
  go_enter Try.func32, Try.ntmps32
  obtain ⟨w_t_2, hw_t_2⟩ : ∃ x, w.alloc (.cells #[] 3) = x := ⟨_, rfl⟩
  have bw_t_2 : Below w.heap.size w w_t_2 := by rw [← hw_t_2]; exact (Below.refl _ _).alloc (Nat.le_refl _) _
  have Ot_2 : Hid (w_t_2.ownsRow w.heap.size 3 1 (.slice (some ⟨w.heap.size, 0, none⟩) 0 0) 0 []) := Lib.hid (by rw [← hw_t_2]; exact own_empty HB.out.size)
  have HBw_t_2 := Lib.hid (Below.step HB.out bw_t_2)
  clear bw_t_2
  replace H := bind_hid H
  obtain ⟨t_5, qt_5, H⟩ := H
  go_wp2_with fail
  go_at_call 89
  refine (Go.Proofs.Ytlljmgphgmklcaa.GsL8Good.C fuel (rates) A0 c0 _   (Lib.hid (Cells.below M0.out HBw_t_2.out)) N0 qt_5).mono ?_
  rintro e_t_5 wt_5 ⟨rfl, bt_5⟩
  have HBwt_5 := Lib.hid (Below.step HBw_t_2.out bt_5)
  replace Ot_2 := Lib.hid (own_below Ot_2.out bt_5)
  clear bt_5
  cases t_5 with
  | false =>
    replace H := let_hid H
    obtain ⟨t_6, ht_6, H⟩ := H
    obtain rfl : t_6 = true := ht_6.symm
    replace H := join_hid H
    replace H := ite_t H
    replace H := app_hid H
    replace H := join_hid H
    replace H := ite_t H
    replace H := app_hid H
    replace H := ite_t H
    cases ret_hid H
    go_wp2_with fail
    go_ret2
    exact ⟨(some ⟨w.heap.size, 0, none⟩), 0, rfl, Ot_2.out, HBwt_5.out⟩
  | true =>
    replace H := let_hid H
    obtain ⟨t_6, ht_6, H⟩ := H
    obtain rfl : t_6 = false := ht_6.symm
    replace H := join_hid H
    replace H := ite_f H
    replace H := bind_hid H
    obtain ⟨t_9, qt_9, H⟩ := H
    go_wp2_with fail
    go_at_call 90
    refine (Go.Proofs.Ytlljmgphgmklcaa.GsL9Good.C (mails) A1 c1 _   (Lib.hid (Cells.below M1.out HBwt_5.out)) N1 qt_9).mono ?_
    rintro e_t_9 wt_9 ⟨rfl, bt_9⟩
    have HBwt_9 := Lib.hid (Below.step HBwt_5.out bt_9)
    replace Ot_2 := Lib.hid (own_below Ot_2.out bt_9)
    clear bt_9
    cases t_9 with
    | false =>
      replace H := let_hid H
      obtain ⟨t_10, ht_10, H⟩ := H
      obtain rfl : t_10 = true := ht_10.symm
      replace H := app_hid H
      replace H := join_hid H
      replace H := ite_t H
      replace H := app_hid H
      replace H := ite_t H
      cases ret_hid H
      go_wp2_with fail
      go_ret2
      exact ⟨(some ⟨w.heap.size, 0, none⟩), 0, rfl, Ot_2.out, HBwt_9.out⟩
    | true =>
      replace H := let_hid H
      obtain ⟨t_10, ht_10, H⟩ := H
      obtain rfl : t_10 = false := ht_10.symm
      replace H := app_hid H
      replace H := join_hid H
      replace H := ite_f H
      replace H := bind_hid H
      obtain ⟨t_14, qt_14, H⟩ := H
      go_wp2_with fail
      go_at_call 85
      refine (Go.Proofs.Ytlljmgphgmklcaa.GsL10Good.C (list) A2 c2 _   (Lib.hid (Cells.below M2.out HBwt_9.out)) N2 qt_14).mono ?_
      rintro e_t_14 wt_14 ⟨rfl, bt_14⟩
      have HBwt_14 := Lib.hid (Below.step HBwt_9.out bt_14)
      replace Ot_2 := Lib.hid (own_below Ot_2.out bt_14)
      clear bt_14
      cases t_14 with
      | false =>
        replace H := let_hid H
        obtain ⟨t_15, ht_15, H⟩ := H
        obtain rfl : t_15 = true := ht_15.symm
        replace H := app_hid H
        replace H := ite_t H
        cases ret_hid H
        go_wp2_with fail
        go_ret2
        exact ⟨(some ⟨w.heap.size, 0, none⟩), 0, rfl, Ot_2.out, HBwt_14.out⟩
      | true =>
        replace H := let_hid H
        obtain ⟨t_15, ht_15, H⟩ := H
        obtain rfl : t_15 = false := ht_15.symm
        replace H := app_hid H
        replace H := ite_f H
        go_wp2_with fail
        go_loopg [9, 8] (list.length) (fun m_ v9_ v8_ wr => ∃ (k0 : Nat) (out_8l0 : (List Int)) (Aout_8l0 : Option Addr) (cout_8l0 : Nat), k0 + m_ = list.length ∧ v9_ = .int .i64 (k0 : Int) ∧ v8_ = .slice Aout_8l0 out_8l0.length cout_8l0 ∧ Hid (cntK (l0 rates mails list) m_ k0 (out_8l0) (e0 ) = some (r0, r1)) ∧ Hid (Below w.heap.size w wr) ∧ Hid (wr.ownsRow w.heap.size 3 1 (.slice Aout_8l0 out_8l0.length cout_8l0) out_8l0.length (Go.Proofs.Ytlljmgphgmklcaa.HelpInt.iv out_8l0)))
        case atStart => exact ⟨0, _, _, _, by omega, rfl, rfl, H, HBwt_14, Ot_2⟩
        case round =>
          obtain ⟨k0, out_8l0, Aout_8l0, cout_8l0, hkm0, rfl, rfl, H, HBwr0, Oout_8l0⟩ := hrel
          rename World => wr0
          cases gk with
          | zero =>
            obtain rfl : k0 = list.length := by omega
            have hc0 : decide (((list.length : Nat) : Int) < ((list.length : Nat) : Int)) = false := by simp
            replace H := cnt_zero H
            unfold e0 at H
            replace H := let_hid H
            obtain ⟨_, rfl, H⟩ := H
            cases ret_hid H
            go_wp2_with fail
            go_ret2
            exact ⟨Aout_8l0, cout_8l0, rfl, Oout_8l0.out, HBwr0.out⟩
          | succ m0 =>
            have hlt0 : k0 < list.length := by omega
            have hc0 : decide ((k0 : Int) < ((list.length : Nat) : Int)) = true := by simp; omega
            replace H := cnt_succ H
            unfold l0 at H
            replace H := let_hid H
            obtain ⟨_, rfl, H⟩ := H
            replace H := idx_hid H
            obtain ⟨nt_29, yt_29, et_29, lt_29, gt_29, H⟩ := H
            obtain rfl : k0 = nt_29 := by omega
            clear et_29
            obtain ⟨t_29_id, t_29_day, t_29_zone, t_29_grams, t_29_paid, t_29_from_, t_29_to_, t_29_leave, t_29_arrive⟩ := yt_29
            replace H := unCover_hid H
            obtain ⟨ab_t_29, ao_t_29, zt_29, At_29, z_t_29, ct_29_0, ct_29_1, ct_29_2, ct_29_3, ct_29_4, ct_29_5, ct_29_6, ct_29_7, ct_29_8⟩ := Go.Proofs.Ytlljmgphgmklcaa.OCover.at_ M2.out lt_29
            obtain rfl := Option.some.inj (gt_29.out.symm.trans z_t_29)
            subst At_29
            have ltt_29 := cell_lt ct_29_0
            replace ct_29_0 := cell_below HBwr0.out ct_29_0
            replace ct_29_1 := cell_below HBwr0.out ct_29_1
            replace ct_29_2 := cell_below HBwr0.out ct_29_2
            replace ct_29_3 := cell_below HBwr0.out ct_29_3
            replace ct_29_4 := cell_below HBwr0.out ct_29_4
            replace ct_29_5 := cell_below HBwr0.out ct_29_5
            replace ct_29_6 := cell_below HBwr0.out ct_29_6
            replace ct_29_7 := cell_below HBwr0.out ct_29_7
            replace ct_29_8 := cell_below HBwr0.out ct_29_8
            clear z_t_29
            have b0t_29 : (0 : Int) ≤ (k0 : Int) := by omega
            have b1t_29 : (k0 : Int) < ((list.length : Nat) : Int) := by omega
            have b2t_29 : ((k0 : Int)).toNat = k0 := by omega
            replace H := bind_hid H
            obtain ⟨t_31, qt_31, H⟩ := H
            go_wp2_with fail
            go_at_call 91
            refine (Go.Proofs.Ytlljmgphgmklcaa.GsL10Fault.C (rates) (mails) ((Go.Proofs.Ytlljmgphgmklcaa.PCover.Cover.mk t_29_id t_29_day t_29_zone t_29_grams t_29_paid t_29_from_ t_29_to_ t_29_leave t_29_arrive)) A0 c0 A1 c1 _   (Lib.hid (Cells.below M0.out HBwr0.out)) N0 (Lib.hid (Cells.below M1.out HBwr0.out)) N1 qt_31).mono ?_
            rintro e_t_31 wt_31 ⟨rfl, bt_31⟩
            have HBwt_31 := Lib.hid (Below.step HBwr0.out bt_31)
            replace ct_29_0 := cell_below bt_31 ct_29_0
            replace ct_29_1 := cell_below bt_31 ct_29_1
            replace ct_29_2 := cell_below bt_31 ct_29_2
            replace ct_29_3 := cell_below bt_31 ct_29_3
            replace ct_29_4 := cell_below bt_31 ct_29_4
            replace ct_29_5 := cell_below bt_31 ct_29_5
            replace ct_29_6 := cell_below bt_31 ct_29_6
            replace ct_29_7 := cell_below bt_31 ct_29_7
            replace ct_29_8 := cell_below bt_31 ct_29_8
            replace Oout_8l0 := Lib.hid (own_below Oout_8l0.out bt_31)
            clear bt_31
            replace H := let_hid H
            obtain ⟨t_32, ht_32, H⟩ := H
            cases t_32 with
            | false =>
              replace H := ite_f H
              replace H := app_hid H
              go_wp2_with fail
              go_roundg m0
              case measure => omega
              case rel => exact ⟨k0 + 1, _, _, _, by omega, by go_num, rfl, H, HBwt_31, Oout_8l0⟩
            | true =>
              replace H := ite_t H
              replace H := idx_hid H
              obtain ⟨nt_36, yt_36, et_36, lt_36, gt_36, H⟩ := H
              obtain rfl : k0 = nt_36 := by omega
              clear et_36
              obtain rfl := Option.some.inj (gt_29.out.symm.trans gt_36.out)
              clear gt_36 lt_36
              replace H := unCover_hid H
              obtain ⟨w_t_39, hw_t_39⟩ : ∃ x, wt_31.alloc (.cells #[.int .i64 t_29_id] 3) = x := ⟨_, rfl⟩
              have bw_t_39 : Below wt_31.heap.size wt_31 w_t_39 := by rw [← hw_t_39]; exact (Below.refl _ _).alloc (Nat.le_refl _) _
              have HBw_t_39 := Lib.hid (Below.step HBwt_31.out bw_t_39)
              have ct_29_0__704 := cell_below bw_t_39 ct_29_0
              have ct_29_1__705 := cell_below bw_t_39 ct_29_1
              have ct_29_2__706 := cell_below bw_t_39 ct_29_2
              have ct_29_3__707 := cell_below bw_t_39 ct_29_3
              have ct_29_4__708 := cell_below bw_t_39 ct_29_4
              have ct_29_5__709 := cell_below bw_t_39 ct_29_5
              have ct_29_6__710 := cell_below bw_t_39 ct_29_6
              have ct_29_7__711 := cell_below bw_t_39 ct_29_7
              have ct_29_8__712 := cell_below bw_t_39 ct_29_8
              replace Oout_8l0 := Lib.hid (own_below Oout_8l0.out bw_t_39)
              clear bw_t_39
              replace H := guard_hid H
              obtain ⟨hlt_40, H⟩ := H
              replace H := let_hid H
              obtain ⟨t_40, ht_40, H⟩ := H
              have hht_40 := Lib.hid ht_40
              clear ht_40
              have hst_40 := HBw_t_39.out.size
              go_wp2_with (at_builtin; refine wpList_append_own_at _ rfl _ _ 48 rfl w.heap.size 3 i0_3 (.int .i64 0) 1 8 Try.underlying48 hi_3 hz0_3 hz1_3 hz2_3 rfl (by decide) _ _ _ rfl Oout_8l0.out ⟨wt_31.heap.size, 0, none⟩ 1 1 [.int .i64 t_29_id] rfl rfl (news_new hw_t_39) (one_cells rfl) (by unfold maxLen; omega) (by omega) hst_40 ?_; intro vt_40 wt_40 ot_40 gt_40 zt_40 yt_40; clear zt_40; obtain ⟨qt_40, ct_40, rfl, pt_40⟩ := own_push hht_40.out (Go.Proofs.Ytlljmgphgmklcaa.HelpInt.iv_snoc _ _) rfl ot_40; have Pt_40 := Lib.hid pt_40; have Yt_40 := Lib.hid yt_40; have Gt_40 := Lib.hid gt_40; clear ot_40 gt_40 pt_40 yt_40; refine stop_in ?_)
              refine stop_out ?_
              have HBwt_40 := Lib.hid (HBw_t_39.out.grown Gt_40.out hst_40 (fun q hq => (Oout_8l0.out.lt q hq).1))
              clear hst_40
              replace ct_29_0__704 := cell_other ct_29_0__704 Gt_40.out (apart_old Oout_8l0.out ltt_29)
              replace ct_29_1__705 := cell_other ct_29_1__705 Gt_40.out (apart_old Oout_8l0.out ltt_29)
              replace ct_29_2__706 := cell_other ct_29_2__706 Gt_40.out (apart_old Oout_8l0.out ltt_29)
              replace ct_29_3__707 := cell_other ct_29_3__707 Gt_40.out (apart_old Oout_8l0.out ltt_29)
              replace ct_29_4__708 := cell_other ct_29_4__708 Gt_40.out (apart_old Oout_8l0.out ltt_29)
              replace ct_29_5__709 := cell_other ct_29_5__709 Gt_40.out (apart_old Oout_8l0.out ltt_29)
              replace ct_29_6__710 := cell_other ct_29_6__710 Gt_40.out (apart_old Oout_8l0.out ltt_29)
              replace ct_29_7__711 := cell_other ct_29_7__711 Gt_40.out (apart_old Oout_8l0.out ltt_29)
              replace ct_29_8__712 := cell_other ct_29_8__712 Gt_40.out (apart_old Oout_8l0.out ltt_29)
              clear ct_29_0 ct_29_1 ct_29_2 ct_29_3 ct_29_4 ct_29_5 ct_29_6 ct_29_7 ct_29_8
              clear Oout_8l0 Yt_40 Gt_40
              replace H := app_hid H
              go_wp2_with fail
              go_roundg m0
              case measure => omega
              case rel => exact ⟨k0 + 1, _, _, _, by omega, by go_num, rfl, H, HBwt_40, Pt_40⟩
end Go.Proofs.Ytlljmgphgmklcaa.GsTrueCovers

/- loop.example/g01062/impl.TrueCovers$1 as a plain function, and the contract of the program's: where the plain one has an answer, the program has it. Conditions: slices read as lists. -/
namespace Go.Proofs.Ytlljmgphgmklcaa.GiTrueCovers1
set_option linter.unusedVariables false
set_option linter.unusedSimpArgs false
open Go.RowKit
open Go.Proofs.Ytlljmgphgmklcaa.Rowed Go.Proofs.Ytlljmgphgmklcaa.Turn Go.Proofs.Ytlljmgphgmklcaa.Aid Go.Proofs.Ytlljmgphgmklcaa.GoP Go.Proofs.Ytlljmgphgmklcaa.GoM

def P (x : Go.Proofs.Ytlljmgphgmklcaa.PCover.Cover) (hq0 : (List Go.Proofs.Ytlljmgphgmklcaa.PRate.Rate)) (hq1 : (List Go.Proofs.Ytlljmgphgmklcaa.PMail.Mail)) : Option (Bool) :=
  unCover x fun (x_id : Int) (x_day : Int) (x_zone : Int) (x_grams : Int) (x_paid : Int) (x_from_ : Int) (x_to_ : Int) (x_leave : Int) (x_arrive : Int) =>
  Option.bind (Go.Proofs.Ytlljmgphgmklcaa.GiFaultOn.P hq0 hq1 (Go.Proofs.Ytlljmgphgmklcaa.PCover.Cover.mk x_id x_day x_zone x_grams x_paid x_from_ x_to_ x_leave x_arrive)) fun (t_5 : Int) =>
  letK (t_5 == 0) fun (t_6 : Bool) =>
  some t_6

set_option maxRecDepth 100000 in
set_option maxHeartbeats 2000000 in
theorem C (x : Go.Proofs.Ytlljmgphgmklcaa.PCover.Cover) (hq0 : (List Go.Proofs.Ytlljmgphgmklcaa.PRate.Rate)) (hq1 : (List Go.Proofs.Ytlljmgphgmklcaa.PMail.Mail)) (Ahq0 : Option Addr) (chq0 : Nat) (Ahq1 : Option Addr) (chq1 : Nat) (gq0 : Nat) (gq1 : Nat) (w : World) (Mhq0 : Hid (Cells w 5 Ahq0 hq0.length (Go.Proofs.Ytlljmgphgmklcaa.PRate.flat hq0))) (Nhq0 : Hid (hq0.length ≤ 9223372036854775807)) (Mhq1 : Hid (Cells w 4 Ahq1 hq1.length (Go.Proofs.Ytlljmgphgmklcaa.PMail.flat hq1))) (Nhq1 : Hid (hq1.length ≤ 9223372036854775807)) (Fq0h : Hid (w.cell? ⟨gq0, 0, none⟩ = some (.slice Ahq0 hq0.length chq0))) (Fq1h : Hid (w.cell? ⟨gq1, 0, none⟩ = some (.slice Ahq1 hq1.length chq1))) {r : Bool} (H : Hid (P x hq0 hq1 = some r)) :
    Calls Try.prog 98 #[x.val, .pointer (some ⟨gq0, 0, none⟩), .pointer (some ⟨gq1, 0, none⟩)] w (Gives (.bool r) w) := by
  have HB := Lib.hid (Below.refl w.heap.size w)
  unfold P at H
  obtain ⟨x_id, x_day, x_zone, x_grams, x_paid, x_from_, x_to_, x_leave, x_arrive⟩ := x
  replace H := unCover_hid H
  unfold Go.Proofs.Ytlljmgphgmklcaa.PCover.Cover.val
  have Nhq0o := Nhq0.out
  have Nhq1o := Nhq1.out
  have Fq0 := Fq0h.out
  have Fq1 := Fq1h.out
  go_enter Try.func98, Try.ntmps98
  obtain ⟨w_x_0, hw_x_0⟩ : ∃ x, w.alloc (.cells #[.int .i64 x_id, .int .i64 x_day, .int .i64 x_zone, .int .i64 x_grams, .int .i64 x_paid, .int .i64 x_from_, .int .i64 x_to_, .int .i64 x_leave, .int .i64 x_arrive] 25) = x := ⟨_, rfl⟩
  have bw_x_0 : Below w.heap.size w w_x_0 := by rw [← hw_x_0]; exact (Below.refl _ _).alloc (Nat.le_refl _) _
  have HBw_x_0 := Lib.hid (Below.step HB.out bw_x_0)
  have Fq0__713 := cell_below bw_x_0 Fq0
  have Fq1__714 := cell_below bw_x_0 Fq1
  clear bw_x_0
  have kx_0_0 : w_x_0.cell? ⟨w.heap.size, 0, none⟩ = some (.int .i64 x_id) := by rw [← hw_x_0]; exact box_new _ _ _ 0 _ rfl
  have kx_0_1 : w_x_0.cell? ⟨w.heap.size, 1, none⟩ = some (.int .i64 x_day) := by rw [← hw_x_0]; exact box_new _ _ _ 1 _ rfl
  have kx_0_2 : w_x_0.cell? ⟨w.heap.size, 2, none⟩ = some (.int .i64 x_zone) := by rw [← hw_x_0]; exact box_new _ _ _ 2 _ rfl
  have kx_0_3 : w_x_0.cell? ⟨w.heap.size, 3, none⟩ = some (.int .i64 x_grams) := by rw [← hw_x_0]; exact box_new _ _ _ 3 _ rfl
  have kx_0_4 : w_x_0.cell? ⟨w.heap.size, 4, none⟩ = some (.int .i64 x_paid) := by rw [← hw_x_0]; exact box_new _ _ _ 4 _ rfl
  have kx_0_5 : w_x_0.cell? ⟨w.heap.size, 5, none⟩ = some (.int .i64 x_from_) := by rw [← hw_x_0]; exact box_new _ _ _ 5 _ rfl
  have kx_0_6 : w_x_0.cell? ⟨w.heap.size, 6, none⟩ = some (.int .i64 x_to_) := by rw [← hw_x_0]; exact box_new _ _ _ 6 _ rfl
  have kx_0_7 : w_x_0.cell? ⟨w.heap.size, 7, none⟩ = some (.int .i64 x_leave) := by rw [← hw_x_0]; exact box_new _ _ _ 7 _ rfl
  have kx_0_8 : w_x_0.cell? ⟨w.heap.size, 8, none⟩ = some (.int .i64 x_arrive) := by rw [← hw_x_0]; exact box_new _ _ _ 8 _ rfl
  replace H := bind_hid H
  obtain ⟨t_5, qt_5, H⟩ := H
  go_wp2_with fail
  clear Fq0 Fq1
  go_at_call 95
  refine (Go.Proofs.Ytlljmgphgmklcaa.GiFaultOn.C (hq0) (hq1) ((Go.Proofs.Ytlljmgphgmklcaa.PCover.Cover.mk x_id x_day x_zone x_grams x_paid x_from_ x_to_ x_leave x_arrive)) Ahq0 chq0 Ahq1 chq1 _   (Lib.hid (Cells.below Mhq0.out HBw_x_0.out)) Nhq0 (Lib.hid (Cells.below Mhq1.out HBw_x_0.out)) Nhq1 qt_5).mono ?_
  rintro e_t_5 wt_5 ⟨rfl, bt_5⟩
  have HBwt_5 := Lib.hid (Below.step HBw_x_0.out bt_5)
  replace Fq0__713 := cell_below bt_5 Fq0__713
  replace Fq1__714 := cell_below bt_5 Fq1__714
  replace kx_0_0 := cell_below bt_5 kx_0_0
  replace kx_0_1 := cell_below bt_5 kx_0_1
  replace kx_0_2 := cell_below bt_5 kx_0_2
  replace kx_0_3 := cell_below bt_5 kx_0_3
  replace kx_0_4 := cell_below bt_5 kx_0_4
  replace kx_0_5 := cell_below bt_5 kx_0_5
  replace kx_0_6 := cell_below bt_5 kx_0_6
  replace kx_0_7 := cell_below bt_5 kx_0_7
  replace kx_0_8 := cell_below bt_5 kx_0_8
  clear bt_5
  replace H := let_hid H
  obtain ⟨t_6, ht_6, H⟩ := H
  obtain rfl := ret_hid H
  go_wp2_with fail
  go_ret
  exact ⟨rfl, HBwt_5.out⟩
end Go.Proofs.Ytlljmgphgmklcaa.GiTrueCovers1

/- loop.example/g01062/impl.keysWhere[loop.example/g01062/impl.Cover,int] as a plain function, and the contract of the program's: where the plain one has an answer, the program has it. Conditions: slices read as lists. -/
namespace Go.Proofs.Ytlljmgphgmklcaa.GiKeysWhereCoverIntiIdOfCoveriTrueCovers1
set_option linter.unusedVariables false
set_option linter.unusedSimpArgs false
open Go.RowKit
open Go.Proofs.Ytlljmgphgmklcaa.Rowed Go.Proofs.Ytlljmgphgmklcaa.Turn Go.Proofs.Ytlljmgphgmklcaa.Aid Go.Proofs.Ytlljmgphgmklcaa.GoP Go.Proofs.Ytlljmgphgmklcaa.GoM

def l0 (list : (List Go.Proofs.Ytlljmgphgmklcaa.PCover.Cover)) (hf2_0 : (List Go.Proofs.Ytlljmgphgmklcaa.PRate.Rate)) (hf2_1 : (List Go.Proofs.Ytlljmgphgmklcaa.PMail.Mail)) (k0 : Nat) (s : (List Int)) (nx0 bk0 : (List Int) → Option ((List Int))) : Option ((List Int)) :=
  letK s fun keys_7l0 =>
  Option.bind (idx list (k0 : Int)) fun (yt_7 : Go.Proofs.Ytlljmgphgmklcaa.PCover.Cover) =>
  unCover yt_7 fun (t_7_id : Int) (t_7_day : Int) (t_7_zone : Int) (t_7_grams : Int) (t_7_paid : Int) (t_7_from_ : Int) (t_7_to_ : Int) (t_7_leave : Int) (t_7_arrive : Int) =>
  Option.bind (Go.Proofs.Ytlljmgphgmklcaa.GiTrueCovers1.P (Go.Proofs.Ytlljmgphgmklcaa.PCover.Cover.mk t_7_id t_7_day t_7_zone t_7_grams t_7_paid t_7_from_ t_7_to_ t_7_leave t_7_arrive) hf2_0 hf2_1) fun (t_13 : Bool) =>
  iteK t_13
  (Option.bind (Go.Proofs.Ytlljmgphgmklcaa.GiIdOfCover.P (Go.Proofs.Ytlljmgphgmklcaa.PCover.Cover.mk t_7_id t_7_day t_7_zone t_7_grams t_7_paid t_7_from_ t_7_to_ t_7_leave t_7_arrive)) fun (t_17 : Int) =>
  guardK (keys_7l0.length ≤ 1099511627776) <|
  letK (keys_7l0 ++ [t_17]) fun (t_19 : (List Int)) =>
  appK nx0 (t_19))
  (appK nx0 (keys_7l0))

def e0  (s : (List Int)) : Option ((List Int)) :=
  letK s fun keys_7l0 =>
  some keys_7l0

def P (list : (List Go.Proofs.Ytlljmgphgmklcaa.PCover.Cover)) (hf2_0 : (List Go.Proofs.Ytlljmgphgmklcaa.PRate.Rate)) (hf2_1 : (List Go.Proofs.Ytlljmgphgmklcaa.PMail.Mail)) : Option ((List Int)) :=
  cntK (l0 list hf2_0 hf2_1) (list.length) 0 (([] : List Int)) (e0 )

set_option maxRecDepth 100000 in
set_option maxHeartbeats 2000000 in
theorem C (list : (List Go.Proofs.Ytlljmgphgmklcaa.PCover.Cover)) (hf2_0 : (List Go.Proofs.Ytlljmgphgmklcaa.PRate.Rate)) (hf2_1 : (List Go.Proofs.Ytlljmgphgmklcaa.PMail.Mail)) (A0 : Option Addr) (c0 : Nat) (Ahf2_0 : Option Addr) (chf2_0 : Nat) (Ahf2_1 : Option Addr) (chf2_1 : Nat) (gf2_0 : Nat) (gf2_1 : Nat) (w : World) (M0 : Hid (Cells w 9 A0 list.length (Go.Proofs.Ytlljmgphgmklcaa.PCover.flat list))) (N0 : Hid (list.length ≤ 9223372036854775807)) (Mhf2_0 : Hid (Cells w 5 Ahf2_0 hf2_0.length (Go.Proofs.Ytlljmgphgmklcaa.PRate.flat hf2_0))) (Nhf2_0 : Hid (hf2_0.length ≤ 9223372036854775807)) (Mhf2_1 : Hid (Cells w 4 Ahf2_1 hf2_1.length (Go.Proofs.Ytlljmgphgmklcaa.PMail.flat hf2_1))) (Nhf2_1 : Hid (hf2_1.length ≤ 9223372036854775807)) (Ff2_0h : Hid (w.cell? ⟨gf2_0, 0, none⟩ = some (.slice Ahf2_0 hf2_0.length chf2_0))) (Ff2_1h : Hid (w.cell? ⟨gf2_1, 0, none⟩ = some (.slice Ahf2_1 hf2_1.length chf2_1))) {r : (List Int)} (H : Hid (P list hf2_0 hf2_1 = some r)) :
    Calls Try.prog 99 #[.slice A0 list.length c0, .func (.func 87) #[] #[], .func (.func 98) #[] #[.pointer (some ⟨gf2_0, 0, none⟩), .pointer (some ⟨gf2_1, 0, none⟩)]] w (fun e w' => ∃ A_r c_r, e = .returned (.slice A_r r.length c_r) ∧ w'.ownsRow w.heap.size 3 1 (.slice A_r r.length c_r) r.length (Go.Proofs.Ytlljmgphgmklcaa.HelpInt.iv r) ∧ Below w.heap.size w w') := by
  have HB := Lib.hid (Below.refl w.heap.size w)
  unfold P at H
  have N0o := N0.out
  have Nhf2_0o := Nhf2_0.out
  have Nhf2_1o := Nhf2_1.out
  have Ff2_0 := Ff2_0h.out
  have Ff2_1 := Ff2_1h.out
  obtain ⟨i0_3, hi_3, hz0_3, hz1_3, hz2_3⟩ := Aid.info_parts (P := Try.prog) (T := 3) (z := .int .i64 0) (s := 1) (b := 8) (by kernel_rfl)
  go_enter Try.func99, Try.ntmps99
  obtain ⟨w_t_1, hw_t_1⟩ : ∃ x, w.alloc (.cells #[] 3) = x := ⟨_, rfl⟩
  have bw_t_1 : Below w.heap.size w w_t_1 := by rw [← hw_t_1]; exact (Below.refl _ _).alloc (Nat.le_refl _) _
  have Ot_1 : Hid (w_t_1.ownsRow w.heap.size 3 1 (.slice (some ⟨w.heap.size, 0, none⟩) 0 0) 0 []) := Lib.hid (by rw [← hw_t_1]; exact own_empty HB.out.size)
  have HBw_t_1 := Lib.hid (Below.step HB.out bw_t_1)
  have Ff2_0__715 := cell_below bw_t_1 Ff2_0
  have Ff2_1__716 := cell_below bw_t_1 Ff2_1
  clear bw_t_1
  go_wp2_with fail
  clear Ff2_0 Ff2_1
  go_loopg [13, 7] (list.length) (fun m_ v13_ v7_ wr => ∃ (k0 : Nat) (keys_7l0 : (List Int)) (Akeys_7l0 : Option Addr) (ckeys_7l0 : Nat), k0 + m_ = list.length ∧ v13_ = .int .i64 (k0 : Int) ∧ v7_ = .slice Akeys_7l0 keys_7l0.length ckeys_7l0 ∧ Hid (cntK (l0 list hf2_0 hf2_1) m_ k0 (keys_7l0) (e0 ) = some r) ∧ Hid (Below w.heap.size w wr) ∧ wr.cell? ⟨gf2_0, 0, none⟩ = some (.slice Ahf2_0 hf2_0.length chf2_0) ∧ wr.cell? ⟨gf2_1, 0, none⟩ = some (.slice Ahf2_1 hf2_1.length chf2_1) ∧ Hid (wr.ownsRow w.heap.size 3 1 (.slice Akeys_7l0 keys_7l0.length ckeys_7l0) keys_7l0.length (Go.Proofs.Ytlljmgphgmklcaa.HelpInt.iv keys_7l0)))
  case atStart => exact ⟨0, _, _, _, by omega, rfl, rfl, H, HBw_t_1, Ff2_0__715, Ff2_1__716, Ot_1⟩
  case round =>
    obtain ⟨k0, keys_7l0, Akeys_7l0, ckeys_7l0, hkm0, rfl, rfl, H, HBwr0, Ff2_0__715, Ff2_1__716, Okeys_7l0⟩ := hrel
    rename World => wr0
    cases gk with
    | zero =>
      obtain rfl : k0 = list.length := by omega
      have hc0 : decide (((list.length : Nat) : Int) < ((list.length : Nat) : Int)) = false := by simp
      replace H := cnt_zero H
      unfold e0 at H
      replace H := let_hid H
      obtain ⟨_, rfl, H⟩ := H
      obtain rfl := ret_hid H
      go_wp2_with fail
      go_ret
      exact ⟨Akeys_7l0, ckeys_7l0, rfl, Okeys_7l0.out, HBwr0.out⟩
    | succ m0 =>
      have hlt0 : k0 < list.length := by omega
      have hc0 : decide ((k0 : Int) < ((list.length : Nat) : Int)) = true := by simp; omega
      replace H := cnt_succ H
      unfold l0 at H
      replace H := let_hid H
      obtain ⟨_, rfl, H⟩ := H
      replace H := idx_hid H
      obtain ⟨nt_7, yt_7, et_7, lt_7, gt_7, H⟩ := H
      obtain rfl : k0 = nt_7 := by omega
      clear et_7
      obtain ⟨t_7_id, t_7_day, t_7_zone, t_7_grams, t_7_paid, t_7_from_, t_7_to_, t_7_leave, t_7_arrive⟩ := yt_7
      replace H := unCover_hid H
      obtain ⟨ab_t_7, ao_t_7, zt_7, At_7, z_t_7, ct_7_0, ct_7_1, ct_7_2, ct_7_3, ct_7_4, ct_7_5, ct_7_6, ct_7_7, ct_7_8⟩ := Go.Proofs.Ytlljmgphgmklcaa.OCover.at_ M0.out lt_7
      obtain rfl := Option.some.inj (gt_7.out.symm.trans z_t_7)
      subst At_7
      have ltt_7 := cell_lt ct_7_0
      replace ct_7_0 := cell_below HBwr0.out ct_7_0
      replace ct_7_1 := cell_below HBwr0.out ct_7_1
      replace ct_7_2 := cell_below HBwr0.out ct_7_2
      replace ct_7_3 := cell_below HBwr0.out ct_7_3
      replace ct_7_4 := cell_below HBwr0.out ct_7_4
      replace ct_7_5 := cell_below HBwr0.out ct_7_5
      replace ct_7_6 := cell_below HBwr0.out ct_7_6
      replace ct_7_7 := cell_below HBwr0.out ct_7_7
      replace ct_7_8 := cell_below HBwr0.out ct_7_8
      clear z_t_7
      have b0t_7 : (0 : Int) ≤ (k0 : Int) := by omega
      have b1t_7 : (k0 : Int) < ((list.length : Nat) : Int) := by omega
      have b2t_7 : ((k0 : Int)).toNat = k0 := by omega
      obtain ⟨w_e_9, hw_e_9⟩ : ∃ x, wr0.alloc (.cells #[.int .i64 t_7_id, .int .i64 t_7_day, .int .i64 t_7_zone, .int .i64 t_7_grams, .int .i64 t_7_paid, .int .i64 t_7_from_, .int .i64 t_7_to_, .int .i64 t_7_leave, .int .i64 t_7_arrive] 25) = x := ⟨_, rfl⟩
      have bw_e_9 : Below wr0.heap.size wr0 w_e_9 := by rw [← hw_e_9]; exact (Below.refl _ _).alloc (Nat.le_refl _) _
      have De_9_keys_7l0 := Lib.hid (apart_fresh Okeys_7l0.out)
      have HBw_e_9 := Lib.hid (Below.step HBwr0.out bw_e_9)
      have Ff2_0__717 := cell_below bw_e_9 Ff2_0__715
      have Ff2_1__718 := cell_below bw_e_9 Ff2_1__716
      have ct_7_0__719 := cell_below bw_e_9 ct_7_0
      have ct_7_1__720 := cell_below bw_e_9 ct_7_1
      have ct_7_2__721 := cell_below bw_e_9 ct_7_2
      have ct_7_3__722 := cell_below bw_e_9 ct_7_3
      have ct_7_4__723 := cell_below bw_e_9 ct_7_4
      have ct_7_5__724 := cell_below bw_e_9 ct_7_5
      have ct_7_6__725 := cell_below bw_e_9 ct_7_6
      have ct_7_7__726 := cell_below bw_e_9 ct_7_7
      have ct_7_8__727 := cell_below bw_e_9 ct_7_8
      replace Okeys_7l0 := Lib.hid (own_below Okeys_7l0.out bw_e_9)
      clear bw_e_9
      have ke_9_0 : w_e_9.cell? ⟨wr0.heap.size, 0, none⟩ = some (.int .i64 t_7_id) := by rw [← hw_e_9]; exact box_new _ _ _ 0 _ rfl
      have ke_9_1 : w_e_9.cell? ⟨wr0.heap.size, 1, none⟩ = some (.int .i64 t_7_day) := by rw [← hw_e_9]; exact box_new _ _ _ 1 _ rfl
      have ke_9_2 : w_e_9.cell? ⟨wr0.heap.size, 2, none⟩ = some (.int .i64 t_7_zone) := by rw [← hw_e_9]; exact box_new _ _ _ 2 _ rfl
      have ke_9_3 : w_e_9.cell? ⟨wr0.heap.size, 3, none⟩ = some (.int .i64 t_7_grams) := by rw [← hw_e_9]; exact box_new _ _ _ 3 _ rfl
      have ke_9_4 : w_e_9.cell? ⟨wr0.heap.size, 4, none⟩ = some (.int .i64 t_7_paid) := by rw [← hw_e_9]; exact box_new _ _ _ 4 _ rfl
      have ke_9_5 : w_e_9.cell? ⟨wr0.heap.size, 5, none⟩ = some (.int .i64 t_7_from_) := by rw [← hw_e_9]; exact box_new _ _ _ 5 _ rfl
      have ke_9_6 : w_e_9.cell? ⟨wr0.heap.size, 6, none⟩ = some (.int .i64 t_7_to_) := by rw [← hw_e_9]; exact box_new _ _ _ 6 _ rfl
      have ke_9_7 : w_e_9.cell? ⟨wr0.heap.size, 7, none⟩ = some (.int .i64 t_7_leave) := by rw [← hw_e_9]; exact box_new _ _ _ 7 _ rfl
      have ke_9_8 : w_e_9.cell? ⟨wr0.heap.size, 8, none⟩ = some (.int .i64 t_7_arrive) := by rw [← hw_e_9]; exact box_new _ _ _ 8 _ rfl
      replace H := bind_hid H
      obtain ⟨t_13, qt_13, H⟩ := H
      go_wp2_with fail
      clear Ff2_0__715 Ff2_1__716 ct_7_0 ct_7_1 ct_7_2 ct_7_3 ct_7_4 ct_7_5 ct_7_6 ct_7_7 ct_7_8
      go_at_call 98
      refine (Go.Proofs.Ytlljmgphgmklcaa.GiTrueCovers1.C ((Go.Proofs.Ytlljmgphgmklcaa.PCover.Cover.mk t_7_id t_7_day t_7_zone t_7_grams t_7_paid t_7_from_ t_7_to_ t_7_leave t_7_arrive)) (hf2_0) (hf2_1) Ahf2_0 chf2_0 Ahf2_1 chf2_1 (gf2_0) (gf2_1) _   (Lib.hid (Cells.below Mhf2_0.out HBw_e_9.out)) Nhf2_0 (Lib.hid (Cells.below Mhf2_1.out HBw_e_9.out)) Nhf2_1 (Lib.hid Ff2_0__717) (Lib.hid Ff2_1__718) qt_13).mono ?_
      rintro e_t_13 wt_13 ⟨rfl, bt_13⟩
      have HBwt_13 := Lib.hid (Below.step HBw_e_9.out bt_13)
      replace Ff2_0__717 := cell_below bt_13 Ff2_0__717
      replace Ff2_1__718 := cell_below bt_13 Ff2_1__718
      replace ct_7_0__719 := cell_below bt_13 ct_7_0__719
      replace ct_7_1__720 := cell_below bt_13 ct_7_1__720
      replace ct_7_2__721 := cell_below bt_13 ct_7_2__721
      replace ct_7_3__722 := cell_below bt_13 ct_7_3__722
      replace ct_7_4__723 := cell_below bt_13 ct_7_4__723
      replace ct_7_5__724 := cell_below bt_13 ct_7_5__724
      replace ct_7_6__725 := cell_below bt_13 ct_7_6__725
      replace ct_7_7__726 := cell_below bt_13 ct_7_7__726
      replace ct_7_8__727 := cell_below bt_13 ct_7_8__727
      replace ke_9_0 := cell_below bt_13 ke_9_0
      replace ke_9_1 := cell_below bt_13 ke_9_1
      replace ke_9_2 := cell_below bt_13 ke_9_2
      replace ke_9_3 := cell_below bt_13 ke_9_3
      replace ke_9_4 := cell_below bt_13 ke_9_4
      replace ke_9_5 := cell_below bt_13 ke_9_5
      replace ke_9_6 := cell_below bt_13 ke_9_6
      replace ke_9_7 := cell_below bt_13 ke_9_7
      replace ke_9_8 := cell_below bt_13 ke_9_8
      replace Okeys_7l0 := Lib.hid (own_below Okeys_7l0.out bt_13)
      clear bt_13
      cases t_13 with
      | false =>
        replace H := ite_f H
        replace H := app_hid H
        go_wp2_with fail
        go_roundg m0
        case measure => omega
        case rel => exact ⟨k0 + 1, _, _, _, by omega, by go_num, rfl, H, HBwt_13, Ff2_0__717, Ff2_1__718, Okeys_7l0⟩
      | true =>
        replace H := ite_t H
        replace H := bind_hid H
        obtain ⟨t_17, qt_17, H⟩ := H
        go_wp2_with fail
        go_at_call 87
        refine (Go.Proofs.Ytlljmgphgmklcaa.GiIdOfCover.C ((Go.Proofs.Ytlljmgphgmklcaa.PCover.Cover.mk t_7_id t_7_day t_7_zone t_7_grams t_7_paid t_7_from_ t_7_to_ t_7_leave t_7_arrive))  _    qt_17).mono ?_
        rintro e_t_17 wt_17 ⟨rfl, bt_17⟩
        have HBwt_17 := Lib.hid (Below.step HBwt_13.out bt_17)
        replace Ff2_0__717 := cell_below bt_17 Ff2_0__717
        replace Ff2_1__718 := cell_below bt_17 Ff2_1__718
        replace ct_7_0__719 := cell_below bt_17 ct_7_0__719
        replace ct_7_1__720 := cell_below bt_17 ct_7_1__720
        replace ct_7_2__721 := cell_below bt_17 ct_7_2__721
        replace ct_7_3__722 := cell_below bt_17 ct_7_3__722
        replace ct_7_4__723 := cell_below bt_17 ct_7_4__723
        replace ct_7_5__724 := cell_below bt_17 ct_7_5__724
        replace ct_7_6__725 := cell_below bt_17 ct_7_6__725
        replace ct_7_7__726 := cell_below bt_17 ct_7_7__726
        replace ct_7_8__727 := cell_below bt_17 ct_7_8__727
        replace ke_9_0 := cell_below bt_17 ke_9_0
        replace ke_9_1 := cell_below bt_17 ke_9_1
        replace ke_9_2 := cell_below bt_17 ke_9_2
        replace ke_9_3 := cell_below bt_17 ke_9_3
        replace ke_9_4 := cell_below bt_17 ke_9_4
        replace ke_9_5 := cell_below bt_17 ke_9_5
        replace ke_9_6 := cell_below bt_17 ke_9_6
        replace ke_9_7 := cell_below bt_17 ke_9_7
        replace ke_9_8 := cell_below bt_17 ke_9_8
        replace Okeys_7l0 := Lib.hid (own_below Okeys_7l0.out bt_17)
        clear bt_17
        obtain ⟨w_t_18, hw_t_18⟩ : ∃ x, wt_17.alloc (.cells #[.int .i64 t_17] 3) = x := ⟨_, rfl⟩
        have bw_t_18 : Below wt_17.heap.size wt_17 w_t_18 := by rw [← hw_t_18]; exact (Below.refl _ _).alloc (Nat.le_refl _) _
        have HBw_t_18 := Lib.hid (Below.step HBwt_17.out bw_t_18)
        have Ff2_0__728 := cell_below bw_t_18 Ff2_0__717
        have Ff2_1__729 := cell_below bw_t_18 Ff2_1__718
        have ct_7_0__730 := cell_below bw_t_18 ct_7_0__719
        have ct_7_1__731 := cell_below bw_t_18 ct_7_1__720
        have ct_7_2__732 := cell_below bw_t_18 ct_7_2__721
        have ct_7_3__733 := cell_below bw_t_18 ct_7_3__722
        have ct_7_4__734 := cell_below bw_t_18 ct_7_4__723
        have ct_7_5__735 := cell_below bw_t_18 ct_7_5__724
        have ct_7_6__736 := cell_below bw_t_18 ct_7_6__725
        have ct_7_7__737 := cell_below bw_t_18 ct_7_7__726
        have ct_7_8__738 := cell_below bw_t_18 ct_7_8__727
        have ke_9_0__739 := cell_below bw_t_18 ke_9_0
        have ke_9_1__740 := cell_below bw_t_18 ke_9_1
        have ke_9_2__741 := cell_below bw_t_18 ke_9_2
        have ke_9_3__742 := cell_below bw_t_18 ke_9_3
        have ke_9_4__743 := cell_below bw_t_18 ke_9_4
        have ke_9_5__744 := cell_below bw_t_18 ke_9_5
        have ke_9_6__745 := cell_below bw_t_18 ke_9_6
        have ke_9_7__746 := cell_below bw_t_18 ke_9_7
        have ke_9_8__747 := cell_below bw_t_18 ke_9_8
        replace Okeys_7l0 := Lib.hid (own_below Okeys_7l0.out bw_t_18)
        clear bw_t_18
        replace H := guard_hid H
        obtain ⟨hlt_19, H⟩ := H
        replace H := let_hid H
        obtain ⟨t_19, ht_19, H⟩ := H
        have hht_19 := Lib.hid ht_19
        clear ht_19
        have hst_19 := HBw_t_18.out.size
        go_wp2_with (at_builtin; refine wpList_append_own_at _ rfl _ _ 48 rfl w.heap.size 3 i0_3 (.int .i64 0) 1 8 Try.underlying48 hi_3 hz0_3 hz1_3 hz2_3 rfl (by decide) _ _ _ rfl Okeys_7l0.out ⟨wt_17.heap.size, 0, none⟩ 1 1 [.int .i64 t_17] rfl rfl (news_new hw_t_18) (one_cells rfl) (by unfold maxLen; omega) (by omega) hst_19 ?_; intro vt_19 wt_19 ot_19 gt_19 zt_19 yt_19; clear zt_19; obtain ⟨qt_19, ct_19, rfl, pt_19⟩ := own_push hht_19.out (Go.Proofs.Ytlljmgphgmklcaa.HelpInt.iv_snoc _ _) rfl ot_19; have Pt_19 := Lib.hid pt_19; have Yt_19 := Lib.hid yt_19; have Gt_19 := Lib.hid gt_19; clear ot_19 gt_19 pt_19 yt_19; refine stop_in ?_)
        refine stop_out ?_
        have HBwt_19 := Lib.hid (HBw_t_18.out.grown Gt_19.out hst_19 (fun q hq => (Okeys_7l0.out.lt q hq).1))
        clear hst_19
        have Dt_19_e_9 : Hid (Apart (some ⟨qt_19, 0, none⟩) _) := Lib.hid (apart_app (Apart.symm De_9_keys_7l0.out) (fun a_ ha_ => by cases ha_; exact cell_lt ke_9_0__739) Yt_19.out)
        replace Ff2_0__728 := cell_below HBwt_19.out Ff2_0h.out
        replace Ff2_1__729 := cell_below HBwt_19.out Ff2_1h.out
        replace ct_7_0__730 := cell_other ct_7_0__730 Gt_19.out (apart_old Okeys_7l0.out ltt_7)
        replace ct_7_1__731 := cell_other ct_7_1__731 Gt_19.out (apart_old Okeys_7l0.out ltt_7)
        replace ct_7_2__732 := cell_other ct_7_2__732 Gt_19.out (apart_old Okeys_7l0.out ltt_7)
        replace ct_7_3__733 := cell_other ct_7_3__733 Gt_19.out (apart_old Okeys_7l0.out ltt_7)
        replace ct_7_4__734 := cell_other ct_7_4__734 Gt_19.out (apart_old Okeys_7l0.out ltt_7)
        replace ct_7_5__735 := cell_other ct_7_5__735 Gt_19.out (apart_old Okeys_7l0.out ltt_7)
        replace ct_7_6__736 := cell_other ct_7_6__736 Gt_19.out (apart_old Okeys_7l0.out ltt_7)
        replace ct_7_7__737 := cell_other ct_7_7__737 Gt_19.out (apart_old Okeys_7l0.out ltt_7)
        replace ct_7_8__738 := cell_other ct_7_8__738 Gt_19.out (apart_old Okeys_7l0.out ltt_7)
        replace ke_9_0__739 := cell_other ke_9_0__739 Gt_19.out (Apart.symm De_9_keys_7l0.out)
        replace ke_9_1__740 := cell_other ke_9_1__740 Gt_19.out (Apart.symm De_9_keys_7l0.out)
        replace ke_9_2__741 := cell_other ke_9_2__741 Gt_19.out (Apart.symm De_9_keys_7l0.out)
        replace ke_9_3__742 := cell_other ke_9_3__742 Gt_19.out (Apart.symm De_9_keys_7l0.out)
        replace ke_9_4__743 := cell_other ke_9_4__743 Gt_19.out (Apart.symm De_9_keys_7l0.out)
        replace ke_9_5__744 := cell_other ke_9_5__744 Gt_19.out (Apart.symm De_9_keys_7l0.out)
        replace ke_9_6__745 := cell_other ke_9_6__745 Gt_19.out (Apart.symm De_9_keys_7l0.out)
        replace ke_9_7__746 := cell_other ke_9_7__746 Gt_19.out (Apart.symm De_9_keys_7l0.out)
        replace ke_9_8__747 := cell_other ke_9_8__747 Gt_19.out (Apart.symm De_9_keys_7l0.out)
        clear Ff2_0__717 Ff2_1__718 ct_7_0__719 ct_7_1__720 ct_7_2__721 ct_7_3__722 ct_7_4__723 ct_7_5__724 ct_7_6__725 ct_7_7__726 ct_7_8__727 ke_9_0 ke_9_1 ke_9_2 ke_9_3 ke_9_4 ke_9_5 ke_9_6 ke_9_7 ke_9_8
        clear Okeys_7l0 Yt_19 Gt_19
        replace H := app_hid H
        go_wp2_with fail
        go_roundg m0
        case measure => omega
        case rel => exact ⟨k0 + 1, _, _, _, by omega, by go_num, rfl, H, HBwt_19, Ff2_0__728, Ff2_1__729, Pt_19⟩
end Go.Proofs.Ytlljmgphgmklcaa.GiKeysWhereCoverIntiIdOfCoveriTrueCovers1

/- loop.example/g01062/impl.TrueCovers as a plain function, and the contract of the program's: where the plain one has an answer, the program has it. Conditions: slices read as lists. -/
namespace Go.Proofs.Ytlljmgphgmklcaa.GiTrueCovers
set_option linter.unusedVariables false
set_option linter.unusedSimpArgs false
open Go.RowKit
open Go.Proofs.Ytlljmgphgmklcaa.Rowed Go.Proofs.Ytlljmgphgmklcaa.Turn Go.Proofs.Ytlljmgphgmklcaa.Aid Go.Proofs.Ytlljmgphgmklcaa.GoP Go.Proofs.Ytlljmgphgmklcaa.GoM

def P (rates : (List Go.Proofs.Ytlljmgphgmklcaa.PRate.Rate)) (mails : (List Go.Proofs.Ytlljmgphgmklcaa.PMail.Mail)) (list : (List Go.Proofs.Ytlljmgphgmklcaa.PCover.Cover)) : Option ((List Int) × Bool) :=
  Option.bind (Go.Proofs.Ytlljmgphgmklcaa.GiCanCheckCovers.P rates mails) fun (t_6 : Bool) =>
  letK (!t_6) fun (t_7 : Bool) =>
  joinK (fun (t_12 : Bool) =>
  iteK t_12
  (some (([] : List Int), false))
  (Option.bind (Go.Proofs.Ytlljmgphgmklcaa.GiKeysWhereCoverIntiIdOfCoveriTrueCovers1.P list rates mails) fun (t_20 : (List Int)) =>
  some (t_20, true))) fun jt_12 => iteK t_7 (appK jt_12 true) (Option.bind (Go.Proofs.Ytlljmgphgmklcaa.GiAreCovers.P list) fun (t_10 : Bool) =>
  letK (!t_10) fun (t_11 : Bool) =>
  appK jt_12 t_11)

set_option maxRecDepth 100000 in
set_option maxHeartbeats 2000000 in
theorem C (rates : (List Go.Proofs.Ytlljmgphgmklcaa.PRate.Rate)) (mails : (List Go.Proofs.Ytlljmgphgmklcaa.PMail.Mail)) (list : (List Go.Proofs.Ytlljmgphgmklcaa.PCover.Cover)) (A0 : Option Addr) (c0 : Nat) (A1 : Option Addr) (c1 : Nat) (A2 : Option Addr) (c2 : Nat)  (w : World) (M0 : Hid (Cells w 5 A0 rates.length (Go.Proofs.Ytlljmgphgmklcaa.PRate.flat rates))) (N0 : Hid (rates.length ≤ 9223372036854775807)) (M1 : Hid (Cells w 4 A1 mails.length (Go.Proofs.Ytlljmgphgmklcaa.PMail.flat mails))) (N1 : Hid (mails.length ≤ 9223372036854775807)) (M2 : Hid (Cells w 9 A2 list.length (Go.Proofs.Ytlljmgphgmklcaa.PCover.flat list))) (N2 : Hid (list.length ≤ 9223372036854775807))  {r0 : (List Int)} {r1 : Bool} (H : Hid (P rates mails list = some (r0, r1))) :
    Calls Try.prog 33 #[.slice A0 rates.length c0, .slice A1 mails.length c1, .slice A2 list.length c2] w (fun e w' => ∃ A_r0 c_r0, e = .returned (.tuple #[.slice A_r0 r0.length c_r0, .bool r1]) ∧ w'.ownsRow w.heap.size 3 1 (.slice A_r0 r0.length c_r0) r0.length (Go.Proofs.Ytlljmgphgmklcaa.HelpInt.iv r0) ∧ Below w.heap.size w w') := by
  have HB := Lib.hid (Below.refl w.heap.size w)
  unfold P at H
  have N0o := N0.out
  have N1o := N1.out
  have N2o := N2.out
  go_enter Try.func33, Try.ntmps33
  obtain ⟨w_rates_0, hw_rates_0⟩ : ∃ x, w.alloc (.cells #[.slice A0 rates.length c0] 41) = x := ⟨_, rfl⟩
  have bw_rates_0 : Below w.heap.size w w_rates_0 := by rw [← hw_rates_0]; exact (Below.refl _ _).alloc (Nat.le_refl _) _
  have HBw_rates_0 := Lib.hid (Below.step HB.out bw_rates_0)
  clear bw_rates_0
  have krates_0_0 : w_rates_0.cell? ⟨w.heap.size, 0, none⟩ = some (.slice A0 rates.length c0) := by rw [← hw_rates_0]; exact box_new _ _ _ 0 _ rfl
  obtain ⟨w_mails_1, hw_mails_1⟩ : ∃ x, w_rates_0.alloc (.cells #[.slice A1 mails.length c1] 43) = x := ⟨_, rfl⟩
  have bw_mails_1 : Below w_rates_0.heap.size w_rates_0 w_mails_1 := by rw [← hw_mails_1]; exact (Below.refl _ _).alloc (Nat.le_refl _) _
  have HBw_mails_1 := Lib.hid (Below.step HBw_rates_0.out bw_mails_1)
  have krates_0_0__748 := cell_below bw_mails_1 krates_0_0
  clear bw_mails_1
  have kmails_1_0 : w_mails_1.cell? ⟨w_rates_0.heap.size, 0, none⟩ = some (.slice A1 mails.length c1) := by rw [← hw_mails_1]; exact box_new _ _ _ 0 _ rfl
  replace H := bind_hid H
  obtain ⟨t_6, qt_6, H⟩ := H
  go_wp2_with fail
  clear krates_0_0
  go_at_call 94
  refine (Go.Proofs.Ytlljmgphgmklcaa.GiCanCheckCovers.C (rates) (mails) A0 c0 A1 c1 _   (Lib.hid (Cells.below M0.out HBw_mails_1.out)) N0 (Lib.hid (Cells.below M1.out HBw_mails_1.out)) N1 qt_6).mono ?_
  rintro e_t_6 wt_6 ⟨rfl, bt_6⟩
  have HBwt_6 := Lib.hid (Below.step HBw_mails_1.out bt_6)
  replace krates_0_0__748 := cell_below bt_6 krates_0_0__748
  replace kmails_1_0 := cell_below bt_6 kmails_1_0
  clear bt_6
  cases t_6 with
  | false =>
    replace H := let_hid H
    obtain ⟨t_7, ht_7, H⟩ := H
    obtain rfl : t_7 = true := ht_7.symm
    replace H := join_hid H
    replace H := ite_t H
    replace H := app_hid H
    replace H := ite_t H
    obtain ⟨w_t_13, hw_t_13⟩ : ∃ x, wt_6.alloc (.cells #[] 3) = x := ⟨_, rfl⟩
    have bw_t_13 : Below wt_6.heap.size wt_6 w_t_13 := by rw [← hw_t_13]; exact (Below.refl _ _).alloc (Nat.le_refl _) _
    have Ot_13 : Hid (w_t_13.ownsRow w.heap.size 3 1 (.slice (some ⟨wt_6.heap.size, 0, none⟩) 0 0) 0 []) := Lib.hid (by rw [← hw_t_13]; exact own_empty HBwt_6.out.size)
    have Dt_13_rates_0 := Lib.hid (apart_box krates_0_0__748)
    have Dt_13_mails_1 := Lib.hid (apart_box kmails_1_0)
    have HBw_t_13 := Lib.hid (Below.step HBwt_6.out bw_t_13)
    have krates_0_0__749 := cell_below bw_t_13 krates_0_0__748
    have kmails_1_0__750 := cell_below bw_t_13 kmails_1_0
    clear bw_t_13
    cases ret_hid H
    go_wp2_with fail
    go_ret2
    exact ⟨(some ⟨wt_6.heap.size, 0, none⟩), 0, rfl, Ot_13.out, HBw_t_13.out⟩
  | true =>
    replace H := let_hid H
    obtain ⟨t_7, ht_7, H⟩ := H
    obtain rfl : t_7 = false := ht_7.symm
    replace H := join_hid H
    replace H := ite_f H
    replace H := bind_hid H
    obtain ⟨t_10, qt_10, H⟩ := H
    go_wp2_with fail
    go_at_call 22
    refine (Go.Proofs.Ytlljmgphgmklcaa.GiAreCovers.C (list) A2 c2 _   (Lib.hid (Cells.below M2.out HBwt_6.out)) N2 qt_10).mono ?_
    rintro e_t_10 wt_10 ⟨rfl, bt_10⟩
    have HBwt_10 := Lib.hid (Below.step HBwt_6.out bt_10)
    replace krates_0_0__748 := cell_below bt_10 krates_0_0__748
    replace kmails_1_0 := cell_below bt_10 kmails_1_0
    clear bt_10
    cases t_10 with
    | false =>
      replace H := let_hid H
      obtain ⟨t_11, ht_11, H⟩ := H
      obtain rfl : t_11 = true := ht_11.symm
      replace H := app_hid H
      replace H := ite_t H
      obtain ⟨w_t_13, hw_t_13⟩ : ∃ x, wt_10.alloc (.cells #[] 3) = x := ⟨_, rfl⟩
      have bw_t_13 : Below wt_10.heap.size wt_10 w_t_13 := by rw [← hw_t_13]; exact (Below.refl _ _).alloc (Nat.le_refl _) _
      have Ot_13 : Hid (w_t_13.ownsRow w.heap.size 3 1 (.slice (some ⟨wt_10.heap.size, 0, none⟩) 0 0) 0 []) := Lib.hid (by rw [← hw_t_13]; exact own_empty HBwt_10.out.size)
      have Dt_13_rates_0 := Lib.hid (apart_box krates_0_0__748)
      have Dt_13_mails_1 := Lib.hid (apart_box kmails_1_0)
      have HBw_t_13 := Lib.hid (Below.step HBwt_10.out bw_t_13)
      have krates_0_0__751 := cell_below bw_t_13 krates_0_0__748
      have kmails_1_0__752 := cell_below bw_t_13 kmails_1_0
      clear bw_t_13
      cases ret_hid H
      go_wp2_with fail
      go_ret2
      exact ⟨(some ⟨wt_10.heap.size, 0, none⟩), 0, rfl, Ot_13.out, HBw_t_13.out⟩
    | true =>
      replace H := let_hid H
      obtain ⟨t_11, ht_11, H⟩ := H
      obtain rfl : t_11 = false := ht_11.symm
      replace H := app_hid H
      replace H := ite_f H
      replace H := bind_hid H
      obtain ⟨t_20, qt_20, H⟩ := H
      go_wp2_with fail
      go_at_call 99
      refine (Go.Proofs.Ytlljmgphgmklcaa.GiKeysWhereCoverIntiIdOfCoveriTrueCovers1.C (list) (rates) (mails) A2 c2 A0 c0 A1 c1 (w.heap.size) (w_rates_0.heap.size) _   (Lib.hid (Cells.below M2.out HBwt_10.out)) N2 (Lib.hid (Cells.below M0.out HBwt_10.out)) N0 (Lib.hid (Cells.below M1.out HBwt_10.out)) N1 (Lib.hid krates_0_0__748) (Lib.hid kmails_1_0) qt_20).mono ?_
      rintro e_t_20 wt_20 ⟨At_20, ct_20, rfl, ot_20, bt_20⟩
      have Dt_20_rates_0 := Lib.hid (apart_callbox ot_20 krates_0_0__748)
      have Dt_20_mails_1 := Lib.hid (apart_callbox ot_20 kmails_1_0)
      have Ot_20 := Lib.hid (own_lower ot_20 HBwt_10.out.size)
      clear ot_20
      have HBwt_20 := Lib.hid (Below.step HBwt_10.out bt_20)
      replace krates_0_0__748 := cell_below bt_20 krates_0_0__748
      replace kmails_1_0 := cell_below bt_20 kmails_1_0
      clear bt_20
      cases ret_hid H
      go_wp2_with fail
      go_ret2
      exact ⟨At_20, ct_20, rfl, Ot_20.out, HBwt_20.out⟩
end Go.Proofs.Ytlljmgphgmklcaa.GiTrueCovers

/- loop.example/g01062/laws.markRateS as a plain function, and the contract of the program's: where the plain one has an answer, the program has it. Conditions: slices read as lists. -/
namespace Go.Proofs.Ytlljmgphgmklcaa.GlMarkRateS
set_option linter.unusedVariables false
set_option linter.unusedSimpArgs false
open Go.RowKit
open Go.Proofs.Ytlljmgphgmklcaa.Rowed Go.Proofs.Ytlljmgphgmklcaa.Turn Go.Proofs.Ytlljmgphgmklcaa.Aid Go.Proofs.Ytlljmgphgmklcaa.GoP Go.Proofs.Ytlljmgphgmklcaa.GoM

def l0  (k0 : Nat) (s : (List Go.Proofs.Ytlljmgphgmklcaa.PRate.Rate) × Int) (nx0 bk0 : (List Go.Proofs.Ytlljmgphgmklcaa.PRate.Rate) × Int → Option (Int × (List Go.Proofs.Ytlljmgphgmklcaa.PRate.Rate))) : Option (Int × (List Go.Proofs.Ytlljmgphgmklcaa.PRate.Rate)) :=
  unp2 s fun a_0l0 k_1l0 =>
  Option.bind (idx a_0l0 (k0 : Int)) fun (yt_9 : Go.Proofs.Ytlljmgphgmklcaa.PRate.Rate) =>
  unRate yt_9 fun (t_9_zone : Int) (t_9_grams : Int) (t_9_from_ : Int) (t_9_until_ : Int) (t_9_cents : Int) =>
  letK (a_0l0.set k0 (Go.Proofs.Ytlljmgphgmklcaa.PRate.Rate.mk k_1l0 t_9_grams t_9_from_ t_9_until_ t_9_cents)) fun (l11_11 : (List Go.Proofs.Ytlljmgphgmklcaa.PRate.Rate)) =>
  letK (IntKind.i64.wrap (k_1l0 + 1)) fun (t_13 : Int) =>
  Option.bind (idx l11_11 (k0 : Int)) fun (yt_18 : Go.Proofs.Ytlljmgphgmklcaa.PRate.Rate) =>
  unRate yt_18 fun (t_18_zone : Int) (t_18_grams : Int) (t_18_from_ : Int) (t_18_until_ : Int) (t_18_cents : Int) =>
  letK (l11_11.set k0 (Go.Proofs.Ytlljmgphgmklcaa.PRate.Rate.mk t_18_zone t_13 t_18_from_ t_18_until_ t_18_cents)) fun (l20_20 : (List Go.Proofs.Ytlljmgphgmklcaa.PRate.Rate)) =>
  letK (IntKind.i64.wrap (t_13 + 1)) fun (t_22 : Int) =>
  Option.bind (idx l20_20 (k0 : Int)) fun (yt_27 : Go.Proofs.Ytlljmgphgmklcaa.PRate.Rate) =>
  unRate yt_27 fun (t_27_zone : Int) (t_27_grams : Int) (t_27_from_ : Int) (t_27_until_ : Int) (t_27_cents : Int) =>
  letK (l20_20.set k0 (Go.Proofs.Ytlljmgphgmklcaa.PRate.Rate.mk t_27_zone t_27_grams t_22 t_27_until_ t_27_cents)) fun (l29_29 : (List Go.Proofs.Ytlljmgphgmklcaa.PRate.Rate)) =>
  letK (IntKind.i64.wrap (t_22 + 1)) fun (t_31 : Int) =>
  Option.bind (idx l29_29 (k0 : Int)) fun (yt_36 : Go.Proofs.Ytlljmgphgmklcaa.PRate.Rate) =>
  unRate yt_36 fun (t_36_zone : Int) (t_36_grams : Int) (t_36_from_ : Int) (t_36_until_ : Int) (t_36_cents : Int) =>
  letK (l29_29.set k0 (Go.Proofs.Ytlljmgphgmklcaa.PRate.Rate.mk t_36_zone t_36_grams t_36_from_ t_31 t_36_cents)) fun (l38_38 : (List Go.Proofs.Ytlljmgphgmklcaa.PRate.Rate)) =>
  letK (IntKind.i64.wrap (t_31 + 1)) fun (t_40 : Int) =>
  Option.bind (idx l38_38 (k0 : Int)) fun (yt_45 : Go.Proofs.Ytlljmgphgmklcaa.PRate.Rate) =>
  unRate yt_45 fun (t_45_zone : Int) (t_45_grams : Int) (t_45_from_ : Int) (t_45_until_ : Int) (t_45_cents : Int) =>
  letK (l38_38.set k0 (Go.Proofs.Ytlljmgphgmklcaa.PRate.Rate.mk t_45_zone t_45_grams t_45_from_ t_45_until_ t_40)) fun (l47_47 : (List Go.Proofs.Ytlljmgphgmklcaa.PRate.Rate)) =>
  letK (IntKind.i64.wrap (t_40 + 1)) fun (t_49 : Int) =>
  appK nx0 (l47_47, t_49)

def e0  (s : (List Go.Proofs.Ytlljmgphgmklcaa.PRate.Rate) × Int) : Option (Int × (List Go.Proofs.Ytlljmgphgmklcaa.PRate.Rate)) :=
  unp2 s fun a_0l0 k_1l0 =>
  some (k_1l0, a_0l0)

def P (a : (List Go.Proofs.Ytlljmgphgmklcaa.PRate.Rate)) (k_1 : Int) : Option (Int × (List Go.Proofs.Ytlljmgphgmklcaa.PRate.Rate)) :=
  cntK (l0 ) (a.length) 0 (a, k_1) (e0 )

set_option maxRecDepth 100000 in
set_option maxHeartbeats 2000000 in
theorem C (a : (List Go.Proofs.Ytlljmgphgmklcaa.PRate.Rate)) (k_1 : Int) (A0 : Option Addr) (c0 : Nat)  (b0 : Nat) (w : World) (M0 : Hid (w.ownsRow b0 104 5 (.slice A0 a.length c0) a.length (Go.Proofs.Ytlljmgphgmklcaa.PRate.flat a))) (N0 : Hid (a.length ≤ 9223372036854775807))  {r : Int} {l_ : (List Go.Proofs.Ytlljmgphgmklcaa.PRate.Rate)} (H : Hid (P a k_1 = some (r, l_))) :
    Calls Try.prog 35 #[.slice A0 a.length c0, .int .i64 k_1] w (fun e w' => e = .returned (.int .i64 r) ∧ w'.ownsRow b0 104 5 (.slice A0 a.length c0) a.length (Go.Proofs.Ytlljmgphgmklcaa.PRate.flat l_) ∧ l_.length = a.length ∧ w.grownBy w' (Value.slice A0 a.length c0).ownBlock) := by
  have HB := Lib.hid (Aid.grown_refl w (Value.slice A0 a.length c0).ownBlock)
  unfold P at H
  have N0o := N0.out
  go_enter Try.func35, Try.ntmps35
  go_wp2_with fail
  have hb_0 : a.length ≤ 9223372036854775807 := own_max M0.out
  go_wp2_with fail
  go_loopg [5, 1] (a.length) (fun m_ v5_ v1_ wr => ∃ (k0 : Nat) (a_0l0 : (List Go.Proofs.Ytlljmgphgmklcaa.PRate.Rate)) (k_1l0 : Int), k0 + m_ = a.length ∧ v5_ = .int .i64 (k0 : Int) ∧ v1_ = .int .i64 k_1l0 ∧ Hid (cntK (l0 ) m_ k0 (a_0l0, k_1l0) (e0 ) = some (r, l_)) ∧ Hid (w.grownBy wr (Value.slice A0 a.length c0).ownBlock) ∧ Hid (wr.ownsRow b0 104 5 (.slice A0 a.length c0) a.length (Go.Proofs.Ytlljmgphgmklcaa.PRate.flat a_0l0)) ∧ Hid (a_0l0.length = a.length))
  case atStart => exact ⟨0, _, _, by omega, rfl, rfl, H, HB, M0, Lib.hid (rfl)⟩
  case round =>
    obtain ⟨k0, a_0l0, k_1l0, hkm0, rfl, rfl, H, HBwr0, Oa_0l0, hna_0l0⟩ := hrel
    rename World => wr0
    cases gk with
    | zero =>
      obtain rfl : k0 = a.length := by omega
      have hc0 : decide (((a.length : Nat) : Int) < ((a.length : Nat) : Int)) = false := by simp
      replace H := cnt_zero H
      unfold e0 at H
      replace H := unp2_hid H
      cases ret_hid H
      go_wp2_with fail
      go_ret
      exact ⟨rfl, Oa_0l0.out, hna_0l0.out, HBwr0.out⟩
    | succ m0 =>
      have hlt0 : k0 < a.length := by omega
      have hc0 : decide ((k0 : Int) < ((a.length : Nat) : Int)) = true := by simp; omega
      replace H := cnt_succ H
      unfold l0 at H
      replace H := unp2_hid H
      replace H := idx_hid H
      obtain ⟨nt_9, yt_9, et_9, lt_9, gt_9, H⟩ := H
      obtain rfl : k0 = nt_9 := by omega
      clear et_9
      obtain ⟨t_9_zone, t_9_grams, t_9_from_, t_9_until_, t_9_cents⟩ := yt_9
      replace H := unRate_hid H
      have hqt_9 := hna_0l0.out
      obtain ⟨qt_9, Qt_9⟩ := own_some Oa_0l0.out (by omega)
      subst Qt_9
      obtain ⟨ab_t_9, ao_t_9, zt_9, At_9, z_t_9, ct_9_0, ct_9_1, ct_9_2, ct_9_3, ct_9_4⟩ := Go.Proofs.Ytlljmgphgmklcaa.ORate.at_ (own_cells Oa_0l0.out) (k := k0) (by omega)
      obtain rfl := Option.some.inj (gt_9.out.symm.trans z_t_9)
      simp only [Option.some.injEq, Addr.mk.injEq] at At_9
      obtain ⟨rfl, rfl, _⟩ := At_9
      clear z_t_9
      simp only [Nat.zero_add] at ct_9_0 ct_9_1 ct_9_2 ct_9_3 ct_9_4
      have b0t_9 : (0 : Int) ≤ (k0 : Int) := by omega
      have b1t_9 : (k0 : Int) < ((a.length : Nat) : Int) := by omega
      have b2t_9 : ((k0 : Int)).toNat = k0 := by omega
      clear hqt_9
      replace H := let_hid H
      obtain ⟨l11_11, hl11_11, H⟩ := H
      try simp only [Int.toNat_natCast] at hl11_11
      obtain ⟨wl11_11, hwl11_11⟩ : ∃ x, (wr0).setCell ⟨qt_9, k0 * 5, none⟩ (.int .i64 k_1l0) = x := ⟨_, rfl⟩
      have z0l11_11 := Oa_0l0.out.frozenAt (k0 * 5)
      have Sl11_11 := Lib.hid (own_stores [(k0 * 5, .int .i64 k_1l0)] Oa_0l0.out)
      have nl11_11 : Hid (l11_11.length = a.length) := Lib.hid (by rw [← hl11_11, List.length_set]; exact hna_0l0.out)
      have Pl11_11 : Hid (wl11_11.ownsRow b0 104 5 (.slice (some ⟨qt_9, 0, none⟩) a.length c0) a.length (Go.Proofs.Ytlljmgphgmklcaa.PRate.flat l11_11)) := Lib.hid (by have es_ := set_self gt_9.out; have e0_ := flat_set Go.Proofs.Ytlljmgphgmklcaa.PRate.Rate.cells 5 (fun _ => rfl) a_0l0 (k0) 0 (Go.Proofs.Ytlljmgphgmklcaa.PRate.Rate.mk t_9_zone t_9_grams t_9_from_ t_9_until_ t_9_cents) (Go.Proofs.Ytlljmgphgmklcaa.PRate.Rate.mk k_1l0 t_9_grams t_9_from_ t_9_until_ t_9_cents) (.int .i64 k_1l0) lt_9 (by decide) rfl; rw [es_] at e0_; have e_ : ([(k0 * 5, .int .i64 k_1l0)] : List (Nat × Value)).foldl (fun xs p => xs.set p.1 p.2) (Go.Proofs.Ytlljmgphgmklcaa.PRate.flat a_0l0) = (Go.Proofs.Ytlljmgphgmklcaa.PRate.flat l11_11) := (by rw [← hl11_11]; show _ = List.flatMap Go.Proofs.Ytlljmgphgmklcaa.PRate.Rate.cells _; first | (rw [← e0_]; first | done | rfl)); rw [← hwl11_11, ← e_]; exact Sl11_11.out.1)
      have Gl11_11 : Hid (wr0.grownBy wl11_11 (Value.slice (some ⟨qt_9, 0, none⟩) a.length c0).ownBlock) := Lib.hid (by rw [← hwl11_11]; exact Sl11_11.out.2)
      have HBwl11_11 := Lib.hid (Aid.grown_tr HBwr0.out Gl11_11.out)
      have hhl11_11 := Lib.hid hl11_11
      clear hl11_11 Sl11_11
      clear Oa_0l0 Gl11_11
      replace H := let_hid H
      obtain ⟨t_13, ht_13, H⟩ := H
      replace H := idx_hid H
      obtain ⟨nt_18, yt_18, et_18, lt_18, gt_18, H⟩ := H
      obtain rfl : k0 = nt_18 := by omega
      clear et_18
      obtain ⟨t_18_zone, t_18_grams, t_18_from_, t_18_until_, t_18_cents⟩ := yt_18
      replace H := unRate_hid H
      have hqt_18 := nl11_11.out
      obtain ⟨ab_t_18, ao_t_18, zt_18, At_18, z_t_18, ct_18_0, ct_18_1, ct_18_2, ct_18_3, ct_18_4⟩ := Go.Proofs.Ytlljmgphgmklcaa.ORate.at_ (own_cells Pl11_11.out) (k := k0) (by omega)
      obtain rfl := Option.some.inj (gt_18.out.symm.trans z_t_18)
      simp only [Option.some.injEq, Addr.mk.injEq] at At_18
      obtain ⟨rfl, rfl, _⟩ := At_18
      clear z_t_18
      simp only [Nat.zero_add] at ct_18_0 ct_18_1 ct_18_2 ct_18_3 ct_18_4
      have b0t_18 : (0 : Int) ≤ (k0 : Int) := by omega
      have b1t_18 : (k0 : Int) < ((a.length : Nat) : Int) := by omega
      have b2t_18 : ((k0 : Int)).toNat = k0 := by omega
      clear hqt_18
      replace H := let_hid H
      obtain ⟨l20_20, hl20_20, H⟩ := H
      try simp only [Int.toNat_natCast] at hl20_20
      obtain ⟨wl20_20, hwl20_20⟩ : ∃ x, (wl11_11).setCell ⟨qt_9, k0 * 5 + 1, none⟩ (.int .i64 t_13) = x := ⟨_, rfl⟩
      have z0l20_20 := Pl11_11.out.frozenAt (k0 * 5 + 1)
      have Sl20_20 := Lib.hid (own_stores [(k0 * 5 + 1, .int .i64 t_13)] Pl11_11.out)
      have nl20_20 : Hid (l20_20.length = a.length) := Lib.hid (by rw [← hl20_20, List.length_set]; exact nl11_11.out)
      have Pl20_20 : Hid (wl20_20.ownsRow b0 104 5 (.slice (some ⟨qt_9, 0, none⟩) a.length c0) a.length (Go.Proofs.Ytlljmgphgmklcaa.PRate.flat l20_20)) := Lib.hid (by have es_ := set_self gt_18.out; have e0_ := flat_set Go.Proofs.Ytlljmgphgmklcaa.PRate.Rate.cells 5 (fun _ => rfl) l11_11 (k0) 1 (Go.Proofs.Ytlljmgphgmklcaa.PRate.Rate.mk t_18_zone t_18_grams t_18_from_ t_18_until_ t_18_cents) (Go.Proofs.Ytlljmgphgmklcaa.PRate.Rate.mk t_18_zone t_13 t_18_from_ t_18_until_ t_18_cents) (.int .i64 t_13) lt_18 (by decide) rfl; rw [es_] at e0_; have e_ : ([(k0 * 5 + 1, .int .i64 t_13)] : List (Nat × Value)).foldl (fun xs p => xs.set p.1 p.2) (Go.Proofs.Ytlljmgphgmklcaa.PRate.flat l11_11) = (Go.Proofs.Ytlljmgphgmklcaa.PRate.flat l20_20) := (by rw [← hl20_20]; show _ = List.flatMap Go.Proofs.Ytlljmgphgmklcaa.PRate.Rate.cells _; first | (rw [← e0_]; first | done | rfl)); rw [← hwl20_20, ← e_]; exact Sl20_20.out.1)
      have Gl20_20 : Hid (wl11_11.grownBy wl20_20 (Value.slice (some ⟨qt_9, 0, none⟩) a.length c0).ownBlock) := Lib.hid (by rw [← hwl20_20]; exact Sl20_20.out.2)
      have HBwl20_20 := Lib.hid (Aid.grown_tr HBwl11_11.out Gl20_20.out)
      have hhl20_20 := Lib.hid hl20_20
      clear hl20_20 Sl20_20
      clear Pl11_11 Gl20_20
      replace H := let_hid H
      obtain ⟨t_22, ht_22, H⟩ := H
      replace H := idx_hid H
      obtain ⟨nt_27, yt_27, et_27, lt_27, gt_27, H⟩ := H
      obtain rfl : k0 = nt_27 := by omega
      clear et_27
      obtain ⟨t_27_zone, t_27_grams, t_27_from_, t_27_until_, t_27_cents⟩ := yt_27
      replace H := unRate_hid H
      have hqt_27 := nl20_20.out
      obtain ⟨ab_t_27, ao_t_27, zt_27, At_27, z_t_27, ct_27_0, ct_27_1, ct_27_2, ct_27_3, ct_27_4⟩ := Go.Proofs.Ytlljmgphgmklcaa.ORate.at_ (own_cells Pl20_20.out) (k := k0) (by omega)
      obtain rfl := Option.some.inj (gt_27.out.symm.trans z_t_27)
      simp only [Option.some.injEq, Addr.mk.injEq] at At_27
      obtain ⟨rfl, rfl, _⟩ := At_27
      clear z_t_27
      simp only [Nat.zero_add] at ct_27_0 ct_27_1 ct_27_2 ct_27_3 ct_27_4
      have b0t_27 : (0 : Int) ≤ (k0 : Int) := by omega
      have b1t_27 : (k0 : Int) < ((a.length : Nat) : Int) := by omega
      have b2t_27 : ((k0 : Int)).toNat = k0 := by omega
      clear hqt_27
      replace H := let_hid H
      obtain ⟨l29_29, hl29_29, H⟩ := H
      try simp only [Int.toNat_natCast] at hl29_29
      obtain ⟨wl29_29, hwl29_29⟩ : ∃ x, (wl20_20).setCell ⟨qt_9, k0 * 5 + 2, none⟩ (.int .i64 t_22) = x := ⟨_, rfl⟩
      have z0l29_29 := Pl20_20.out.frozenAt (k0 * 5 + 2)
      have Sl29_29 := Lib.hid (own_stores [(k0 * 5 + 2, .int .i64 t_22)] Pl20_20.out)
      have nl29_29 : Hid (l29_29.length = a.length) := Lib.hid (by rw [← hl29_29, List.length_set]; exact nl20_20.out)
      have Pl29_29 : Hid (wl29_29.ownsRow b0 104 5 (.slice (some ⟨qt_9, 0, none⟩) a.length c0) a.length (Go.Proofs.Ytlljmgphgmklcaa.PRate.flat l29_29)) := Lib.hid (by have es_ := set_self gt_27.out; have e0_ := flat_set Go.Proofs.Ytlljmgphgmklcaa.PRate.Rate.cells 5 (fun _ => rfl) l20_20 (k0) 2 (Go.Proofs.Ytlljmgphgmklcaa.PRate.Rate.mk t_27_zone t_27_grams t_27_from_ t_27_until_ t_27_cents) (Go.Proofs.Ytlljmgphgmklcaa.PRate.Rate.mk t_27_zone t_27_grams t_22 t_27_until_ t_27_cents) (.int .i64 t_22) lt_27 (by decide) rfl; rw [es_] at e0_; have e_ : ([(k0 * 5 + 2, .int .i64 t_22)] : List (Nat × Value)).foldl (fun xs p => xs.set p.1 p.2) (Go.Proofs.Ytlljmgphgmklcaa.PRate.flat l20_20) = (Go.Proofs.Ytlljmgphgmklcaa.PRate.flat l29_29) := (by rw [← hl29_29]; show _ = List.flatMap Go.Proofs.Ytlljmgphgmklcaa.PRate.Rate.cells _; first | (rw [← e0_]; first | done | rfl)); rw [← hwl29_29, ← e_]; exact Sl29_29.out.1)
      have Gl29_29 : Hid (wl20_20.grownBy wl29_29 (Value.slice (some ⟨qt_9, 0, none⟩) a.length c0).ownBlock) := Lib.hid (by rw [← hwl29_29]; exact Sl29_29.out.2)
      have HBwl29_29 := Lib.hid (Aid.grown_tr HBwl20_20.out Gl29_29.out)
      have hhl29_29 := Lib.hid hl29_29
      clear hl29_29 Sl29_29
      clear Pl20_20 Gl29_29
      replace H := let_hid H
      obtain ⟨t_31, ht_31, H⟩ := H
      replace H := idx_hid H
      obtain ⟨nt_36, yt_36, et_36, lt_36, gt_36, H⟩ := H
      obtain rfl : k0 = nt_36 := by omega
      clear et_36
      obtain ⟨t_36_zone, t_36_grams, t_36_from_, t_36_until_, t_36_cents⟩ := yt_36
      replace H := unRate_hid H
      have hqt_36 := nl29_29.out
      obtain ⟨ab_t_36, ao_t_36, zt_36, At_36, z_t_36, ct_36_0, ct_36_1, ct_36_2, ct_36_3, ct_36_4⟩ := Go.Proofs.Ytlljmgphgmklcaa.ORate.at_ (own_cells Pl29_29.out) (k := k0) (by omega)
      obtain rfl := Option.some.inj (gt_36.out.symm.trans z_t_36)
      simp only [Option.some.injEq, Addr.mk.injEq] at At_36
      obtain ⟨rfl, rfl, _⟩ := At_36
      clear z_t_36
      simp only [Nat.zero_add] at ct_36_0 ct_36_1 ct_36_2 ct_36_3 ct_36_4
      have b0t_36 : (0 : Int) ≤ (k0 : Int) := by omega
      have b1t_36 : (k0 : Int) < ((a.length : Nat) : Int) := by omega
      have b2t_36 : ((k0 : Int)).toNat = k0 := by omega
      clear hqt_36
      replace H := let_hid H
      obtain ⟨l38_38, hl38_38, H⟩ := H
      try simp only [Int.toNat_natCast] at hl38_38
      obtain ⟨wl38_38, hwl38_38⟩ : ∃ x, (wl29_29).setCell ⟨qt_9, k0 * 5 + 3, none⟩ (.int .i64 t_31) = x := ⟨_, rfl⟩
      have z0l38_38 := Pl29_29.out.frozenAt (k0 * 5 + 3)
      have Sl38_38 := Lib.hid (own_stores [(k0 * 5 + 3, .int .i64 t_31)] Pl29_29.out)
      have nl38_38 : Hid (l38_38.length = a.length) := Lib.hid (by rw [← hl38_38, List.length_set]; exact nl29_29.out)
      have Pl38_38 : Hid (wl38_38.ownsRow b0 104 5 (.slice (some ⟨qt_9, 0, none⟩) a.length c0) a.length (Go.Proofs.Ytlljmgphgmklcaa.PRate.flat l38_38)) := Lib.hid (by have es_ := set_self gt_36.out; have e0_ := flat_set Go.Proofs.Ytlljmgphgmklcaa.PRate.Rate.cells 5 (fun _ => rfl) l29_29 (k0) 3 (Go.Proofs.Ytlljmgphgmklcaa.PRate.Rate.mk t_36_zone t_36_grams t_36_from_ t_36_until_ t_36_cents) (Go.Proofs.Ytlljmgphgmklcaa.PRate.Rate.mk t_36_zone t_36_grams t_36_from_ t_31 t_36_cents) (.int .i64 t_31) lt_36 (by decide) rfl; rw [es_] at e0_; have e_ : ([(k0 * 5 + 3, .int .i64 t_31)] : List (Nat × Value)).foldl (fun xs p => xs.set p.1 p.2) (Go.Proofs.Ytlljmgphgmklcaa.PRate.flat l29_29) = (Go.Proofs.Ytlljmgphgmklcaa.PRate.flat l38_38) := (by rw [← hl38_38]; show _ = List.flatMap Go.Proofs.Ytlljmgphgmklcaa.PRate.Rate.cells _; first | (rw [← e0_]; first | done | rfl)); rw [← hwl38_38, ← e_]; exact Sl38_38.out.1)
      have Gl38_38 : Hid (wl29_29.grownBy wl38_38 (Value.slice (some ⟨qt_9, 0, none⟩) a.length c0).ownBlock) := Lib.hid (by rw [← hwl38_38]; exact Sl38_38.out.2)
      have HBwl38_38 := Lib.hid (Aid.grown_tr HBwl29_29.out Gl38_38.out)
      have hhl38_38 := Lib.hid hl38_38
      clear hl38_38 Sl38_38
      clear Pl29_29 Gl38_38
      replace H := let_hid H
      obtain ⟨t_40, ht_40, H⟩ := H
      replace H := idx_hid H
      obtain ⟨nt_45, yt_45, et_45, lt_45, gt_45, H⟩ := H
      obtain rfl : k0 = nt_45 := by omega
      clear et_45
      obtain ⟨t_45_zone, t_45_grams, t_45_from_, t_45_until_, t_45_cents⟩ := yt_45
      replace H := unRate_hid H
      have hqt_45 := nl38_38.out
      obtain ⟨ab_t_45, ao_t_45, zt_45, At_45, z_t_45, ct_45_0, ct_45_1, ct_45_2, ct_45_3, ct_45_4⟩ := Go.Proofs.Ytlljmgphgmklcaa.ORate.at_ (own_cells Pl38_38.out) (k := k0) (by omega)
      obtain rfl := Option.some.inj (gt_45.out.symm.trans z_t_45)
      simp only [Option.some.injEq, Addr.mk.injEq] at At_45
      obtain ⟨rfl, rfl, _⟩ := At_45
      clear z_t_45
      simp only [Nat.zero_add] at ct_45_0 ct_45_1 ct_45_2 ct_45_3 ct_45_4
      have b0t_45 : (0 : Int) ≤ (k0 : Int) := by omega
      have b1t_45 : (k0 : Int) < ((a.length : Nat) : Int) := by omega
      have b2t_45 : ((k0 : Int)).toNat = k0 := by omega
      clear hqt_45
      replace H := let_hid H
      obtain ⟨l47_47, hl47_47, H⟩ := H
      try simp only [Int.toNat_natCast] at hl47_47
      obtain ⟨wl47_47, hwl47_47⟩ : ∃ x, (wl38_38).setCell ⟨qt_9, k0 * 5 + 4, none⟩ (.int .i64 t_40) = x := ⟨_, rfl⟩
      have z0l47_47 := Pl38_38.out.frozenAt (k0 * 5 + 4)
      have Sl47_47 := Lib.hid (own_stores [(k0 * 5 + 4, .int .i64 t_40)] Pl38_38.out)
      have nl47_47 : Hid (l47_47.length = a.length) := Lib.hid (by rw [← hl47_47, List.length_set]; exact nl38_38.out)
      have Pl47_47 : Hid (wl47_47.ownsRow b0 104 5 (.slice (some ⟨qt_9, 0, none⟩) a.length c0) a.length (Go.Proofs.Ytlljmgphgmklcaa.PRate.flat l47_47)) := Lib.hid (by have es_ := set_self gt_45.out; have e0_ := flat_set Go.Proofs.Ytlljmgphgmklcaa.PRate.Rate.cells 5 (fun _ => rfl) l38_38 (k0) 4 (Go.Proofs.Ytlljmgphgmklcaa.PRate.Rate.mk t_45_zone t_45_grams t_45_from_ t_45_until_ t_45_cents) (Go.Proofs.Ytlljmgphgmklcaa.PRate.Rate.mk t_45_zone t_45_grams t_45_from_ t_45_until_ t_40) (.int .i64 t_40) lt_45 (by decide) rfl; rw [es_] at e0_; have e_ : ([(k0 * 5 + 4, .int .i64 t_40)] : List (Nat × Value)).foldl (fun xs p => xs.set p.1 p.2) (Go.Proofs.Ytlljmgphgmklcaa.PRate.flat l38_38) = (Go.Proofs.Ytlljmgphgmklcaa.PRate.flat l47_47) := (by rw [← hl47_47]; show _ = List.flatMap Go.Proofs.Ytlljmgphgmklcaa.PRate.Rate.cells _; first | (rw [← e0_]; first | done | rfl)); rw [← hwl47_47, ← e_]; exact Sl47_47.out.1)
      have Gl47_47 : Hid (wl38_38.grownBy wl47_47 (Value.slice (some ⟨qt_9, 0, none⟩) a.length c0).ownBlock) := Lib.hid (by rw [← hwl47_47]; exact Sl47_47.out.2)
      have HBwl47_47 := Lib.hid (Aid.grown_tr HBwl38_38.out Gl47_47.out)
      have hhl47_47 := Lib.hid hl47_47
      clear hl47_47 Sl47_47
      clear Pl38_38 Gl47_47
      replace H := let_hid H
      obtain ⟨t_49, ht_49, H⟩ := H
      replace H := app_hid H
      go_wp2_with fail
      clear z0l11_11 ct_9_0 ct_9_1 ct_9_2 ct_9_3 ct_9_4 z0l20_20 ct_18_0 ct_18_1 ct_18_2 ct_18_3 ct_18_4 z0l29_29 ct_27_0 ct_27_1 ct_27_2 ct_27_3 ct_27_4 z0l38_38 ct_36_0 ct_36_1 ct_36_2 ct_36_3 ct_36_4 z0l47_47 ct_45_0 ct_45_1 ct_45_2 ct_45_3 ct_45_4
      go_roundg m0
      case measure => omega
      case rel => exact ⟨k0 + 1, _, _, by omega, by go_num, rfl, H, HBwl47_47, Pl47_47, Lib.hid (nl47_47.out)⟩
end Go.Proofs.Ytlljmgphgmklcaa.GlMarkRateS

/- loop.example/g01062/laws.markCoverS as a plain function, and the contract of the program's: where the plain one has an answer, the program has it. Conditions: slices read as lists. -/
namespace Go.Proofs.Ytlljmgphgmklcaa.GlMarkCoverS
set_option linter.unusedVariables false
set_option linter.unusedSimpArgs false
open Go.RowKit
open Go.Proofs.Ytlljmgphgmklcaa.Rowed Go.Proofs.Ytlljmgphgmklcaa.Turn Go.Proofs.Ytlljmgphgmklcaa.Aid Go.Proofs.Ytlljmgphgmklcaa.GoP Go.Proofs.Ytlljmgphgmklcaa.GoM

def l0  (k0 : Nat) (s : (List Go.Proofs.Ytlljmgphgmklcaa.PCover.Cover) × Int) (nx0 bk0 : (List Go.Proofs.Ytlljmgphgmklcaa.PCover.Cover) × Int → Option (Int × (List Go.Proofs.Ytlljmgphgmklcaa.PCover.Cover))) : Option (Int × (List Go.Proofs.Ytlljmgphgmklcaa.PCover.Cover)) :=
  unp2 s fun a_0l0 k_1l0 =>
  Option.bind (idx a_0l0 (k0 : Int)) fun (yt_9 : Go.Proofs.Ytlljmgphgmklcaa.PCover.Cover) =>
  unCover yt_9 fun (t_9_id : Int) (t_9_day : Int) (t_9_zone : Int) (t_9_grams : Int) (t_9_paid : Int) (t_9_from_ : Int) (t_9_to_ : Int) (t_9_leave : Int) (t_9_arrive : Int) =>
  letK (a_0l0.set k0 (Go.Proofs.Ytlljmgphgmklcaa.PCover.Cover.mk k_1l0 t_9_day t_9_zone t_9_grams t_9_paid t_9_from_ t_9_to_ t_9_leave t_9_arrive)) fun (l11_11 : (List Go.Proofs.Ytlljmgphgmklcaa.PCover.Cover)) =>
  letK (IntKind.i64.wrap (k_1l0 + 1)) fun (t_13 : Int) =>
  Option.bind (idx l11_11 (k0 : Int)) fun (yt_18 : Go.Proofs.Ytlljmgphgmklcaa.PCover.Cover) =>
  unCover yt_18 fun (t_18_id : Int) (t_18_day : Int) (t_18_zone : Int) (t_18_grams : Int) (t_18_paid : Int) (t_18_from_ : Int) (t_18_to_ : Int) (t_18_leave : Int) (t_18_arrive : Int) =>
  letK (l11_11.set k0 (Go.Proofs.Ytlljmgphgmklcaa.PCover.Cover.mk t_18_id t_13 t_18_zone t_18_grams t_18_paid t_18_from_ t_18_to_ t_18_leave t_18_arrive)) fun (l20_20 : (List Go.Proofs.Ytlljmgphgmklcaa.PCover.Cover)) =>
  letK (IntKind.i64.wrap (t_13 + 1)) fun (t_22 : Int) =>
  Option.bind (idx l20_20 (k0 : Int)) fun (yt_27 : Go.Proofs.Ytlljmgphgmklcaa.PCover.Cover) =>
  unCover yt_27 fun (t_27_id : Int) (t_27_day : Int) (t_27_zone : Int) (t_27_grams : Int) (t_27_paid : Int) (t_27_from_ : Int) (t_27_to_ : Int) (t_27_leave : Int) (t_27_arrive : Int) =>
  letK (l20_20.set k0 (Go.Proofs.Ytlljmgphgmklcaa.PCover.Cover.mk t_27_id t_27_day t_22 t_27_grams t_27_paid t_27_from_ t_27_to_ t_27_leave t_27_arrive)) fun (l29_29 : (List Go.Proofs.Ytlljmgphgmklcaa.PCover.Cover)) =>
  letK (IntKind.i64.wrap (t_22 + 1)) fun (t_31 : Int) =>
  Option.bind (idx l29_29 (k0 : Int)) fun (yt_36 : Go.Proofs.Ytlljmgphgmklcaa.PCover.Cover) =>
  unCover yt_36 fun (t_36_id : Int) (t_36_day : Int) (t_36_zone : Int) (t_36_grams : Int) (t_36_paid : Int) (t_36_from_ : Int) (t_36_to_ : Int) (t_36_leave : Int) (t_36_arrive : Int) =>
  letK (l29_29.set k0 (Go.Proofs.Ytlljmgphgmklcaa.PCover.Cover.mk t_36_id t_36_day t_36_zone t_31 t_36_paid t_36_from_ t_36_to_ t_36_leave t_36_arrive)) fun (l38_38 : (List Go.Proofs.Ytlljmgphgmklcaa.PCover.Cover)) =>
  letK (IntKind.i64.wrap (t_31 + 1)) fun (t_40 : Int) =>
  Option.bind (idx l38_38 (k0 : Int)) fun (yt_45 : Go.Proofs.Ytlljmgphgmklcaa.PCover.Cover) =>
  unCover yt_45 fun (t_45_id : Int) (t_45_day : Int) (t_45_zone : Int) (t_45_grams : Int) (t_45_paid : Int) (t_45_from_ : Int) (t_45_to_ : Int) (t_45_leave : Int) (t_45_arrive : Int) =>
  letK (l38_38.set k0 (Go.Proofs.Ytlljmgphgmklcaa.PCover.Cover.mk t_45_id t_45_day t_45_zone t_45_grams t_40 t_45_from_ t_45_to_ t_45_leave t_45_arrive)) fun (l47_47 : (List Go.Proofs.Ytlljmgphgmklcaa.PCover.Cover)) =>
  letK (IntKind.i64.wrap (t_40 + 1)) fun (t_49 : Int) =>
  Option.bind (idx l47_47 (k0 : Int)) fun (yt_54 : Go.Proofs.Ytlljmgphgmklcaa.PCover.Cover) =>
  unCover yt_54 fun (t_54_id : Int) (t_54_day : Int) (t_54_zone : Int) (t_54_grams : Int) (t_54_paid : Int) (t_54_from_ : Int) (t_54_to_ : Int) (t_54_leave : Int) (t_54_arrive : Int) =>
  letK (l47_47.set k0 (Go.Proofs.Ytlljmgphgmklcaa.PCover.Cover.mk t_54_id t_54_day t_54_zone t_54_grams t_54_paid t_49 t_54_to_ t_54_leave t_54_arrive)) fun (l56_56 : (List Go.Proofs.Ytlljmgphgmklcaa.PCover.Cover)) =>
  letK (IntKind.i64.wrap (t_49 + 1)) fun (t_58 : Int) =>
  Option.bind (idx l56_56 (k0 : Int)) fun (yt_63 : Go.Proofs.Ytlljmgphgmklcaa.PCover.Cover) =>
  unCover yt_63 fun (t_63_id : Int) (t_63_day : Int) (t_63_zone : Int) (t_63_grams : Int) (t_63_paid : Int) (t_63_from_ : Int) (t_63_to_ : Int) (t_63_leave : Int) (t_63_arrive : Int) =>
  letK (l56_56.set k0 (Go.Proofs.Ytlljmgphgmklcaa.PCover.Cover.mk t_63_id t_63_day t_63_zone t_63_grams t_63_paid t_63_from_ t_58 t_63_leave t_63_arrive)) fun (l65_65 : (List Go.Proofs.Ytlljmgphgmklcaa.PCover.Cover)) =>
  letK (IntKind.i64.wrap (t_58 + 1)) fun (t_67 : Int) =>
  Option.bind (idx l65_65 (k0 : Int)) fun (yt_72 : Go.Proofs.Ytlljmgphgmklcaa.PCover.Cover) =>
  unCover yt_72 fun (t_72_id : Int) (t_72_day : Int) (t_72_zone : Int) (t_72_grams : Int) (t_72_paid : Int) (t_72_from_ : Int) (t_72_to_ : Int) (t_72_leave : Int) (t_72_arrive : Int) =>
  letK (l65_65.set k0 (Go.Proofs.Ytlljmgphgmklcaa.PCover.Cover.mk t_72_id t_72_day t_72_zone t_72_grams t_72_paid t_72_from_ t_72_to_ t_67 t_72_arrive)) fun (l74_74 : (List Go.Proofs.Ytlljmgphgmklcaa.PCover.Cover)) =>
  letK (IntKind.i64.wrap (t_67 + 1)) fun (t_76 : Int) =>
  Option.bind (idx l74_74 (k0 : Int)) fun (yt_81 : Go.Proofs.Ytlljmgphgmklcaa.PCover.Cover) =>
  unCover yt_81 fun (t_81_id : Int) (t_81_day : Int) (t_81_zone : Int) (t_81_grams : Int) (t_81_paid : Int) (t_81_from_ : Int) (t_81_to_ : Int) (t_81_leave : Int) (t_81_arrive : Int) =>
  letK (l74_74.set k0 (Go.Proofs.Ytlljmgphgmklcaa.PCover.Cover.mk t_81_id t_81_day t_81_zone t_81_grams t_81_paid t_81_from_ t_81_to_ t_81_leave t_76)) fun (l83_83 : (List Go.Proofs.Ytlljmgphgmklcaa.PCover.Cover)) =>
  letK (IntKind.i64.wrap (t_76 + 1)) fun (t_85 : Int) =>
  appK nx0 (l83_83, t_85)

def e0  (s : (List Go.Proofs.Ytlljmgphgmklcaa.PCover.Cover) × Int) : Option (Int × (List Go.Proofs.Ytlljmgphgmklcaa.PCover.Cover)) :=
  unp2 s fun a_0l0 k_1l0 =>
  some (k_1l0, a_0l0)

def P (a : (List Go.Proofs.Ytlljmgphgmklcaa.PCover.Cover)) (k_1 : Int) : Option (Int × (List Go.Proofs.Ytlljmgphgmklcaa.PCover.Cover)) :=
  cntK (l0 ) (a.length) 0 (a, k_1) (e0 )

set_option maxRecDepth 100000 in
set_option maxHeartbeats 2000000 in
theorem C (a : (List Go.Proofs.Ytlljmgphgmklcaa.PCover.Cover)) (k_1 : Int) (A0 : Option Addr) (c0 : Nat)  (b0 : Nat) (w : World) (M0 : Hid (w.ownsRow b0 25 9 (.slice A0 a.length c0) a.length (Go.Proofs.Ytlljmgphgmklcaa.PCover.flat a))) (N0 : Hid (a.length ≤ 9223372036854775807))  {r : Int} {l_ : (List Go.Proofs.Ytlljmgphgmklcaa.PCover.Cover)} (H : Hid (P a k_1 = some (r, l_))) :
    Calls Try.prog 37 #[.slice A0 a.length c0, .int .i64 k_1] w (fun e w' => e = .returned (.int .i64 r) ∧ w'.ownsRow b0 25 9 (.slice A0 a.length c0) a.length (Go.Proofs.Ytlljmgphgmklcaa.PCover.flat l_) ∧ l_.length = a.length ∧ w.grownBy w' (Value.slice A0 a.length c0).ownBlock) := by
  have HB := Lib.hid (Aid.grown_refl w (Value.slice A0 a.length c0).ownBlock)
  unfold P at H
  have N0o := N0.out
  go_enter Try.func37, Try.ntmps37
  go_wp2_with fail
  have hb_0 : a.length ≤ 9223372036854775807 := own_max M0.out
  go_wp2_with fail
  go_loopg [5, 1] (a.length) (fun m_ v5_ v1_ wr => ∃ (k0 : Nat) (a_0l0 : (List Go.Proofs.Ytlljmgphgmklcaa.PCover.Cover)) (k_1l0 : Int), k0 + m_ = a.length ∧ v5_ = .int .i64 (k0 : Int) ∧ v1_ = .int .i64 k_1l0 ∧ Hid (cntK (l0 ) m_ k0 (a_0l0, k_1l0) (e0 ) = some (r, l_)) ∧ Hid (w.grownBy wr (Value.slice A0 a.length c0).ownBlock) ∧ Hid (wr.ownsRow b0 25 9 (.slice A0 a.length c0) a.length (Go.Proofs.Ytlljmgphgmklcaa.PCover.flat a_0l0)) ∧ Hid (a_0l0.length = a.length))
  case atStart => exact ⟨0, _, _, by omega, rfl, rfl, H, HB, M0, Lib.hid (rfl)⟩
  case round =>
    obtain ⟨k0, a_0l0, k_1l0, hkm0, rfl, rfl, H, HBwr0, Oa_0l0, hna_0l0⟩ := hrel
    rename World => wr0
    cases gk with
    | zero =>
      obtain rfl : k0 = a.length := by omega
      have hc0 : decide (((a.length : Nat) : Int) < ((a.length : Nat) : Int)) = false := by simp
      replace H := cnt_zero H
      unfold e0 at H
      replace H := unp2_hid H
      cases ret_hid H
      go_wp2_with fail
      go_ret
      exact ⟨rfl, Oa_0l0.out, hna_0l0.out, HBwr0.out⟩
    | succ m0 =>
      have hlt0 : k0 < a.length := by omega
      have hc0 : decide ((k0 : Int) < ((a.length : Nat) : Int)) = true := by simp; omega
      replace H := cnt_succ H
      unfold l0 at H
      replace H := unp2_hid H
      replace H := idx_hid H
      obtain ⟨nt_9, yt_9, et_9, lt_9, gt_9, H⟩ := H
      obtain rfl : k0 = nt_9 := by omega
      clear et_9
      obtain ⟨t_9_id, t_9_day, t_9_zone, t_9_grams, t_9_paid, t_9_from_, t_9_to_, t_9_leave, t_9_arrive⟩ := yt_9
      replace H := unCover_hid H
      have hqt_9 := hna_0l0.out
      obtain ⟨qt_9, Qt_9⟩ := own_some Oa_0l0.out (by omega)
      subst Qt_9
      obtain ⟨ab_t_9, ao_t_9, zt_9, At_9, z_t_9, ct_9_0, ct_9_1, ct_9_2, ct_9_3, ct_9_4, ct_9_5, ct_9_6, ct_9_7, ct_9_8⟩ := Go.Proofs.Ytlljmgphgmklcaa.OCover.at_ (own_cells Oa_0l0.out) (k := k0) (by omega)
      obtain rfl := Option.some.inj (gt_9.out.symm.trans z_t_9)
      simp only [Option.some.injEq, Addr.mk.injEq] at At_9
      obtain ⟨rfl, rfl, _⟩ := At_9
      clear z_t_9
      simp only [Nat.zero_add] at ct_9_0 ct_9_1 ct_9_2 ct_9_3 ct_9_4 ct_9_5 ct_9_6 ct_9_7 ct_9_8
      have b0t_9 : (0 : Int) ≤ (k0 : Int) := by omega
      have b1t_9 : (k0 : Int) < ((a.length : Nat) : Int) := by omega
      have b2t_9 : ((k0 : Int)).toNat = k0 := by omega
      clear hqt_9
      replace H := let_hid H
      obtain ⟨l11_11, hl11_11, H⟩ := H
      try simp only [Int.toNat_natCast] at hl11_11
      obtain ⟨wl11_11, hwl11_11⟩ : ∃ x, (wr0).setCell ⟨qt_9, k0 * 9, none⟩ (.int .i64 k_1l0) = x := ⟨_, rfl⟩
      have z0l11_11 := Oa_0l0.out.frozenAt (k0 * 9)
      have Sl11_11 := Lib.hid (own_stores [(k0 * 9, .int .i64 k_1l0)] Oa_0l0.out)
      have nl11_11 : Hid (l11_11.length = a.length) := Lib.hid (by rw [← hl11_11, List.length_set]; exact hna_0l0.out)
      have Pl11_11 : Hid (wl11_11.ownsRow b0 25 9 (.slice (some ⟨qt_9, 0, none⟩) a.length c0) a.length (Go.Proofs.Ytlljmgphgmklcaa.PCover.flat l11_11)) := Lib.hid (by have es_ := set_self gt_9.out; have e0_ := flat_set Go.Proofs.Ytlljmgphgmklcaa.PCover.Cover.cells 9 (fun _ => rfl) a_0l0 (k0) 0 (Go.Proofs.Ytlljmgphgmklcaa.PCover.Cover.mk t_9_id t_9_day t_9_zone t_9_grams t_9_paid t_9_from_ t_9_to_ t_9_leave t_9_arrive) (Go.Proofs.Ytlljmgphgmklcaa.PCover.Cover.mk k_1l0 t_9_day t_9_zone t_9_grams t_9_paid t_9_from_ t_9_to_ t_9_leave t_9_arrive) (.int .i64 k_1l0) lt_9 (by decide) rfl; rw [es_] at e0_; have e_ : ([(k0 * 9, .int .i64 k_1l0)] : List (Nat × Value)).foldl (fun xs p => xs.set p.1 p.2) (Go.Proofs.Ytlljmgphgmklcaa.PCover.flat a_0l0) = (Go.Proofs.Ytlljmgphgmklcaa.PCover.flat l11_11) := (by rw [← hl11_11]; show _ = List.flatMap Go.Proofs.Ytlljmgphgmklcaa.PCover.Cover.cells _; first | (rw [← e0_]; first | done | rfl)); rw [← hwl11_11, ← e_]; exact Sl11_11.out.1)
      have Gl11_11 : Hid (wr0.grownBy wl11_11 (Value.slice (some ⟨qt_9, 0, none⟩) a.length c0).ownBlock) := Lib.hid (by rw [← hwl11_11]; exact Sl11_11.out.2)
      have HBwl11_11 := Lib.hid (Aid.grown_tr HBwr0.out Gl11_11.out)
      have hhl11_11 := Lib.hid hl11_11
      clear hl11_11 Sl11_11
      clear Oa_0l0 Gl11_11
      replace H := let_hid H
      obtain ⟨t_13, ht_13, H⟩ := H
      replace H := idx_hid H
      obtain ⟨nt_18, yt_18, et_18, lt_18, gt_18, H⟩ := H
      obtain rfl : k0 = nt_18 := by omega
      clear et_18
      obtain ⟨t_18_id, t_18_day, t_18_zone, t_18_grams, t_18_paid, t_18_from_, t_18_to_, t_18_leave, t_18_arrive⟩ := yt_18
      replace H := unCover_hid H
      have hqt_18 := nl11_11.out
      obtain ⟨ab_t_18, ao_t_18, zt_18, At_18, z_t_18, ct_18_0, ct_18_1, ct_18_2, ct_18_3, ct_18_4, ct_18_5, ct_18_6, ct_18_7, ct_18_8⟩ := Go.Proofs.Ytlljmgphgmklcaa.OCover.at_ (own_cells Pl11_11.out) (k := k0) (by omega)
      obtain rfl := Option.some.inj (gt_18.out.symm.trans z_t_18)
      simp only [Option.some.injEq, Addr.mk.injEq] at At_18
      obtain ⟨rfl, rfl, _⟩ := At_18
      clear z_t_18
      simp only [Nat.zero_add] at ct_18_0 ct_18_1 ct_18_2 ct_18_3 ct_18_4 ct_18_5 ct_18_6 ct_18_7 ct_18_8
      have b0t_18 : (0 : Int) ≤ (k0 : Int) := by omega
      have b1t_18 : (k0 : Int) < ((a.length : Nat) : Int) := by omega
      have b2t_18 : ((k0 : Int)).toNat = k0 := by omega
      clear hqt_18
      replace H := let_hid H
      obtain ⟨l20_20, hl20_20, H⟩ := H
      try simp only [Int.toNat_natCast] at hl20_20
      obtain ⟨wl20_20, hwl20_20⟩ : ∃ x, (wl11_11).setCell ⟨qt_9, k0 * 9 + 1, none⟩ (.int .i64 t_13) = x := ⟨_, rfl⟩
      have z0l20_20 := Pl11_11.out.frozenAt (k0 * 9 + 1)
      have Sl20_20 := Lib.hid (own_stores [(k0 * 9 + 1, .int .i64 t_13)] Pl11_11.out)
      have nl20_20 : Hid (l20_20.length = a.length) := Lib.hid (by rw [← hl20_20, List.length_set]; exact nl11_11.out)
      have Pl20_20 : Hid (wl20_20.ownsRow b0 25 9 (.slice (some ⟨qt_9, 0, none⟩) a.length c0) a.length (Go.Proofs.Ytlljmgphgmklcaa.PCover.flat l20_20)) := Lib.hid (by have es_ := set_self gt_18.out; have e0_ := flat_set Go.Proofs.Ytlljmgphgmklcaa.PCover.Cover.cells 9 (fun _ => rfl) l11_11 (k0) 1 (Go.Proofs.Ytlljmgphgmklcaa.PCover.Cover.mk t_18_id t_18_day t_18_zone t_18_grams t_18_paid t_18_from_ t_18_to_ t_18_leave t_18_arrive) (Go.Proofs.Ytlljmgphgmklcaa.PCover.Cover.mk t_18_id t_13 t_18_zone t_18_grams t_18_paid t_18_from_ t_18_to_ t_18_leave t_18_arrive) (.int .i64 t_13) lt_18 (by decide) rfl; rw [es_] at e0_; have e_ : ([(k0 * 9 + 1, .int .i64 t_13)] : List (Nat × Value)).foldl (fun xs p => xs.set p.1 p.2) (Go.Proofs.Ytlljmgphgmklcaa.PCover.flat l11_11) = (Go.Proofs.Ytlljmgphgmklcaa.PCover.flat l20_20) := (by rw [← hl20_20]; show _ = List.flatMap Go.Proofs.Ytlljmgphgmklcaa.PCover.Cover.cells _; first | (rw [← e0_]; first | done | rfl)); rw [← hwl20_20, ← e_]; exact Sl20_20.out.1)
      have Gl20_20 : Hid (wl11_11.grownBy wl20_20 (Value.slice (some ⟨qt_9, 0, none⟩) a.length c0).ownBlock) := Lib.hid (by rw [← hwl20_20]; exact Sl20_20.out.2)
      have HBwl20_20 := Lib.hid (Aid.grown_tr HBwl11_11.out Gl20_20.out)
      have hhl20_20 := Lib.hid hl20_20
      clear hl20_20 Sl20_20
      clear Pl11_11 Gl20_20
      replace H := let_hid H
      obtain ⟨t_22, ht_22, H⟩ := H
      replace H := idx_hid H
      obtain ⟨nt_27, yt_27, et_27, lt_27, gt_27, H⟩ := H
      obtain rfl : k0 = nt_27 := by omega
      clear et_27
      obtain ⟨t_27_id, t_27_day, t_27_zone, t_27_grams, t_27_paid, t_27_from_, t_27_to_, t_27_leave, t_27_arrive⟩ := yt_27
      replace H := unCover_hid H
      have hqt_27 := nl20_20.out
      obtain ⟨ab_t_27, ao_t_27, zt_27, At_27, z_t_27, ct_27_0, ct_27_1, ct_27_2, ct_27_3, ct_27_4, ct_27_5, ct_27_6, ct_27_7, ct_27_8⟩ := Go.Proofs.Ytlljmgphgmklcaa.OCover.at_ (own_cells Pl20_20.out) (k := k0) (by omega)
      obtain rfl := Option.some.inj (gt_27.out.symm.trans z_t_27)
      simp only [Option.some.injEq, Addr.mk.injEq] at At_27
      obtain ⟨rfl, rfl, _⟩ := At_27
      clear z_t_27
      simp only [Nat.zero_add] at ct_27_0 ct_27_1 ct_27_2 ct_27_3 ct_27_4 ct_27_5 ct_27_6 ct_27_7 ct_27_8
      have b0t_27 : (0 : Int) ≤ (k0 : Int) := by omega
      have b1t_27 : (k0 : Int) < ((a.length : Nat) : Int) := by omega
      have b2t_27 : ((k0 : Int)).toNat = k0 := by omega
      clear hqt_27
      replace H := let_hid H
      obtain ⟨l29_29, hl29_29, H⟩ := H
      try simp only [Int.toNat_natCast] at hl29_29
      obtain ⟨wl29_29, hwl29_29⟩ : ∃ x, (wl20_20).setCell ⟨qt_9, k0 * 9 + 2, none⟩ (.int .i64 t_22) = x := ⟨_, rfl⟩
      have z0l29_29 := Pl20_20.out.frozenAt (k0 * 9 + 2)
      have Sl29_29 := Lib.hid (own_stores [(k0 * 9 + 2, .int .i64 t_22)] Pl20_20.out)
      have nl29_29 : Hid (l29_29.length = a.length) := Lib.hid (by rw [← hl29_29, List.length_set]; exact nl20_20.out)
      have Pl29_29 : Hid (wl29_29.ownsRow b0 25 9 (.slice (some ⟨qt_9, 0, none⟩) a.length c0) a.length (Go.Proofs.Ytlljmgphgmklcaa.PCover.flat l29_29)) := Lib.hid (by have es_ := set_self gt_27.out; have e0_ := flat_set Go.Proofs.Ytlljmgphgmklcaa.PCover.Cover.cells 9 (fun _ => rfl) l20_20 (k0) 2 (Go.Proofs.Ytlljmgphgmklcaa.PCover.Cover.mk t_27_id t_27_day t_27_zone t_27_grams t_27_paid t_27_from_ t_27_to_ t_27_leave t_27_arrive) (Go.Proofs.Ytlljmgphgmklcaa.PCover.Cover.mk t_27_id t_27_day t_22 t_27_grams t_27_paid t_27_from_ t_27_to_ t_27_leave t_27_arrive) (.int .i64 t_22) lt_27 (by decide) rfl; rw [es_] at e0_; have e_ : ([(k0 * 9 + 2, .int .i64 t_22)] : List (Nat × Value)).foldl (fun xs p => xs.set p.1 p.2) (Go.Proofs.Ytlljmgphgmklcaa.PCover.flat l20_20) = (Go.Proofs.Ytlljmgphgmklcaa.PCover.flat l29_29) := (by rw [← hl29_29]; show _ = List.flatMap Go.Proofs.Ytlljmgphgmklcaa.PCover.Cover.cells _; first | (rw [← e0_]; first | done | rfl)); rw [← hwl29_29, ← e_]; exact Sl29_29.out.1)
      have Gl29_29 : Hid (wl20_20.grownBy wl29_29 (Value.slice (some ⟨qt_9, 0, none⟩) a.length c0).ownBlock) := Lib.hid (by rw [← hwl29_29]; exact Sl29_29.out.2)
      have HBwl29_29 := Lib.hid (Aid.grown_tr HBwl20_20.out Gl29_29.out)
      have hhl29_29 := Lib.hid hl29_29
      clear hl29_29 Sl29_29
      clear Pl20_20 Gl29_29
      replace H := let_hid H
      obtain ⟨t_31, ht_31, H⟩ := H
      replace H := idx_hid H
      obtain ⟨nt_36, yt_36, et_36, lt_36, gt_36, H⟩ := H
      obtain rfl : k0 = nt_36 := by omega
      clear et_36
      obtain ⟨t_36_id, t_36_day, t_36_zone, t_36_grams, t_36_paid, t_36_from_, t_36_to_, t_36_leave, t_36_arrive⟩ := yt_36
      replace H := unCover_hid H
      have hqt_36 := nl29_29.out
      obtain ⟨ab_t_36, ao_t_36, zt_36, At_36, z_t_36, ct_36_0, ct_36_1, ct_36_2, ct_36_3, ct_36_4, ct_36_5, ct_36_6, ct_36_7, ct_36_8⟩ := Go.Proofs.Ytlljmgphgmklcaa.OCover.at_ (own_cells Pl29_29.out) (k := k0) (by omega)
      obtain rfl := Option.some.inj (gt_36.out.symm.trans z_t_36)
      simp only [Option.some.injEq, Addr.mk.injEq] at At_36
      obtain ⟨rfl, rfl, _⟩ := At_36
      clear z_t_36
      simp only [Nat.zero_add] at ct_36_0 ct_36_1 ct_36_2 ct_36_3 ct_36_4 ct_36_5 ct_36_6 ct_36_7 ct_36_8
      have b0t_36 : (0 : Int) ≤ (k0 : Int) := by omega
      have b1t_36 : (k0 : Int) < ((a.length : Nat) : Int) := by omega
      have b2t_36 : ((k0 : Int)).toNat = k0 := by omega
      clear hqt_36
      replace H := let_hid H
      obtain ⟨l38_38, hl38_38, H⟩ := H
      try simp only [Int.toNat_natCast] at hl38_38
      obtain ⟨wl38_38, hwl38_38⟩ : ∃ x, (wl29_29).setCell ⟨qt_9, k0 * 9 + 3, none⟩ (.int .i64 t_31) = x := ⟨_, rfl⟩
      have z0l38_38 := Pl29_29.out.frozenAt (k0 * 9 + 3)
      have Sl38_38 := Lib.hid (own_stores [(k0 * 9 + 3, .int .i64 t_31)] Pl29_29.out)
      have nl38_38 : Hid (l38_38.length = a.length) := Lib.hid (by rw [← hl38_38, List.length_set]; exact nl29_29.out)
      have Pl38_38 : Hid (wl38_38.ownsRow b0 25 9 (.slice (some ⟨qt_9, 0, none⟩) a.length c0) a.length (Go.Proofs.Ytlljmgphgmklcaa.PCover.flat l38_38)) := Lib.hid (by have es_ := set_self gt_36.out; have e0_ := flat_set Go.Proofs.Ytlljmgphgmklcaa.PCover.Cover.cells 9 (fun _ => rfl) l29_29 (k0) 3 (Go.Proofs.Ytlljmgphgmklcaa.PCover.Cover.mk t_36_id t_36_day t_36_zone t_36_grams t_36_paid t_36_from_ t_36_to_ t_36_leave t_36_arrive) (Go.Proofs.Ytlljmgphgmklcaa.PCover.Cover.mk t_36_id t_36_day t_36_zone t_31 t_36_paid t_36_from_ t_36_to_ t_36_leave t_36_arrive) (.int .i64 t_31) lt_36 (by decide) rfl; rw [es_] at e0_; have e_ : ([(k0 * 9 + 3, .int .i64 t_31)] : List (Nat × Value)).foldl (fun xs p => xs.set p.1 p.2) (Go.Proofs.Ytlljmgphgmklcaa.PCover.flat l29_29) = (Go.Proofs.Ytlljmgphgmklcaa.PCover.flat l38_38) := (by rw [← hl38_38]; show _ = List.flatMap Go.Proofs.Ytlljmgphgmklcaa.PCover.Cover.cells _; first | (rw [← e0_]; first | done | rfl)); rw [← hwl38_38, ← e_]; exact Sl38_38.out.1)
      have Gl38_38 : Hid (wl29_29.grownBy wl38_38 (Value.slice (some ⟨qt_9, 0, none⟩) a.length c0).ownBlock) := Lib.hid (by rw [← hwl38_38]; exact Sl38_38.out.2)
      have HBwl38_38 := Lib.hid (Aid.grown_tr HBwl29_29.out Gl38_38.out)
      have hhl38_38 := Lib.hid hl38_38
      clear hl38_38 Sl38_38
      clear Pl29_29 Gl38_38
      replace H := let_hid H
      obtain ⟨t_40, ht_40, H⟩ := H
      replace H := idx_hid H
      obtain ⟨nt_45, yt_45, et_45, lt_45, gt_45, H⟩ := H
      obtain rfl : k0 = nt_45 := by omega
      clear et_45
      obtain ⟨t_45_id, t_45_day, t_45_zone, t_45_grams, t_45_paid, t_45_from_, t_45_to_, t_45_leave, t_45_arrive⟩ := yt_45
      replace H := unCover_hid H
      have hqt_45 := nl38_38.out
      obtain ⟨ab_t_45, ao_t_45, zt_45, At_45, z_t_45, ct_45_0, ct_45_1, ct_45_2, ct_45_3, ct_45_4, ct_45_5, ct_45_6, ct_45_7, ct_45_8⟩ := Go.Proofs.Ytlljmgphgmklcaa.OCover.at_ (own_cells Pl38_38.out) (k := k0) (by omega)
      obtain rfl := Option.some.inj (gt_45.out.symm.trans z_t_45)
      simp only [Option.some.injEq, Addr.mk.injEq] at At_45
      obtain ⟨rfl, rfl, _⟩ := At_45
      clear z_t_45
      simp only [Nat.zero_add] at ct_45_0 ct_45_1 ct_45_2 ct_45_3 ct_45_4 ct_45_5 ct_45_6 ct_45_7 ct_45_8
      have b0t_45 : (0 : Int) ≤ (k0 : Int) := by omega
      have b1t_45 : (k0 : Int) < ((a.length : Nat) : Int) := by omega
      have b2t_45 : ((k0 : Int)).toNat = k0 := by omega
      clear hqt_45
      replace H := let_hid H
      obtain ⟨l47_47, hl47_47, H⟩ := H
      try simp only [Int.toNat_natCast] at hl47_47
      obtain ⟨wl47_47, hwl47_47⟩ : ∃ x, (wl38_38).setCell ⟨qt_9, k0 * 9 + 4, none⟩ (.int .i64 t_40) = x := ⟨_, rfl⟩
      have z0l47_47 := Pl38_38.out.frozenAt (k0 * 9 + 4)
      have Sl47_47 := Lib.hid (own_stores [(k0 * 9 + 4, .int .i64 t_40)] Pl38_38.out)
      have nl47_47 : Hid (l47_47.length = a.length) := Lib.hid (by rw [← hl47_47, List.length_set]; exact nl38_38.out)
      have Pl47_47 : Hid (wl47_47.ownsRow b0 25 9 (.slice (some ⟨qt_9, 0, none⟩) a.length c0) a.length (Go.Proofs.Ytlljmgphgmklcaa.PCover.flat l47_47)) := Lib.hid (by have es_ := set_self gt_45.out; have e0_ := flat_set Go.Proofs.Ytlljmgphgmklcaa.PCover.Cover.cells 9 (fun _ => rfl) l38_38 (k0) 4 (Go.Proofs.Ytlljmgphgmklcaa.PCover.Cover.mk t_45_id t_45_day t_45_zone t_45_grams t_45_paid t_45_from_ t_45_to_ t_45_leave t_45_arrive) (Go.Proofs.Ytlljmgphgmklcaa.PCover.Cover.mk t_45_id t_45_day t_45_zone t_45_grams t_40 t_45_from_ t_45_to_ t_45_leave t_45_arrive) (.int .i64 t_40) lt_45 (by decide) rfl; rw [es_] at e0_; have e_ : ([(k0 * 9 + 4, .int .i64 t_40)] : List (Nat × Value)).foldl (fun xs p => xs.set p.1 p.2) (Go.Proofs.Ytlljmgphgmklcaa.PCover.flat l38_38) = (Go.Proofs.Ytlljmgphgmklcaa.PCover.flat l47_47) := (by rw [← hl47_47]; show _ = List.flatMap Go.Proofs.Ytlljmgphgmklcaa.PCover.Cover.cells _; first | (rw [← e0_]; first | done | rfl)); rw [← hwl47_47, ← e_]; exact Sl47_47.out.1)
      have Gl47_47 : Hid (wl38_38.grownBy wl47_47 (Value.slice (some ⟨qt_9, 0, none⟩) a.length c0).ownBlock) := Lib.hid (by rw [← hwl47_47]; exact Sl47_47.out.2)
      have HBwl47_47 := Lib.hid (Aid.grown_tr HBwl38_38.out Gl47_47.out)
      have hhl47_47 := Lib.hid hl47_47
      clear hl47_47 Sl47_47
      clear Pl38_38 Gl47_47
      replace H := let_hid H
      obtain ⟨t_49, ht_49, H⟩ := H
      replace H := idx_hid H
      obtain ⟨nt_54, yt_54, et_54, lt_54, gt_54, H⟩ := H
      obtain rfl : k0 = nt_54 := by omega
      clear et_54
      obtain ⟨t_54_id, t_54_day, t_54_zone, t_54_grams, t_54_paid, t_54_from_, t_54_to_, t_54_leave, t_54_arrive⟩ := yt_54
      replace H := unCover_hid H
      have hqt_54 := nl47_47.out
      obtain ⟨ab_t_54, ao_t_54, zt_54, At_54, z_t_54, ct_54_0, ct_54_1, ct_54_2, ct_54_3, ct_54_4, ct_54_5, ct_54_6, ct_54_7, ct_54_8⟩ := Go.Proofs.Ytlljmgphgmklcaa.OCover.at_ (own_cells Pl47_47.out) (k := k0) (by omega)
      obtain rfl := Option.some.inj (gt_54.out.symm.trans z_t_54)
      simp only [Option.some.injEq, Addr.mk.injEq] at At_54
      obtain ⟨rfl, rfl, _⟩ := At_54
      clear z_t_54
      simp only [Nat.zero_add] at ct_54_0 ct_54_1 ct_54_2 ct_54_3 ct_54_4 ct_54_5 ct_54_6 ct_54_7 ct_54_8
      have b0t_54 : (0 : Int) ≤ (k0 : Int) := by omega
      have b1t_54 : (k0 : Int) < ((a.length : Nat) : Int) := by omega
      have b2t_54 : ((k0 : Int)).toNat = k0 := by omega
      clear hqt_54
      replace H := let_hid H
      obtain ⟨l56_56, hl56_56, H⟩ := H
      try simp only [Int.toNat_natCast] at hl56_56
      obtain ⟨wl56_56, hwl56_56⟩ : ∃ x, (wl47_47).setCell ⟨qt_9, k0 * 9 + 5, none⟩ (.int .i64 t_49) = x := ⟨_, rfl⟩
      have z0l56_56 := Pl47_47.out.frozenAt (k0 * 9 + 5)
      have Sl56_56 := Lib.hid (own_stores [(k0 * 9 + 5, .int .i64 t_49)] Pl47_47.out)
      have nl56_56 : Hid (l56_56.length = a.length) := Lib.hid (by rw [← hl56_56, List.length_set]; exact nl47_47.out)
      have Pl56_56 : Hid (wl56_56.ownsRow b0 25 9 (.slice (some ⟨qt_9, 0, none⟩) a.length c0) a.length (Go.Proofs.Ytlljmgphgmklcaa.PCover.flat l56_56)) := Lib.hid (by have es_ := set_self gt_54.out; have e0_ := flat_set Go.Proofs.Ytlljmgphgmklcaa.PCover.Cover.cells 9 (fun _ => rfl) l47_47 (k0) 5 (Go.Proofs.Ytlljmgphgmklcaa.PCover.Cover.mk t_54_id t_54_day t_54_zone t_54_grams t_54_paid t_54_from_ t_54_to_ t_54_leave t_54_arrive) (Go.Proofs.Ytlljmgphgmklcaa.PCover.Cover.mk t_54_id t_54_day t_54_zone t_54_grams t_54_paid t_49 t_54_to_ t_54_leave t_54_arrive) (.int .i64 t_49) lt_54 (by decide) rfl; rw [es_] at e0_; have e_ : ([(k0 * 9 + 5, .int .i64 t_49)] : List (Nat × Value)).foldl (fun xs p => xs.set p.1 p.2) (Go.Proofs.Ytlljmgphgmklcaa.PCover.flat l47_47) = (Go.Proofs.Ytlljmgphgmklcaa.PCover.flat l56_56) := (by rw [← hl56_56]; show _ = List.flatMap Go.Proofs.Ytlljmgphgmklcaa.PCover.Cover.cells _; first | (rw [← e0_]; first | done | rfl)); rw [← hwl56_56, ← e_]; exact Sl56_56.out.1)
      have Gl56_56 : Hid (wl47_47.grownBy wl56_56 (Value.slice (some ⟨qt_9, 0, none⟩) a.length c0).ownBlock) := Lib.hid (by rw [← hwl56_56]; exact Sl56_56.out.2)
      have HBwl56_56 := Lib.hid (Aid.grown_tr HBwl47_47.out Gl56_56.out)
      have hhl56_56 := Lib.hid hl56_56
      clear hl56_56 Sl56_56
      clear Pl47_47 Gl56_56
      replace H := let_hid H
      obtain ⟨t_58, ht_58, H⟩ := H
      replace H := idx_hid H
      obtain ⟨nt_63, yt_63, et_63, lt_63, gt_63, H⟩ := H
      obtain rfl : k0 = nt_63 := by omega
      clear et_63
      obtain ⟨t_63_id, t_63_day, t_63_zone, t_63_grams, t_63_paid, t_63_from_, t_63_to_, t_63_leave, t_63_arrive⟩ := yt_63
      replace H := unCover_hid H
      have hqt_63 := nl56_56.out
      obtain ⟨ab_t_63, ao_t_63, zt_63, At_63, z_t_63, ct_63_0, ct_63_1, ct_63_2, ct_63_3, ct_63_4, ct_63_5, ct_63_6, ct_63_7, ct_63_8⟩ := Go.Proofs.Ytlljmgphgmklcaa.OCover.at_ (own_cells Pl56_56.out) (k := k0) (by omega)
      obtain rfl := Option.some.inj (gt_63.out.symm.trans z_t_63)
      simp only [Option.some.injEq, Addr.mk.injEq] at At_63
      obtain ⟨rfl, rfl, _⟩ := At_63
      clear z_t_63
      simp only [Nat.zero_add] at ct_63_0 ct_63_1 ct_63_2 ct_63_3 ct_63_4 ct_63_5 ct_63_6 ct_63_7 ct_63_8
      have b0t_63 : (0 : Int) ≤ (k0 : Int) := by omega
      have b1t_63 : (k0 : Int) < ((a.length : Nat) : Int) := by omega
      have b2t_63 : ((k0 : Int)).toNat = k0 := by omega
      clear hqt_63
      replace H := let_hid H
      obtain ⟨l65_65, hl65_65, H⟩ := H
      try simp only [Int.toNat_natCast] at hl65_65
      obtain ⟨wl65_65, hwl65_65⟩ : ∃ x, (wl56_56).setCell ⟨qt_9, k0 * 9 + 6, none⟩ (.int .i64 t_58) = x := ⟨_, rfl⟩
      have z0l65_65 := Pl56_56.out.frozenAt (k0 * 9 + 6)
      have Sl65_65 := Lib.hid (own_stores [(k0 * 9 + 6, .int .i64 t_58)] Pl56_56.out)
      have nl65_65 : Hid (l65_65.length = a.length) := Lib.hid (by rw [← hl65_65, List.length_set]; exact nl56_56.out)
      have Pl65_65 : Hid (wl65_65.ownsRow b0 25 9 (.slice (some ⟨qt_9, 0, none⟩) a.length c0) a.length (Go.Proofs.Ytlljmgphgmklcaa.PCover.flat l65_65)) := Lib.hid (by have es_ := set_self gt_63.out; have e0_ := flat_set Go.Proofs.Ytlljmgphgmklcaa.PCover.Cover.cells 9 (fun _ => rfl) l56_56 (k0) 6 (Go.Proofs.Ytlljmgphgmklcaa.PCover.Cover.mk t_63_id t_63_day t_63_zone t_63_grams t_63_paid t_63_from_ t_63_to_ t_63_leave t_63_arrive) (Go.Proofs.Ytlljmgphgmklcaa.PCover.Cover.mk t_63_id t_63_day t_63_zone t_63_grams t_63_paid t_63_from_ t_58 t_63_leave t_63_arrive) (.int .i64 t_58) lt_63 (by decide) rfl; rw [es_] at e0_; have e_ : ([(k0 * 9 + 6, .int .i64 t_58)] : List (Nat × Value)).foldl (fun xs p => xs.set p.1 p.2) (Go.Proofs.Ytlljmgphgmklcaa.PCover.flat l56_56) = (Go.Proofs.Ytlljmgphgmklcaa.PCover.flat l65_65) := (by rw [← hl65_65]; show _ = List.flatMap Go.Proofs.Ytlljmgphgmklcaa.PCover.Cover.cells _; first | (rw [← e0_]; first | done | rfl)); rw [← hwl65_65, ← e_]; exact Sl65_65.out.1)
      have Gl65_65 : Hid (wl56_56.grownBy wl65_65 (Value.slice (some ⟨qt_9, 0, none⟩) a.length c0).ownBlock) := Lib.hid (by rw [← hwl65_65]; exact Sl65_65.out.2)
      have HBwl65_65 := Lib.hid (Aid.grown_tr HBwl56_56.out Gl65_65.out)
      have hhl65_65 := Lib.hid hl65_65
      clear hl65_65 Sl65_65
      clear Pl56_56 Gl65_65
      replace H := let_hid H
      obtain ⟨t_67, ht_67, H⟩ := H
      replace H := idx_hid H
      obtain ⟨nt_72, yt_72, et_72, lt_72, gt_72, H⟩ := H
      obtain rfl : k0 = nt_72 := by omega
      clear et_72
      obtain ⟨t_72_id, t_72_day, t_72_zone, t_72_grams, t_72_paid, t_72_from_, t_72_to_, t_72_leave, t_72_arrive⟩ := yt_72
      replace H := unCover_hid H
      have hqt_72 := nl65_65.out
      obtain ⟨ab_t_72, ao_t_72, zt_72, At_72, z_t_72, ct_72_0, ct_72_1, ct_72_2, ct_72_3, ct_72_4, ct_72_5, ct_72_6, ct_72_7, ct_72_8⟩ := Go.Proofs.Ytlljmgphgmklcaa.OCover.at_ (own_cells Pl65_65.out) (k := k0) (by omega)
      obtain rfl := Option.some.inj (gt_72.out.symm.trans z_t_72)
      simp only [Option.some.injEq, Addr.mk.injEq] at At_72
      obtain ⟨rfl, rfl, _⟩ := At_72
      clear z_t_72
      simp only [Nat.zero_add] at ct_72_0 ct_72_1 ct_72_2 ct_72_3 ct_72_4 ct_72_5 ct_72_6 ct_72_7 ct_72_8
      have b0t_72 : (0 : Int) ≤ (k0 : Int) := by omega
      have b1t_72 : (k0 : Int) < ((a.length : Nat) : Int) := by omega
      have b2t_72 : ((k0 : Int)).toNat = k0 := by omega
      clear hqt_72
      replace H := let_hid H
      obtain ⟨l74_74, hl74_74, H⟩ := H
      try simp only [Int.toNat_natCast] at hl74_74
      obtain ⟨wl74_74, hwl74_74⟩ : ∃ x, (wl65_65).setCell ⟨qt_9, k0 * 9 + 7, none⟩ (.int .i64 t_67) = x := ⟨_, rfl⟩
      have z0l74_74 := Pl65_65.out.frozenAt (k0 * 9 + 7)
      have Sl74_74 := Lib.hid (own_stores [(k0 * 9 + 7, .int .i64 t_67)] Pl65_65.out)
      have nl74_74 : Hid (l74_74.length = a.length) := Lib.hid (by rw [← hl74_74, List.length_set]; exact nl65_65.out)
      have Pl74_74 : Hid (wl74_74.ownsRow b0 25 9 (.slice (some ⟨qt_9, 0, none⟩) a.length c0) a.length (Go.Proofs.Ytlljmgphgmklcaa.PCover.flat l74_74)) := Lib.hid (by have es_ := set_self gt_72.out; have e0_ := flat_set Go.Proofs.Ytlljmgphgmklcaa.PCover.Cover.cells 9 (fun _ => rfl) l65_65 (k0) 7 (Go.Proofs.Ytlljmgphgmklcaa.PCover.Cover.mk t_72_id t_72_day t_72_zone t_72_grams t_72_paid t_72_from_ t_72_to_ t_72_leave t_72_arrive) (Go.Proofs.Ytlljmgphgmklcaa.PCover.Cover.mk t_72_id t_72_day t_72_zone t_72_grams t_72_paid t_72_from_ t_72_to_ t_67 t_72_arrive) (.int .i64 t_67) lt_72 (by decide) rfl; rw [es_] at e0_; have e_ : ([(k0 * 9 + 7, .int .i64 t_67)] : List (Nat × Value)).foldl (fun xs p => xs.set p.1 p.2) (Go.Proofs.Ytlljmgphgmklcaa.PCover.flat l65_65) = (Go.Proofs.Ytlljmgphgmklcaa.PCover.flat l74_74) := (by rw [← hl74_74]; show _ = List.flatMap Go.Proofs.Ytlljmgphgmklcaa.PCover.Cover.cells _; first | (rw [← e0_]; first | done | rfl)); rw [← hwl74_74, ← e_]; exact Sl74_74.out.1)
      have Gl74_74 : Hid (wl65_65.grownBy wl74_74 (Value.slice (some ⟨qt_9, 0, none⟩) a.length c0).ownBlock) := Lib.hid (by rw [← hwl74_74]; exact Sl74_74.out.2)
      have HBwl74_74 := Lib.hid (Aid.grown_tr HBwl65_65.out Gl74_74.out)
      have hhl74_74 := Lib.hid hl74_74
      clear hl74_74 Sl74_74
      clear Pl65_65 Gl74_74
      replace H := let_hid H
      obtain ⟨t_76, ht_76, H⟩ := H
      replace H := idx_hid H
      obtain ⟨nt_81, yt_81, et_81, lt_81, gt_81, H⟩ := H
      obtain rfl : k0 = nt_81 := by omega
      clear et_81
      obtain ⟨t_81_id, t_81_day, t_81_zone, t_81_grams, t_81_paid, t_81_from_, t_81_to_, t_81_leave, t_81_arrive⟩ := yt_81
      replace H := unCover_hid H
      have hqt_81 := nl74_74.out
      obtain ⟨ab_t_81, ao_t_81, zt_81, At_81, z_t_81, ct_81_0, ct_81_1, ct_81_2, ct_81_3, ct_81_4, ct_81_5, ct_81_6, ct_81_7, ct_81_8⟩ := Go.Proofs.Ytlljmgphgmklcaa.OCover.at_ (own_cells Pl74_74.out) (k := k0) (by omega)
      obtain rfl := Option.some.inj (gt_81.out.symm.trans z_t_81)
      simp only [Option.some.injEq, Addr.mk.injEq] at At_81
      obtain ⟨rfl, rfl, _⟩ := At_81
      clear z_t_81
      simp only [Nat.zero_add] at ct_81_0 ct_81_1 ct_81_2 ct_81_3 ct_81_4 ct_81_5 ct_81_6 ct_81_7 ct_81_8
      have b0t_81 : (0 : Int) ≤ (k0 : Int) := by omega
      have b1t_81 : (k0 : Int) < ((a.length : Nat) : Int) := by omega
      have b2t_81 : ((k0 : Int)).toNat = k0 := by omega
      clear hqt_81
      replace H := let_hid H
      obtain ⟨l83_83, hl83_83, H⟩ := H
      try simp only [Int.toNat_natCast] at hl83_83
      obtain ⟨wl83_83, hwl83_83⟩ : ∃ x, (wl74_74).setCell ⟨qt_9, k0 * 9 + 8, none⟩ (.int .i64 t_76) = x := ⟨_, rfl⟩
      have z0l83_83 := Pl74_74.out.frozenAt (k0 * 9 + 8)
      have Sl83_83 := Lib.hid (own_stores [(k0 * 9 + 8, .int .i64 t_76)] Pl74_74.out)
      have nl83_83 : Hid (l83_83.length = a.length) := Lib.hid (by rw [← hl83_83, List.length_set]; exact nl74_74.out)
      have Pl83_83 : Hid (wl83_83.ownsRow b0 25 9 (.slice (some ⟨qt_9, 0, none⟩) a.length c0) a.length (Go.Proofs.Ytlljmgphgmklcaa.PCover.flat l83_83)) := Lib.hid (by have es_ := set_self gt_81.out; have e0_ := flat_set Go.Proofs.Ytlljmgphgmklcaa.PCover.Cover.cells 9 (fun _ => rfl) l74_74 (k0) 8 (Go.Proofs.Ytlljmgphgmklcaa.PCover.Cover.mk t_81_id t_81_day t_81_zone t_81_grams t_81_paid t_81_from_ t_81_to_ t_81_leave t_81_arrive) (Go.Proofs.Ytlljmgphgmklcaa.PCover.Cover.mk t_81_id t_81_day t_81_zone t_81_grams t_81_paid t_81_from_ t_81_to_ t_81_leave t_76) (.int .i64 t_76) lt_81 (by decide) rfl; rw [es_] at e0_; have e_ : ([(k0 * 9 + 8, .int .i64 t_76)] : List (Nat × Value)).foldl (fun xs p => xs.set p.1 p.2) (Go.Proofs.Ytlljmgphgmklcaa.PCover.flat l74_74) = (Go.Proofs.Ytlljmgphgmklcaa.PCover.flat l83_83) := (by rw [← hl83_83]; show _ = List.flatMap Go.Proofs.Ytlljmgphgmklcaa.PCover.Cover.cells _; first | (rw [← e0_]; first | done | rfl)); rw [← hwl83_83, ← e_]; exact Sl83_83.out.1)
      have Gl83_83 : Hid (wl74_74.grownBy wl83_83 (Value.slice (some ⟨qt_9, 0, none⟩) a.length c0).ownBlock) := Lib.hid (by rw [← hwl83_83]; exact Sl83_83.out.2)
      have HBwl83_83 := Lib.hid (Aid.grown_tr HBwl74_74.out Gl83_83.out)
      have hhl83_83 := Lib.hid hl83_83
      clear hl83_83 Sl83_83
      clear Pl74_74 Gl83_83
      replace H := let_hid H
      obtain ⟨t_85, ht_85, H⟩ := H
      replace H := app_hid H
      go_wp2_with fail
      clear z0l11_11 ct_9_0 ct_9_1 ct_9_2 ct_9_3 ct_9_4 ct_9_5 ct_9_6 ct_9_7 ct_9_8 z0l20_20 ct_18_0 ct_18_1 ct_18_2 ct_18_3 ct_18_4 ct_18_5 ct_18_6 ct_18_7 ct_18_8 z0l29_29 ct_27_0 ct_27_1 ct_27_2 ct_27_3 ct_27_4 ct_27_5 ct_27_6 ct_27_7 ct_27_8 z0l38_38 ct_36_0 ct_36_1 ct_36_2 ct_36_3 ct_36_4 ct_36_5 ct_36_6 ct_36_7 ct_36_8 z0l47_47 ct_45_0 ct_45_1 ct_45_2 ct_45_3 ct_45_4 ct_45_5 ct_45_6 ct_45_7 ct_45_8 z0l56_56 ct_54_0 ct_54_1 ct_54_2 ct_54_3 ct_54_4 ct_54_5 ct_54_6 ct_54_7 ct_54_8 z0l65_65 ct_63_0 ct_63_1 ct_63_2 ct_63_3 ct_63_4 ct_63_5 ct_63_6 ct_63_7 ct_63_8 z0l74_74 ct_72_0 ct_72_1 ct_72_2 ct_72_3 ct_72_4 ct_72_5 ct_72_6 ct_72_7 ct_72_8 z0l83_83 ct_81_0 ct_81_1 ct_81_2 ct_81_3 ct_81_4 ct_81_5 ct_81_6 ct_81_7 ct_81_8
      go_roundg m0
      case measure => omega
      case rel => exact ⟨k0 + 1, _, _, by omega, by go_num, rfl, H, HBwl83_83, Pl83_83, Lib.hid (nl83_83.out)⟩
end Go.Proofs.Ytlljmgphgmklcaa.GlMarkCoverS

