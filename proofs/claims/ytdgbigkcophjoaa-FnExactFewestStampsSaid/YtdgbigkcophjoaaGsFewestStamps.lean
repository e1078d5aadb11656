/- loop.example/g01062/spec.FewestStamps as a plain function, and the contract of the program's: where the plain one has an answer, the program has it. Conditions: slices read as lists. -/
import Derived.Test.YtdgbigkcophjoaaChecked
import Derived.Test.YtdgbigkcophjoaaGoM
import Derived.Test.YtdgbigkcophjoaaGoRStamp
import Derived.Test.YtdgbigkcophjoaaHelpInt
import Derived.Test.YtdgbigkcophjoaaHelpStamp
import Derived.Test.YtdgbigkcophjoaaGsL2Stamps
import Derived.Test.YtdgbigkcophjoaaGsL1In
import Derived.Test.YtdgbigkcophjoaaGsL2Year
import Derived.Test.YtdgbigkcophjoaaGsL2Needed
import Derived.Test.YtdgbigkcophjoaaGsL2Rest
import Derived.WalkKit
import Derived.WalkSpells
import Derived.WalkLawsBesides
import Derived.BigQuiet
import Derived.OwnWalk
import Derived.Deep.LoopGhost
import Derived.Deep.QuietTactic
import Derived.IntWalk
import Derived.Lib.QuietBelow
namespace Go.Proofs.Ytdgbigkcophjoaa.GsFewestStamps
set_option linter.unusedVariables false
set_option linter.unusedSimpArgs false
open Go.RowKit
open Go.Proofs.Ytdgbigkcophjoaa.Rowed Go.Proofs.Ytdgbigkcophjoaa.Turn Go.Proofs.Ytdgbigkcophjoaa.Aid Go.Proofs.Ytdgbigkcophjoaa.GoP Go.Proofs.Ytdgbigkcophjoaa.GoM

def l0 (list : (List Go.Proofs.Ytdgbigkcophjoaa.PlainStamp.St)) (year : Int) (fuel : Nat) (t_23 : (List Int)) (s : Int × (List Int) × Int) (nx0 bk0 : Int × (List Int) × Int → Option ((List Int) × Bool)) : Option ((List Int) × Bool) :=
  unp3 s fun rate_1l0 out_8l0 from_10l0 =>
  letK (decide (0 < rate_1l0)) fun (t_35 : Bool) =>
  iteK t_35
  (Option.bind (idx list from_10l0) fun (yt_38 : Go.Proofs.Ytdgbigkcophjoaa.PlainStamp.St) =>
  unStamp yt_38 fun (t_38_id : Int) (t_38_face : Int) (t_38_color : Int) (t_38_year : Int) =>
  letK (decide (0 < t_38_face)) fun (t_44 : Bool) =>
  joinK (fun (t_50 : Bool) =>
  joinK (fun (t_56 : Bool) =>
  joinK (fun (t_72 : Bool) =>
  iteK t_72
  (guardK (out_8l0.length ≤ 1099511627776) <|
  letK (out_8l0 ++ [from_10l0]) fun (t_76 : (List Int)) =>
  letK (IntKind.i64.wrap (rate_1l0 - t_38_face)) fun (t_81 : Int) =>
  appK nx0 (t_81, t_76, from_10l0))
  (letK (IntKind.i64.wrap (from_10l0 + 1)) fun (t_84 : Int) =>
  appK nx0 (rate_1l0, out_8l0, t_84))) fun jt_72 => iteK t_56 (guardK ((0 : Int) ≤ from_10l0 ∧ (from_10l0 : Int) ≤ (list.length : Int)) <|
  letK (List.drop (Int.toNat from_10l0) list) fun (t_60 : (List Go.Proofs.Ytdgbigkcophjoaa.PlainStamp.St)) =>
  Option.bind (idx t_23 rate_1l0) fun (yt_63 : Int) =>
  letK (IntKind.i64.wrap (yt_63 - 1)) fun (t_65 : Int) =>
  letK (IntKind.i64.wrap (rate_1l0 - t_38_face)) fun (t_69 : Int) =>
  Option.bind (Go.Proofs.Ytdgbigkcophjoaa.GsL2Rest.P fuel t_60 t_65 t_69 year) fun (t_71 : Bool) =>
  appK jt_72 t_71) (appK jt_72 false)) fun jt_56 => iteK t_50 (letK (decide (t_38_year ≤ year)) fun (t_55 : Bool) =>
  appK jt_56 t_55) (appK jt_56 false)) fun jt_50 => iteK t_44 (letK (decide (t_38_face ≤ rate_1l0)) fun (t_49 : Bool) =>
  appK jt_50 t_49) (appK jt_50 false))
  (appK bk0 (rate_1l0, out_8l0, from_10l0))

def e0  (s : Int × (List Int) × Int) : Option ((List Int) × Bool) :=
  unp3 s fun rate_1l0 out_8l0 from_10l0 =>
  some (out_8l0, true)

def P (fuel : Nat) (list : (List Go.Proofs.Ytdgbigkcophjoaa.PlainStamp.St)) (rate : Int) (year : Int) : Option ((List Int) × Bool) :=
  Option.bind (Go.Proofs.Ytdgbigkcophjoaa.GsL2Stamps.P list) fun (t_5 : Bool) =>
  letK (!t_5) fun (t_6 : Bool) =>
  joinK (fun (t_11 : Bool) =>
  joinK (fun (t_16 : Bool) =>
  iteK t_16
  (some (([] : List Int), false))
  (Option.bind (Go.Proofs.Ytdgbigkcophjoaa.GsL2Needed.P fuel list rate year) fun (t_23 : (List Int)) =>
  Option.bind (idx t_23 rate) fun (yt_27 : Int) =>
  letK (decide (40 < yt_27)) fun (t_29 : Bool) =>
  iteK t_29
  (some (([] : List Int), false))
  (loopK (l0 list year fuel t_23) fuel (rate, ([] : List Int), 0) (e0 )))) fun jt_16 => iteK t_11 (appK jt_16 true) (Option.bind (Go.Proofs.Ytdgbigkcophjoaa.GsL2Year.P year) fun (t_14 : Bool) =>
  letK (!t_14) fun (t_15 : Bool) =>
  appK jt_16 t_15)) fun jt_11 => iteK t_6 (appK jt_11 true) (Option.bind (Go.Proofs.Ytdgbigkcophjoaa.GsL1In.P rate 1 2000) fun (t_9 : Bool) =>
  letK (!t_9) fun (t_10 : Bool) =>
  appK jt_11 t_10)

set_option maxRecDepth 100000 in
set_option maxHeartbeats 2000000 in
theorem C (fuel : Nat) (list : (List Go.Proofs.Ytdgbigkcophjoaa.PlainStamp.St)) (rate : Int) (year : Int) (A0 : Option Addr) (c0 : Nat)  (w : World) (M0 : Hid (Cells w 4 A0 list.length (Go.Proofs.Ytdgbigkcophjoaa.PlainStamp.flat list))) (N0 : Hid (list.length ≤ 9223372036854775807)) (Q0 : Hid (Room A0 list.length c0))  {r0 : (List Int)} {r1 : Bool} (H : Hid (P fuel list rate year = some (r0, r1))) :
    Calls Try.prog 21 #[.slice A0 list.length c0, .int .i64 rate, .int .i64 year] w (fun e w' => ∃ A_r0 c_r0, e = .returned (.tuple #[.slice A_r0 r0.length c_r0, .bool r1]) ∧ w'.ownsRow w.heap.size 3 1 (.slice A_r0 r0.length c_r0) r0.length (Go.Proofs.Ytdgbigkcophjoaa.HelpInt.iv r0) ∧ Below w.heap.size w w') := by
  have HB := Lib.hid (Below.refl w.heap.size w)
  unfold P at H
  have N0o := N0.out
  obtain ⟨i0_73, hi_73, hz0_73, hz1_73, hz2_73⟩ := Aid.info_parts (P := Try.prog) (T := 73) (z := .agg #[.int .i64 0, .int .i64 0, .int .i64 0, .int .i64 0]) (s := 4) (b := 32) (by kernel_rfl)
  obtain ⟨i0_3, hi_3, hz0_3, hz1_3, hz2_3⟩ := Aid.info_parts (P := Try.prog) (T := 3) (z := .int .i64 0) (s := 1) (b := 8) (by kernel_rfl)
  go_enter Try.func21, Try.ntmps21
  obtain ⟨w_t_2, hw_t_2⟩ : ∃ x, w.alloc (.cells #[] 3) = x := ⟨_, rfl⟩
  have bw_t_2 : Below w.heap.size w w_t_2 := by rw [← hw_t_2]; exact (Below.refl _ _).alloc (Nat.le_refl _) _
  have Ot_2 : Hid (w_t_2.ownsRow w.heap.size 3 1 (.slice (some ⟨w.heap.size, 0, none⟩) 0 0) 0 []) := Lib.hid (by rw [← hw_t_2]; exact own_empty HB.out.size)
  have HBw_t_2 := Lib.hid (Below.step HB.out bw_t_2)
  clear bw_t_2
  replace H := bind_hid H
  obtain ⟨t_5, qt_5, H⟩ := H
  go_wp2_with fail
  go_at_call 61
  refine (Go.Proofs.Ytdgbigkcophjoaa.GsL2Stamps.C (list) A0 c0 _   (Lib.hid (Cells.below M0.out HBw_t_2.out)) N0 qt_5).mono ?_
  rintro e_t_5 wt_5 ⟨rfl, bt_5⟩
  have HBwt_5 := Lib.hid (Below.step HBw_t_2.out bt_5)
  replace Ot_2 := Lib.hid (own_below Ot_2.out bt_5)
  clear bt_5
  cases t_5 with
  | false =>
    replace H := let_hid H
    obtain ⟨t_6, ht_6, H⟩ := H
    obtain rfl : t_6 = true := ht_6.symm
    replace H := join_hid H
    replace H := ite_t H
    replace H := app_hid H
    replace H := join_hid H
    replace H := ite_t H
    replace H := app_hid H
    replace H := ite_t H
    cases ret_hid H
    go_wp2_with fail
    go_ret2
    exact ⟨(some ⟨w.heap.size, 0, none⟩), 0, rfl, Ot_2.out, HBwt_5.out⟩
  | true =>
    replace H := let_hid H
    obtain ⟨t_6, ht_6, H⟩ := H
    obtain rfl : t_6 = false := ht_6.symm
    replace H := join_hid H
    replace H := ite_f H
    replace H := bind_hid H
    obtain ⟨t_9, qt_9, H⟩ := H
    go_wp2_with fail
    go_at_call 67
    refine (Go.Proofs.Ytdgbigkcophjoaa.GsL1In.C (rate) (1) (2000)  _    qt_9).mono ?_
    rintro e_t_9 wt_9 ⟨rfl, bt_9⟩
    have HBwt_9 := Lib.hid (Below.step HBwt_5.out bt_9)
    replace Ot_2 := Lib.hid (own_below Ot_2.out bt_9)
    clear bt_9
    cases t_9 with
    | false =>
      replace H := let_hid H
      obtain ⟨t_10, ht_10, H⟩ := H
      obtain rfl : t_10 = true := ht_10.symm
      replace H := app_hid H
      replace H := join_hid H
      replace H := ite_t H
      replace H := app_hid H
      replace H := ite_t H
      cases ret_hid H
      go_wp2_with fail
      go_ret2
      exact ⟨(some ⟨w.heap.size, 0, none⟩), 0, rfl, Ot_2.out, HBwt_9.out⟩
    | true =>
      replace H := let_hid H
      obtain ⟨t_10, ht_10, H⟩ := H
      obtain rfl : t_10 = false := ht_10.symm
      replace H := app_hid H
      replace H := join_hid H
      replace H := ite_f H
      replace H := bind_hid H
      obtain ⟨t_14, qt_14, H⟩ := H
      go_wp2_with fail
      go_at_call 68
      refine (Go.Proofs.Ytdgbigkcophjoaa.GsL2Year.C (year)  _    qt_14).mono ?_
      rintro e_t_14 wt_14 ⟨rfl, bt_14⟩
      have HBwt_14 := Lib.hid (Below.step HBwt_9.out bt_14)
      replace Ot_2 := Lib.hid (own_below Ot_2.out bt_14)
      clear bt_14
      cases t_14 with
      | false =>
        replace H := let_hid H
        obtain ⟨t_15, ht_15, H⟩ := H
        obtain rfl : t_15 = true := ht_15.symm
        replace H := app_hid H
        replace H := ite_t H
        cases ret_hid H
        go_wp2_with fail
        go_ret2
        exact ⟨(some ⟨w.heap.size, 0, none⟩), 0, rfl, Ot_2.out, HBwt_14.out⟩
      | true =>
        replace H := let_hid H
        obtain ⟨t_15, ht_15, H⟩ := H
        obtain rfl : t_15 = false := ht_15.symm
        replace H := app_hid H
        replace H := ite_f H
        replace H := bind_hid H
        obtain ⟨t_23, qt_23, H⟩ := H
        go_wp2_with fail
        go_at_call 69
        refine (Go.Proofs.Ytdgbigkcophjoaa.GsL2Needed.C fuel (list) (rate) (year) A0 c0 _   (Lib.hid (Cells.below M0.out HBwt_14.out)) N0 qt_23).mono ?_
        rintro e_t_23 wt_23 ⟨At_23, ct_23, rfl, ot_23, bt_23⟩
        have Dt_23_t_2 := Lib.hid (apart_call ot_23 Ot_2.out)
        have Ot_23 := Lib.hid (own_lower ot_23 HBwt_14.out.size)
        clear ot_23
        have HBwt_23 := Lib.hid (Below.step HBwt_14.out bt_23)
        replace Ot_2 := Lib.hid (own_below Ot_2.out bt_23)
        clear bt_23
        replace H := idx_hid H
        obtain ⟨nt_27, yt_27, et_27, lt_27, gt_27, H⟩ := H
        subst et_27
        obtain ⟨qt_27, Qt_27⟩ := own_some Ot_23.out (by omega)
        subst Qt_27
        obtain ⟨ab_t_27, ao_t_27, zt_27, At_27, z_t_27, ct_27_0⟩ := Go.Proofs.Ytdgbigkcophjoaa.HelpInt.Ints.at_ (own_cells Ot_23.out) (k := nt_27) (by omega)
        obtain rfl := Option.some.inj (gt_27.out.symm.trans z_t_27)
        simp only [Option.some.injEq, Addr.mk.injEq] at At_27
        obtain ⟨rfl, rfl, _⟩ := At_27
        clear z_t_27
        simp only [Nat.zero_add] at ct_27_0
        have b0t_27 : (0 : Int) ≤ (nt_27 : Int) := by omega
        have b1t_27 : (nt_27 : Int) < ((t_23.length : Nat) : Int) := by omega
        have b2t_27 : ((nt_27 : Int)).toNat = nt_27 := by omega
        replace H := let_hid H
        obtain ⟨t_29, ht_29, H⟩ := H
        cases t_29 with
        | false =>
          replace H := ite_f H
          go_wp2_with fail
          go_loopg [1, 8, 10] (fuel) (fun m_ v1_ v8_ v10_ wr => ∃ (rate_1l0 : Int) (out_8l0 : (List Int)) (from_10l0 : Int) (Aout_8l0 : Option Addr) (cout_8l0 : Nat), v1_ = .int .i64 rate_1l0 ∧ v8_ = .slice Aout_8l0 out_8l0.length cout_8l0 ∧ v10_ = .int .i64 from_10l0 ∧ Hid (loopK (l0 list year fuel t_23) m_ (rate_1l0, out_8l0, from_10l0) (e0 ) = some (r0, r1)) ∧ Hid (Below w.heap.size w wr) ∧ Hid (wr.ownsRow w.heap.size 3 1 (.slice Aout_8l0 out_8l0.length cout_8l0) out_8l0.length (Go.Proofs.Ytdgbigkcophjoaa.HelpInt.iv out_8l0)) ∧ Hid (wr.ownsRow w.heap.size 3 1 (.slice (some ⟨qt_27, 0, none⟩) t_23.length ct_23) t_23.length (Go.Proofs.Ytdgbigkcophjoaa.HelpInt.iv t_23)) ∧ Hid (Apart Aout_8l0 (some ⟨qt_27, 0, none⟩)))
          case atStart => exact ⟨_, _, _, _, _, rfl, rfl, rfl, H, HBwt_23, Ot_2, Ot_23, Lib.hid (Apart.symm Dt_23_t_2.out)⟩
          case round =>
            obtain ⟨rate_1l0, out_8l0, from_10l0, Aout_8l0, cout_8l0, rfl, rfl, rfl, H, HBwr0, Oout_8l0, Ot_23, Dout_8l0_t_23⟩ := hrel
            rename World => wr0
            cases gk with
            | zero => exact (loop_zero H).elim
            | succ m0 =>
              replace H := loop_succ H
              unfold l0 at H
              replace H := unp3_hid H
              replace H := let_hid H
              obtain ⟨t_35, ht_35, H⟩ := H
              cases t_35 with
              | false =>
                replace H := ite_f H
                replace H := app_hid H
                unfold e0 at H
                replace H := unp3_hid H
                cases ret_hid H
                go_wp2_with fail
                go_ret2
                exact ⟨Aout_8l0, cout_8l0, rfl, Oout_8l0.out, HBwr0.out⟩
              | true =>
                replace H := ite_t H
                replace H := idx_hid H
                obtain ⟨nt_38, yt_38, et_38, lt_38, gt_38, H⟩ := H
                subst et_38
                obtain ⟨t_38_id, t_38_face, t_38_color, t_38_year⟩ := yt_38
                replace H := unStamp_hid H
                obtain ⟨ab_t_38, ao_t_38, zt_38, At_38, z_t_38, ct_38_0, ct_38_1, ct_38_2, ct_38_3⟩ := Go.Proofs.Ytdgbigkcophjoaa.HelpStamp.Sts.at_ M0.out lt_38
                obtain rfl := Option.some.inj (gt_38.out.symm.trans z_t_38)
                subst At_38
                have ltt_38 := cell_lt ct_38_0
                replace ct_38_0 := cell_below HBwr0.out ct_38_0
                replace ct_38_1 := cell_below HBwr0.out ct_38_1
                replace ct_38_2 := cell_below HBwr0.out ct_38_2
                replace ct_38_3 := cell_below HBwr0.out ct_38_3
                clear z_t_38
                have b0t_38 : (0 : Int) ≤ (nt_38 : Int) := by omega
                have b1t_38 : (nt_38 : Int) < ((list.length : Nat) : Int) := by omega
                have b2t_38 : ((nt_38 : Int)).toNat = nt_38 := by omega
                obtain ⟨w_s_40, hw_s_40⟩ : ∃ x, wr0.alloc (.cells #[.int .i64 t_38_id, .int .i64 t_38_face, .int .i64 t_38_color, .int .i64 t_38_year] 73) = x := ⟨_, rfl⟩
                have bw_s_40 : Below wr0.heap.size wr0 w_s_40 := by rw [← hw_s_40]; exact (Below.refl _ _).alloc (Nat.le_refl _) _
                have Ds_40_t_23 := Lib.hid (apart_fresh Ot_23.out)
                have Ds_40_out_8l0 := Lib.hid (apart_fresh Oout_8l0.out)
                have HBw_s_40 := Lib.hid (Below.step HBwr0.out bw_s_40)
                have ct_38_0__97 := cell_below bw_s_40 ct_38_0
                have ct_38_1__98 := cell_below bw_s_40 ct_38_1
                have ct_38_2__99 := cell_below bw_s_40 ct_38_2
                have ct_38_3__100 := cell_below bw_s_40 ct_38_3
                replace Ot_23 := Lib.hid (own_below Ot_23.out bw_s_40)
                replace Oout_8l0 := Lib.hid (own_below Oout_8l0.out bw_s_40)
                clear bw_s_40
                have ks_40_0 : w_s_40.cell? ⟨wr0.heap.size, 0, none⟩ = some (.int .i64 t_38_id) := by rw [← hw_s_40]; exact box_new _ _ _ 0 _ rfl
                have ks_40_1 : w_s_40.cell? ⟨wr0.heap.size, 1, none⟩ = some (.int .i64 t_38_face) := by rw [← hw_s_40]; exact box_new _ _ _ 1 _ rfl
                have ks_40_2 : w_s_40.cell? ⟨wr0.heap.size, 2, none⟩ = some (.int .i64 t_38_color) := by rw [← hw_s_40]; exact box_new _ _ _ 2 _ rfl
                have ks_40_3 : w_s_40.cell? ⟨wr0.heap.size, 3, none⟩ = some (.int .i64 t_38_year) := by rw [← hw_s_40]; exact box_new _ _ _ 3 _ rfl
                go_wp2_with fail
                clear ct_38_0 ct_38_1 ct_38_2 ct_38_3
                have Hct_38_0__97 := Lib.hid ct_38_0__97
                replace ct_38_0__97 := cell_regrown ct_38_0__97
                have Hct_38_1__98 := Lib.hid ct_38_1__98
                replace ct_38_1__98 := cell_regrown ct_38_1__98
                have Hct_38_2__99 := Lib.hid ct_38_2__99
                replace ct_38_2__99 := cell_regrown ct_38_2__99
                have Hct_38_3__100 := Lib.hid ct_38_3__100
                replace ct_38_3__100 := cell_regrown ct_38_3__100
                have Hks_40_0 := Lib.hid ks_40_0
                replace ks_40_0 := cell_regrown ks_40_0
                have Hks_40_1 := Lib.hid ks_40_1
                replace ks_40_1 := cell_regrown ks_40_1
                have Hks_40_2 := Lib.hid ks_40_2
                replace ks_40_2 := cell_regrown ks_40_2
                have Hks_40_3 := Lib.hid ks_40_3
                replace ks_40_3 := cell_regrown ks_40_3
                replace H := let_hid H
                obtain ⟨t_44, ht_44, H⟩ := H
                replace H := join_hid H
                cases t_44 with
                | false =>
                  replace H := ite_f H
                  replace H := app_hid H
                  replace H := join_hid H
                  replace H := ite_f H
                  replace H := app_hid H
                  replace H := join_hid H
                  replace H := ite_f H
                  replace H := app_hid H
                  refine wp_region_quiet_below (by kernel_rfl) (by kernel_rfl) ?_
                  repeat (go_big_quiet_step (fail))
                  refine wpQuiet_nil ?_
                  intro Y10 hY10
                  replace hY10 := below_class hY10
                  replace ct_38_0__97 := Hct_38_0__97.out
                  clear Hct_38_0__97
                  replace ct_38_1__98 := Hct_38_1__98.out
                  clear Hct_38_1__98
                  replace ct_38_2__99 := Hct_38_2__99.out
                  clear Hct_38_2__99
                  replace ct_38_3__100 := Hct_38_3__100.out
                  clear Hct_38_3__100
                  replace ks_40_0 := Hks_40_0.out
                  clear Hks_40_0
                  replace ks_40_1 := Hks_40_1.out
                  clear Hks_40_1
                  replace ks_40_2 := Hks_40_2.out
                  clear Hks_40_2
                  replace ks_40_3 := Hks_40_3.out
                  clear Hks_40_3
                  have HBY10 := Lib.hid (Below.step HBw_s_40.out hY10)
                  replace ct_38_0__97 := cell_below hY10 ct_38_0__97
                  replace ct_38_1__98 := cell_below hY10 ct_38_1__98
                  replace ct_38_2__99 := cell_below hY10 ct_38_2__99
                  replace ct_38_3__100 := cell_below hY10 ct_38_3__100
                  replace ks_40_0 := cell_below hY10 ks_40_0
                  replace ks_40_1 := cell_below hY10 ks_40_1
                  replace ks_40_2 := cell_below hY10 ks_40_2
                  replace ks_40_3 := cell_below hY10 ks_40_3
                  replace Ot_23 := Lib.hid (own_below Ot_23.out hY10)
                  replace Oout_8l0 := Lib.hid (own_below Oout_8l0.out hY10)
                  clear hY10
                  replace H := ite_f H
                  replace H := let_hid H
                  obtain ⟨t_84, ht_84, H⟩ := H
                  replace H := app_hid H
                  go_wp2_with fail
                  go_roundg m0
                  case measure => omega
                  case rel => exact ⟨_, _, _, _, _, rfl, rfl, rfl, H, HBY10, Oout_8l0, Ot_23, Lib.hid Dout_8l0_t_23.out⟩
                | true =>
                  replace H := ite_t H
                  replace H := let_hid H
                  obtain ⟨t_49, ht_49, H⟩ := H
                  replace H := app_hid H
                  replace H := join_hid H
                  cases t_49 with
                  | false =>
                    replace H := ite_f H
                    replace H := app_hid H
                    replace H := join_hid H
                    replace H := ite_f H
                    replace H := app_hid H
                    refine wp_region_quiet_below (by kernel_rfl) (by kernel_rfl) ?_
                    repeat (go_big_quiet_step (fail))
                    refine wpQuiet_nil ?_
                    intro Y10 hY10
                    replace hY10 := below_class hY10
                    replace ct_38_0__97 := Hct_38_0__97.out
                    clear Hct_38_0__97
                    replace ct_38_1__98 := Hct_38_1__98.out
                    clear Hct_38_1__98
                    replace ct_38_2__99 := Hct_38_2__99.out
                    clear Hct_38_2__99
                    replace ct_38_3__100 := Hct_38_3__100.out
                    clear Hct_38_3__100
                    replace ks_40_0 := Hks_40_0.out
                    clear Hks_40_0
                    replace ks_40_1 := Hks_40_1.out
                    clear Hks_40_1
                    replace ks_40_2 := Hks_40_2.out
                    clear Hks_40_2
                    replace ks_40_3 := Hks_40_3.out
                    clear Hks_40_3
                    have HBY10 := Lib.hid (Below.step HBw_s_40.out hY10)
                    replace ct_38_0__97 := cell_below hY10 ct_38_0__97
                    replace ct_38_1__98 := cell_below hY10 ct_38_1__98
                    replace ct_38_2__99 := cell_below hY10 ct_38_2__99
                    replace ct_38_3__100 := cell_below hY10 ct_38_3__100
                    replace ks_40_0 := cell_below hY10 ks_40_0
                    replace ks_40_1 := cell_below hY10 ks_40_1
                    replace ks_40_2 := cell_below hY10 ks_40_2
                    replace ks_40_3 := cell_below hY10 ks_40_3
                    replace Ot_23 := Lib.hid (own_below Ot_23.out hY10)
                    replace Oout_8l0 := Lib.hid (own_below Oout_8l0.out hY10)
                    clear hY10
                    replace H := ite_f H
                    replace H := let_hid H
                    obtain ⟨t_84, ht_84, H⟩ := H
                    replace H := app_hid H
                    go_wp2_with fail
                    go_roundg m0
                    case measure => omega
                    case rel => exact ⟨_, _, _, _, _, rfl, rfl, rfl, H, HBY10, Oout_8l0, Ot_23, Lib.hid Dout_8l0_t_23.out⟩
                  | true =>
                    replace H := ite_t H
                    replace H := let_hid H
                    obtain ⟨t_55, ht_55, H⟩ := H
                    replace H := app_hid H
                    replace H := join_hid H
                    cases t_55 with
                    | false =>
                      replace H := ite_f H
                      replace H := app_hid H
                      refine wp_region_quiet_below (by kernel_rfl) (by kernel_rfl) ?_
                      repeat (go_big_quiet_step (fail))
                      refine wpQuiet_nil ?_
                      intro Y10 hY10
                      replace hY10 := below_class hY10
                      replace ct_38_0__97 := Hct_38_0__97.out
                      clear Hct_38_0__97
                      replace ct_38_1__98 := Hct_38_1__98.out
                      clear Hct_38_1__98
                      replace ct_38_2__99 := Hct_38_2__99.out
                      clear Hct_38_2__99
                      replace ct_38_3__100 := Hct_38_3__100.out
                      clear Hct_38_3__100
                      replace ks_40_0 := Hks_40_0.out
                      clear Hks_40_0
                      replace ks_40_1 := Hks_40_1.out
                      clear Hks_40_1
                      replace ks_40_2 := Hks_40_2.out
                      clear Hks_40_2
                      replace ks_40_3 := Hks_40_3.out
                      clear Hks_40_3
                      have HBY10 := Lib.hid (Below.step HBw_s_40.out hY10)
                      replace ct_38_0__97 := cell_below hY10 ct_38_0__97
                      replace ct_38_1__98 := cell_below hY10 ct_38_1__98
                      replace ct_38_2__99 := cell_below hY10 ct_38_2__99
                      replace ct_38_3__100 := cell_below hY10 ct_38_3__100
                      replace ks_40_0 := cell_below hY10 ks_40_0
                      replace ks_40_1 := cell_below hY10 ks_40_1
                      replace ks_40_2 := cell_below hY10 ks_40_2
                      replace ks_40_3 := cell_below hY10 ks_40_3
                      replace Ot_23 := Lib.hid (own_below Ot_23.out hY10)
                      replace Oout_8l0 := Lib.hid (own_below Oout_8l0.out hY10)
                      clear hY10
                      replace H := ite_f H
                      replace H := let_hid H
                      obtain ⟨t_84, ht_84, H⟩ := H
                      replace H := app_hid H
                      go_wp2_with fail
                      go_roundg m0
                      case measure => omega
                      case rel => exact ⟨_, _, _, _, _, rfl, rfl, rfl, H, HBY10, Oout_8l0, Ot_23, Lib.hid Dout_8l0_t_23.out⟩
                    | true =>
                      replace H := ite_t H
                      replace H := guard_hid H
                      obtain ⟨hl_t_60, H⟩ := H
                      replace H := let_hid H
                      obtain ⟨t_60, ht_60, H⟩ := H
                      have dt_60 : ((Go.Proofs.Ytdgbigkcophjoaa.PlainStamp.flat list)).drop (Int.toNat (nt_38 : Int) * 4) = (Go.Proofs.Ytdgbigkcophjoaa.PlainStamp.flat t_60) := by
                        rw [← ht_60]
                        exact flat_drop Go.Proofs.Ytdgbigkcophjoaa.PlainStamp.St.cells 4 (fun _ => rfl) _ _
                      have nt_60 : list.length - Int.toNat (nt_38 : Int) = t_60.length := by rw [← ht_60, List.length_drop]
                      obtain ⟨At_60, ct_60, rt_60, Mt_60, Qt_60⟩ := slice_tail (P := Try.prog) (t := 25) (e := 73) (k := .i64) (by kernel_rfl) (by kernel_rfl) hi_73 hz1_73 M0.out Q0.out hl_t_60 nt_60 dt_60
                      have Nt_60 : Hid (t_60.length ≤ 9223372036854775807) := Lib.hid (by have := N0.out; omega)
                      replace Mt_60 := Lib.hid Mt_60
                      replace Qt_60 := Lib.hid Qt_60
                      clear dt_60 nt_60 hl_t_60
                      have hht_60 := Lib.hid ht_60
                      clear ht_60
                      have Not_60 := Nt_60.out
                      replace H := idx_hid H
                      obtain ⟨nt_63, yt_63, et_63, lt_63, gt_63, H⟩ := H
                      subst et_63
                      have nc_101 : 0 < nt_63 := by have := of_decide_eq_true ht_35; omega
                      obtain ⟨ab_t_63, ao_t_63, zt_63, At_63, z_t_63, ct_63_0⟩ := Go.Proofs.Ytdgbigkcophjoaa.HelpInt.Ints.at_ (own_cells Ot_23.out) (k := nt_63) (by omega)
                      obtain rfl := Option.some.inj (gt_63.out.symm.trans z_t_63)
                      simp only [Option.some.injEq, Addr.mk.injEq] at At_63
                      obtain ⟨rfl, rfl, _⟩ := At_63
                      clear z_t_63
                      simp only [Nat.zero_add] at ct_63_0
                      have b0t_63 : (0 : Int) ≤ (nt_63 : Int) := by omega
                      have b1t_63 : (nt_63 : Int) < ((t_23.length : Nat) : Int) := by omega
                      have b2t_63 : ((nt_63 : Int)).toNat = nt_63 := by omega
                      have Hct_63_0 := Lib.hid ct_63_0
                      replace ct_63_0 := cell_regrown ct_63_0
                      replace H := let_hid H
                      obtain ⟨t_65, ht_65, H⟩ := H
                      replace H := let_hid H
                      obtain ⟨t_69, ht_69, H⟩ := H
                      replace H := bind_hid H
                      obtain ⟨t_71, qt_71, H⟩ := H
                      have nt_71 : ∀ d os, Calls Try.prog 70 #[.slice At_60 t_60.length ct_60, .int .i64 t_65, .int .i64 t_69, .int .i64 year] (Go.Sort.grow (redrawn w_s_40 d) os) fun e w'' => e = .returned (.bool t_71) ∧ ∃ p : Regrown, w'' = Go.Sort.grow (redrawn w_s_40 p.d) p.os := fun d os => Calls.regrown_of (Go.Proofs.Ytdgbigkcophjoaa.GsL2Rest.C fuel (t_60) (t_65) (t_69) (year) At_60 ct_60 _   (Lib.hid (Cells.below (Cells.below Mt_60.out HBw_s_40.out) (below_regrown _ _ _))) Nt_60 qt_71)
                      replace H := app_hid H
                      refine wp_region_quiet_below (by kernel_rfl) (by kernel_rfl) ?_
                      repeat (go_big_quiet_step (first | (go_at_call 70; exact nt_71 _ _)))
                      refine wpQuiet_nil ?_
                      intro Y10 hY10
                      replace hY10 := below_class hY10
                      clear nt_71
                      replace ct_38_0__97 := Hct_38_0__97.out
                      clear Hct_38_0__97
                      replace ct_38_1__98 := Hct_38_1__98.out
                      clear Hct_38_1__98
                      replace ct_38_2__99 := Hct_38_2__99.out
                      clear Hct_38_2__99
                      replace ct_38_3__100 := Hct_38_3__100.out
                      clear Hct_38_3__100
                      replace ks_40_0 := Hks_40_0.out
                      clear Hks_40_0
                      replace ks_40_1 := Hks_40_1.out
                      clear Hks_40_1
                      replace ks_40_2 := Hks_40_2.out
                      clear Hks_40_2
                      replace ks_40_3 := Hks_40_3.out
                      clear Hks_40_3
                      replace ct_63_0 := Hct_63_0.out
                      clear Hct_63_0
                      have HBY10 := Lib.hid (Below.step HBw_s_40.out hY10)
                      replace ct_38_0__97 := cell_below hY10 ct_38_0__97
                      replace ct_38_1__98 := cell_below hY10 ct_38_1__98
                      replace ct_38_2__99 := cell_below hY10 ct_38_2__99
                      replace ct_38_3__100 := cell_below hY10 ct_38_3__100
                      replace ks_40_0 := cell_below hY10 ks_40_0
                      replace ks_40_1 := cell_below hY10 ks_40_1
                      replace ks_40_2 := cell_below hY10 ks_40_2
                      replace ks_40_3 := cell_below hY10 ks_40_3
                      replace ct_63_0 := cell_below hY10 ct_63_0
                      replace Ot_23 := Lib.hid (own_below Ot_23.out hY10)
                      replace Oout_8l0 := Lib.hid (own_below Oout_8l0.out hY10)
                      clear hY10
                      cases t_71 with
                      | false =>
                        replace H := ite_f H
                        replace H := let_hid H
                        obtain ⟨t_84, ht_84, H⟩ := H
                        replace H := app_hid H
                        go_wp2_with fail
                        go_roundg m0
                        case measure => omega
                        case rel => exact ⟨_, _, _, _, _, rfl, rfl, rfl, H, HBY10, Oout_8l0, Ot_23, Lib.hid Dout_8l0_t_23.out⟩
                      | true =>
                        replace H := ite_t H
                        obtain ⟨w_t_75, hw_t_75⟩ : ∃ x, Y10.alloc (.cells #[.int .i64 (nt_38 : Int)] 3) = x := ⟨_, rfl⟩
                        have bw_t_75 : Below Y10.heap.size Y10 w_t_75 := by rw [← hw_t_75]; exact (Below.refl _ _).alloc (Nat.le_refl _) _
                        have HBw_t_75 := Lib.hid (Below.step HBY10.out bw_t_75)
                        have ct_38_0__102 := cell_below bw_t_75 ct_38_0__97
                        have ct_38_1__103 := cell_below bw_t_75 ct_38_1__98
                        have ct_38_2__104 := cell_below bw_t_75 ct_38_2__99
                        have ct_38_3__105 := cell_below bw_t_75 ct_38_3__100
                        have ks_40_0__106 := cell_below bw_t_75 ks_40_0
                        have ks_40_1__107 := cell_below bw_t_75 ks_40_1
                        have ks_40_2__108 := cell_below bw_t_75 ks_40_2
                        have ks_40_3__109 := cell_below bw_t_75 ks_40_3
                        have ct_63_0__110 := cell_below bw_t_75 ct_63_0
                        replace Ot_23 := Lib.hid (own_below Ot_23.out bw_t_75)
                        replace Oout_8l0 := Lib.hid (own_below Oout_8l0.out bw_t_75)
                        clear bw_t_75
                        replace H := guard_hid H
                        obtain ⟨hlt_76, H⟩ := H
                        replace H := let_hid H
                        obtain ⟨t_76, ht_76, H⟩ := H
                        have hht_76 := Lib.hid ht_76
                        clear ht_76
                        have hst_76 := HBw_t_75.out.size
                        go_wp2_with (at_builtin; refine wpList_append_own_at _ rfl _ _ 29 rfl w.heap.size 3 i0_3 (.int .i64 0) 1 8 Try.underlying29 hi_3 hz0_3 hz1_3 hz2_3 rfl (by decide) _ _ _ rfl Oout_8l0.out ⟨Y10.heap.size, 0, none⟩ 1 1 [.int .i64 (nt_38 : Int)] rfl rfl (news_new hw_t_75) (one_cells rfl) (by unfold maxLen; omega) (by omega) hst_76 ?_; intro vt_76 wt_76 ot_76 gt_76 zt_76 yt_76; clear zt_76; obtain ⟨qt_76, ct_76, rfl, pt_76⟩ := own_push hht_76.out (Go.Proofs.Ytdgbigkcophjoaa.HelpInt.iv_snoc _ _) rfl ot_76; have Pt_76 := Lib.hid pt_76; have Yt_76 := Lib.hid yt_76; have Gt_76 := Lib.hid gt_76; clear ot_76 gt_76 pt_76 yt_76; refine stop_in ?_)
                        refine stop_out ?_
                        have HBwt_76 := Lib.hid (HBw_t_75.out.grown Gt_76.out hst_76 (fun q hq => (Oout_8l0.out.lt q hq).1))
                        clear hst_76
                        have Dt_76_t_23 : Hid (Apart (some ⟨qt_76, 0, none⟩) _) := Lib.hid (apart_app Dout_8l0_t_23.out (fun a_ ha_ => (own_lt Ot_23.out a_ ha_).2) Yt_76.out)
                        have Dt_76_s_40 : Hid (Apart (some ⟨qt_76, 0, none⟩) _) := Lib.hid (apart_app (Apart.symm Ds_40_out_8l0.out) (fun a_ ha_ => by cases ha_; exact cell_lt ks_40_0__106) Yt_76.out)
                        replace ct_38_0__102 := cell_other ct_38_0__102 Gt_76.out (apart_old Oout_8l0.out ltt_38)
                        replace ct_38_1__103 := cell_other ct_38_1__103 Gt_76.out (apart_old Oout_8l0.out ltt_38)
                        replace ct_38_2__104 := cell_other ct_38_2__104 Gt_76.out (apart_old Oout_8l0.out ltt_38)
                        replace ct_38_3__105 := cell_other ct_38_3__105 Gt_76.out (apart_old Oout_8l0.out ltt_38)
                        replace ks_40_0__106 := cell_other ks_40_0__106 Gt_76.out (Apart.symm Ds_40_out_8l0.out)
                        replace ks_40_1__107 := cell_other ks_40_1__107 Gt_76.out (Apart.symm Ds_40_out_8l0.out)
                        replace ks_40_2__108 := cell_other ks_40_2__108 Gt_76.out (Apart.symm Ds_40_out_8l0.out)
                        replace ks_40_3__109 := cell_other ks_40_3__109 Gt_76.out (Apart.symm Ds_40_out_8l0.out)
                        replace ct_63_0__110 := cell_other ct_63_0__110 Gt_76.out Dout_8l0_t_23.out
                        replace Ot_23 := Lib.hid (own_other Ot_23.out Gt_76.out Dout_8l0_t_23.out)
                        clear ct_38_0__97 ct_38_1__98 ct_38_2__99 ct_38_3__100 ks_40_0 ks_40_1 ks_40_2 ks_40_3 ct_63_0
                        clear Oout_8l0 Yt_76 Gt_76
                        replace H := let_hid H
                        obtain ⟨t_81, ht_81, H⟩ := H
                        obtain rfl := ht_69.symm.trans ht_81
                        replace H := app_hid H
                        go_wp2_with fail
                        go_roundg m0
                        case measure => omega
                        case rel => exact ⟨_, _, _, _, _, rfl, rfl, rfl, H, HBwt_76, Pt_76, Ot_23, Lib.hid Dt_76_t_23.out⟩
        | true =>
          replace H := ite_t H
          cases ret_hid H
          go_wp2_with fail
          go_ret2
          exact ⟨(some ⟨w.heap.size, 0, none⟩), 0, rfl, Ot_2.out, HBwt_23.out⟩
end Go.Proofs.Ytdgbigkcophjoaa.GsFewestStamps
