/- The texts on which the proof of FnExactRaiseRate stands, one behind the other (4 of 5). No condition of their own. -/
import Derived.Test.YtkinlkmmelkdnaaChecked
import Derived.Test.YtkinlkmmelkdnaaFnExactRaiseRateP1
import Derived.Test.YtkinlkmmelkdnaaFnExactRaiseRateP3
import Derived.WalkKit
import Derived.WalkSpells
import Derived.WalkLawsBesides
import Derived.BigQuiet
import Derived.OwnWalk
import Derived.Deep.LoopGhost
import Derived.Deep.QuietTactic
import Derived.IntWalk
import Derived.Lib.QuietBelow
import Derived.Deep.RegionHeld3
import Derived.Test.YtkinlkmmelkdnaaFnExactRaiseRateP2
/- loop.example/g01062/impl.RaiseRate as a plain function, and the contract of the program's: where the plain one has an answer, the program has it. Conditions: slices read as lists. -/
namespace Go.Proofs.Ytkinlkmmelkdnaa.GiRaiseRate
set_option linter.unusedVariables false
set_option linter.unusedSimpArgs false
open Go.RowKit
open Go.Proofs.Ytkinlkmmelkdnaa.Rowed Go.Proofs.Ytkinlkmmelkdnaa.Turn Go.Proofs.Ytkinlkmmelkdnaa.Aid Go.Proofs.Ytkinlkmmelkdnaa.GoP Go.Proofs.Ytkinlkmmelkdnaa.GoM

def P (list : (List Go.Proofs.Ytkinlkmmelkdnaa.PRate.Rate)) (zone : Int) (grams : Int) (day : Int) (cents : Int) : Option ((List Go.Proofs.Ytkinlkmmelkdnaa.PRate.Rate) × Bool) :=
  Option.bind (Go.Proofs.Ytkinlkmmelkdnaa.GiCanSend.P list zone grams) fun (t_6 : Bool) =>
  letK (!t_6) fun (t_7 : Bool) =>
  joinK (fun (t_12 : Bool) =>
  joinK (fun (t_17 : Bool) =>
  iteK t_17
  (some (([] : List Go.Proofs.Ytkinlkmmelkdnaa.PRate.Rate), false))
  (Option.bind (Go.Proofs.Ytkinlkmmelkdnaa.GxSlicesIndexFuncLoopExampleG01062ImplRateLoopExampleG01062ImplRateiRaiseRate1.P list zone grams day) fun (t_28 : Int) =>
  letK (decide (t_28 < 0)) fun (t_31 : Bool) =>
  joinK (fun (t_40 : Bool) =>
  iteK t_40
  (some (([] : List Go.Proofs.Ytkinlkmmelkdnaa.PRate.Rate), false))
  (Option.bind (idx list t_28) fun (yt_46 : Go.Proofs.Ytkinlkmmelkdnaa.PRate.Rate) =>
  unRate yt_46 fun (t_46_zone : Int) (t_46_grams : Int) (t_46_from_ : Int) (t_46_until_ : Int) (t_46_cents : Int) =>
  Option.bind (idx list t_28) fun (yt_50 : Go.Proofs.Ytkinlkmmelkdnaa.PRate.Rate) =>
  unRate yt_50 fun (t_50_zone : Int) (t_50_grams : Int) (t_50_from_ : Int) (t_50_until_ : Int) (t_50_cents : Int) =>
  letK (IntKind.i64.wrap (day - 1)) fun (t_57 : Int) =>
  guardK ((0 : Int) ≤ t_28 ∧ (t_28 : Int) ≤ (list.length : Int)) <|
  letK (List.take (Int.toNat t_28) list) fun (t_68 : (List Go.Proofs.Ytkinlkmmelkdnaa.PRate.Rate)) =>
  letK ([(Go.Proofs.Ytkinlkmmelkdnaa.PRate.Rate.mk t_46_zone t_46_grams t_46_from_ t_57 t_46_cents), (Go.Proofs.Ytkinlkmmelkdnaa.PRate.Rate.mk t_50_zone t_50_grams day t_50_until_ cents)]) fun (t_71 : (List Go.Proofs.Ytkinlkmmelkdnaa.PRate.Rate)) =>
  letK (IntKind.i64.wrap (t_28 + 1)) fun (t_74 : Int) =>
  guardK ((0 : Int) ≤ t_74 ∧ (t_74 : Int) ≤ (list.length : Int)) <|
  letK (List.drop (Int.toNat t_74) list) fun (t_75 : (List Go.Proofs.Ytkinlkmmelkdnaa.PRate.Rate)) =>
  letK ([t_68, t_71, t_75]) fun (t_76 : (List (List Go.Proofs.Ytkinlkmmelkdnaa.PRate.Rate))) =>
  Option.bind (Go.Proofs.Ytkinlkmmelkdnaa.GxSlicesConcatLoopExampleG01062ImplRateLoopExampleG01062ImplRate.P t_76) fun (t_77 : (List Go.Proofs.Ytkinlkmmelkdnaa.PRate.Rate)) =>
  Option.bind (Go.Proofs.Ytkinlkmmelkdnaa.GiAreRates.P t_77) fun (t_80 : Bool) =>
  letK (!t_80) fun (t_81 : Bool) =>
  iteK t_81
  (some (([] : List Go.Proofs.Ytkinlkmmelkdnaa.PRate.Rate), false))
  (some (t_77, true)))) fun jt_40 => iteK t_31 (appK jt_40 true) (Option.bind (idx list t_28) fun (yt_35 : Go.Proofs.Ytkinlkmmelkdnaa.PRate.Rate) =>
  unRate yt_35 fun (t_35_zone : Int) (t_35_grams : Int) (t_35_from_ : Int) (t_35_until_ : Int) (t_35_cents : Int) =>
  letK (t_35_cents == cents) fun (t_39 : Bool) =>
  appK jt_40 t_39))) fun jt_17 => iteK t_12 (appK jt_17 true) (Option.bind (Go.Proofs.Ytkinlkmmelkdnaa.GiIsRateCents.P cents) fun (t_15 : Bool) =>
  letK (!t_15) fun (t_16 : Bool) =>
  appK jt_17 t_16)) fun jt_12 => iteK t_7 (appK jt_12 true) (Option.bind (Go.Proofs.Ytkinlkmmelkdnaa.GiIsDay.P day) fun (t_10 : Bool) =>
  letK (!t_10) fun (t_11 : Bool) =>
  appK jt_12 t_11)

set_option maxRecDepth 100000 in
set_option maxHeartbeats 2000000 in
theorem C (list : (List Go.Proofs.Ytkinlkmmelkdnaa.PRate.Rate)) (zone : Int) (grams : Int) (day : Int) (cents : Int) (A0 : Option Addr) (c0 : Nat)  (w : World) (M0 : Hid (Cells w 5 A0 list.length (Go.Proofs.Ytkinlkmmelkdnaa.PRate.flat list))) (N0 : Hid (list.length ≤ 9223372036854775807)) (Q0 : Hid (Room A0 list.length c0))  {r0 : (List Go.Proofs.Ytkinlkmmelkdnaa.PRate.Rate)} {r1 : Bool} (H : Hid (P list zone grams day cents = some (r0, r1))) :
    Calls Try.prog 40 #[.slice A0 list.length c0, .int .i64 zone, .int .i64 grams, .int .i64 day, .int .i64 cents] w (fun e w' => ∃ A_r0 c_r0, e = .returned (.tuple #[.slice A_r0 r0.length c_r0, .bool r1]) ∧ w'.ownsRow w.heap.size 25 5 (.slice A_r0 r0.length c_r0) r0.length (Go.Proofs.Ytkinlkmmelkdnaa.PRate.flat r0) ∧ Below w.heap.size w w') := by
  have HB := Lib.hid (Below.refl w.heap.size w)
  unfold P at H
  have N0o := N0.out
  obtain ⟨i0_25, hi_25, hz0_25, hz1_25, hz2_25⟩ := Aid.info_parts (P := Try.prog) (T := 25) (z := .agg #[.int .i64 0, .int .i64 0, .int .i64 0, .int .i64 0, .int .i64 0]) (s := 5) (b := 40) (by kernel_rfl)
  go_enter Try.func40, Try.ntmps40
  obtain ⟨w_day_0, hw_day_0⟩ : ∃ x, w.alloc (.cells #[.int .i64 day] 3) = x := ⟨_, rfl⟩
  have bw_day_0 : Below w.heap.size w w_day_0 := by rw [← hw_day_0]; exact (Below.refl _ _).alloc (Nat.le_refl _) _
  have HBw_day_0 := Lib.hid (Below.step HB.out bw_day_0)
  clear bw_day_0
  have kday_0_0 : w_day_0.cell? ⟨w.heap.size, 0, none⟩ = some (.int .i64 day) := by rw [← hw_day_0]; exact box_new _ _ _ 0 _ rfl
  replace H := bind_hid H
  obtain ⟨t_6, qt_6, H⟩ := H
  go_wp2_with fail
  go_at_call 82
  refine (Go.Proofs.Ytkinlkmmelkdnaa.GiCanSend.C (list) (zone) (grams) A0 c0 _   (Lib.hid (Cells.below M0.out HBw_day_0.out)) N0 qt_6).mono ?_
  rintro e_t_6 wt_6 ⟨rfl, bt_6⟩
  have HBwt_6 := Lib.hid (Below.step HBw_day_0.out bt_6)
  replace kday_0_0 := cell_below bt_6 kday_0_0
  clear bt_6
  cases t_6 with
  | false =>
    replace H := let_hid H
    obtain ⟨t_7, ht_7, H⟩ := H
    obtain rfl : t_7 = true := ht_7.symm
    replace H := join_hid H
    replace H := ite_t H
    replace H := app_hid H
    replace H := join_hid H
    replace H := ite_t H
    replace H := app_hid H
    replace H := ite_t H
    obtain ⟨w_t_18, hw_t_18⟩ : ∃ x, wt_6.alloc (.cells #[] 25) = x := ⟨_, rfl⟩
    have bw_t_18 : Below wt_6.heap.size wt_6 w_t_18 := by rw [← hw_t_18]; exact (Below.refl _ _).alloc (Nat.le_refl _) _
    have Ot_18 : Hid (w_t_18.ownsRow w.heap.size 25 5 (.slice (some ⟨wt_6.heap.size, 0, none⟩) 0 0) 0 []) := Lib.hid (by rw [← hw_t_18]; exact own_empty HBwt_6.out.size)
    have Dt_18_day_0 := Lib.hid (apart_box kday_0_0)
    have HBw_t_18 := Lib.hid (Below.step HBwt_6.out bw_t_18)
    have kday_0_0__1024 := cell_below bw_t_18 kday_0_0
    clear bw_t_18
    cases ret_hid H
    go_wp2_with fail
    go_ret2
    exact ⟨(some ⟨wt_6.heap.size, 0, none⟩), 0, rfl, Ot_18.out, HBw_t_18.out⟩
  | true =>
    replace H := let_hid H
    obtain ⟨t_7, ht_7, H⟩ := H
    obtain rfl : t_7 = false := ht_7.symm
    replace H := join_hid H
    replace H := ite_f H
    replace H := bind_hid H
    obtain ⟨t_10, qt_10, H⟩ := H
    go_wp2_with fail
    go_at_call 74
    refine (Go.Proofs.Ytkinlkmmelkdnaa.GiIsDay.C (day)  _    qt_10).mono ?_
    rintro e_t_10 wt_10 ⟨rfl, bt_10⟩
    have HBwt_10 := Lib.hid (Below.step HBwt_6.out bt_10)
    replace kday_0_0 := cell_below bt_10 kday_0_0
    clear bt_10
    cases t_10 with
    | false =>
      replace H := let_hid H
      obtain ⟨t_11, ht_11, H⟩ := H
      obtain rfl : t_11 = true := ht_11.symm
      replace H := app_hid H
      replace H := join_hid H
      replace H := ite_t H
      replace H := app_hid H
      replace H := ite_t H
      obtain ⟨w_t_18, hw_t_18⟩ : ∃ x, wt_10.alloc (.cells #[] 25) = x := ⟨_, rfl⟩
      have bw_t_18 : Below wt_10.heap.size wt_10 w_t_18 := by rw [← hw_t_18]; exact (Below.refl _ _).alloc (Nat.le_refl _) _
      have Ot_18 : Hid (w_t_18.ownsRow w.heap.size 25 5 (.slice (some ⟨wt_10.heap.size, 0, none⟩) 0 0) 0 []) := Lib.hid (by rw [← hw_t_18]; exact own_empty HBwt_10.out.size)
      have Dt_18_day_0 := Lib.hid (apart_box kday_0_0)
      have HBw_t_18 := Lib.hid (Below.step HBwt_10.out bw_t_18)
      have kday_0_0__1025 := cell_below bw_t_18 kday_0_0
      clear bw_t_18
      cases ret_hid H
      go_wp2_with fail
      go_ret2
      exact ⟨(some ⟨wt_10.heap.size, 0, none⟩), 0, rfl, Ot_18.out, HBw_t_18.out⟩
    | true =>
      replace H := let_hid H
      obtain ⟨t_11, ht_11, H⟩ := H
      obtain rfl : t_11 = false := ht_11.symm
      replace H := app_hid H
      replace H := join_hid H
      replace H := ite_f H
      replace H := bind_hid H
      obtain ⟨t_15, qt_15, H⟩ := H
      go_wp2_with fail
      go_at_call 73
      refine (Go.Proofs.Ytkinlkmmelkdnaa.GiIsRateCents.C (cents)  _    qt_15).mono ?_
      rintro e_t_15 wt_15 ⟨rfl, bt_15⟩
      have HBwt_15 := Lib.hid (Below.step HBwt_10.out bt_15)
      replace kday_0_0 := cell_below bt_15 kday_0_0
      clear bt_15
      cases t_15 with
      | false =>
        replace H := let_hid H
        obtain ⟨t_16, ht_16, H⟩ := H
        obtain rfl : t_16 = true := ht_16.symm
        replace H := app_hid H
        replace H := ite_t H
        obtain ⟨w_t_18, hw_t_18⟩ : ∃ x, wt_15.alloc (.cells #[] 25) = x := ⟨_, rfl⟩
        have bw_t_18 : Below wt_15.heap.size wt_15 w_t_18 := by rw [← hw_t_18]; exact (Below.refl _ _).alloc (Nat.le_refl _) _
        have Ot_18 : Hid (w_t_18.ownsRow w.heap.size 25 5 (.slice (some ⟨wt_15.heap.size, 0, none⟩) 0 0) 0 []) := Lib.hid (by rw [← hw_t_18]; exact own_empty HBwt_15.out.size)
        have Dt_18_day_0 := Lib.hid (apart_box kday_0_0)
        have HBw_t_18 := Lib.hid (Below.step HBwt_15.out bw_t_18)
        have kday_0_0__1026 := cell_below bw_t_18 kday_0_0
        clear bw_t_18
        cases ret_hid H
        go_wp2_with fail
        go_ret2
        exact ⟨(some ⟨wt_15.heap.size, 0, none⟩), 0, rfl, Ot_18.out, HBw_t_18.out⟩
      | true =>
        replace H := let_hid H
        obtain ⟨t_16, ht_16, H⟩ := H
        obtain rfl : t_16 = false := ht_16.symm
        replace H := app_hid H
        replace H := ite_f H
        obtain ⟨w_class_24, hw_class_24⟩ : ∃ x, wt_15.alloc (.cells #[.int .i64 zone, .int .i64 grams] 95) = x := ⟨_, rfl⟩
        have bw_class_24 : Below wt_15.heap.size wt_15 w_class_24 := by rw [← hw_class_24]; exact (Below.refl _ _).alloc (Nat.le_refl _) _
        have HBw_class_24 := Lib.hid (Below.step HBwt_15.out bw_class_24)
        have kday_0_0__1027 := cell_below bw_class_24 kday_0_0
        clear bw_class_24
        have kclass_24_0 : w_class_24.cell? ⟨wt_15.heap.size, 0, none⟩ = some (.int .i64 zone) := by rw [← hw_class_24]; exact box_new _ _ _ 0 _ rfl
        have kclass_24_1 : w_class_24.cell? ⟨wt_15.heap.size, 1, none⟩ = some (.int .i64 grams) := by rw [← hw_class_24]; exact box_new _ _ _ 1 _ rfl
        replace H := bind_hid H
        obtain ⟨t_28, qt_28, H⟩ := H
        go_wp2_with fail
        clear kday_0_0
        go_at_call 89
        refine (Go.Proofs.Ytkinlkmmelkdnaa.GxSlicesIndexFuncLoopExampleG01062ImplRateLoopExampleG01062ImplRateiRaiseRate1.C (list) (zone) (grams) (day) A0 c0 (wt_15.heap.size) (w.heap.size) _   (Lib.hid (Cells.below M0.out HBw_class_24.out)) N0 (Lib.hid kclass_24_0) (Lib.hid kclass_24_1) (Lib.hid kday_0_0__1027) qt_28).mono ?_
        rintro e_t_28 wt_28 ⟨rfl, bt_28⟩
        have HBwt_28 := Lib.hid (Below.step HBw_class_24.out bt_28)
        replace kday_0_0__1027 := cell_below bt_28 kday_0_0__1027
        replace kclass_24_0 := cell_below bt_28 kclass_24_0
        replace kclass_24_1 := cell_below bt_28 kclass_24_1
        clear bt_28
        replace H := let_hid H
        obtain ⟨t_31, ht_31, H⟩ := H
        replace H := join_hid H
        cases t_31 with
        | false =>
          replace H := ite_f H
          replace H := idx_hid H
          obtain ⟨nt_35, yt_35, et_35, lt_35, gt_35, H⟩ := H
          subst et_35
          have nc_1028 : ¬ (nt_35 < 0) := by have := of_decide_eq_false ht_31; omega
          obtain ⟨t_35_zone, t_35_grams, t_35_from_, t_35_until_, t_35_cents⟩ := yt_35
          replace H := unRate_hid H
          obtain ⟨ab_t_35, ao_t_35, zt_35, At_35, z_t_35, ct_35_0, ct_35_1, ct_35_2, ct_35_3, ct_35_4⟩ := Go.Proofs.Ytkinlkmmelkdnaa.ORate.at_ M0.out lt_35
          obtain rfl := Option.some.inj (gt_35.out.symm.trans z_t_35)
          subst At_35
          have ltt_35 := cell_lt ct_35_0
          replace ct_35_0 := cell_below HBwt_28.out ct_35_0
          replace ct_35_1 := cell_below HBwt_28.out ct_35_1
          replace ct_35_2 := cell_below HBwt_28.out ct_35_2
          replace ct_35_3 := cell_below HBwt_28.out ct_35_3
          replace ct_35_4 := cell_below HBwt_28.out ct_35_4
          clear z_t_35
          have b0t_35 : (0 : Int) ≤ (nt_35 : Int) := by omega
          have b1t_35 : (nt_35 : Int) < ((list.length : Nat) : Int) := by omega
          have b2t_35 : ((nt_35 : Int)).toNat = nt_35 := by omega
          replace H := let_hid H
          obtain ⟨t_39, ht_39, H⟩ := H
          replace H := app_hid H
          cases t_39 with
          | false =>
            replace H := ite_f H
            go_wp2_with fail
            have bd7 : Below wt_28.heap.size wt_28 wt_28.drew := (Below.refl _ _).drew
            have HBwt_28.drew := Lib.hid (Below.step HBwt_28.out bd7)
            replace kday_0_0__1027 := cell_below bd7 kday_0_0__1027
            replace kclass_24_0 := cell_below bd7 kclass_24_0
            replace kclass_24_1 := cell_below bd7 kclass_24_1
            replace ct_35_0 := cell_below bd7 ct_35_0
            replace ct_35_1 := cell_below bd7 ct_35_1
            replace ct_35_2 := cell_below bd7 ct_35_2
            replace ct_35_3 := cell_below bd7 ct_35_3
            replace ct_35_4 := cell_below bd7 ct_35_4
            clear bd7
            replace H := idx_hid H
            obtain ⟨nt_46, yt_46, et_46, lt_46, gt_46, H⟩ := H
            obtain rfl : nt_35 = nt_46 := by omega
            clear et_46
            obtain rfl := Option.some.inj (gt_35.out.symm.trans gt_46.out)
            clear gt_46 lt_46
            replace H := unRate_hid H
            replace H := idx_hid H
            obtain ⟨nt_50, yt_50, et_50, lt_50, gt_50, H⟩ := H
            obtain rfl : nt_35 = nt_50 := by omega
            clear et_50
            obtain rfl := Option.some.inj (gt_35.out.symm.trans gt_50.out)
            clear gt_50 lt_50
            replace H := unRate_hid H
            obtain ⟨w_earlier_52_p1094, hw_earlier_52_p1094⟩ : ∃ x, wt_28.drew.alloc (.cells #[.int .i64 0, .int .i64 0, .int .i64 0, .int .i64 0, .int .i64 0] 25) = x := ⟨_, rfl⟩
            have bw_earlier_52_p1094 : Below wt_28.drew.heap.size wt_28.drew w_earlier_52_p1094 := by rw [← hw_earlier_52_p1094]; exact (Below.refl _ _).alloc (Nat.le_refl _) _
            have Dearlier_52_day_0_p1094 := Lib.hid (apart_box kday_0_0__1027)
            have Dearlier_52_class_24_p1094 := Lib.hid (apart_box kclass_24_0)
            have HBw_earlier_52_p1094 := Lib.hid (Below.step HBwt_28.drew.out bw_earlier_52_p1094)
            have kday_0_0__1086_p1094 := cell_below bw_earlier_52_p1094 kday_0_0__1027
            have kclass_24_0__1087_p1094 := cell_below bw_earlier_52_p1094 kclass_24_0
            have kclass_24_1__1088_p1094 := cell_below bw_earlier_52_p1094 kclass_24_1
            have ct_35_0__1089_p1094 := cell_below bw_earlier_52_p1094 ct_35_0
            have ct_35_1__1090_p1094 := cell_below bw_earlier_52_p1094 ct_35_1
            have ct_35_2__1091_p1094 := cell_below bw_earlier_52_p1094 ct_35_2
            have ct_35_3__1092_p1094 := cell_below bw_earlier_52_p1094 ct_35_3
            have ct_35_4__1093_p1094 := cell_below bw_earlier_52_p1094 ct_35_4
            have kearlier_52_0_p1094 : w_earlier_52_p1094.cell? ⟨wt_28.heap.size, 0, none⟩ = some (.int .i64 0) := by rw [← hw_earlier_52_p1094]; exact box_new _ _ _ 0 _ rfl
            have kearlier_52_1_p1094 : w_earlier_52_p1094.cell? ⟨wt_28.heap.size, 1, none⟩ = some (.int .i64 0) := by rw [← hw_earlier_52_p1094]; exact box_new _ _ _ 1 _ rfl
            have kearlier_52_2_p1094 : w_earlier_52_p1094.cell? ⟨wt_28.heap.size, 2, none⟩ = some (.int .i64 0) := by rw [← hw_earlier_52_p1094]; exact box_new _ _ _ 2 _ rfl
            have kearlier_52_3_p1094 : w_earlier_52_p1094.cell? ⟨wt_28.heap.size, 3, none⟩ = some (.int .i64 0) := by rw [← hw_earlier_52_p1094]; exact box_new _ _ _ 3 _ rfl
            have kearlier_52_4_p1094 : w_earlier_52_p1094.cell? ⟨wt_28.heap.size, 4, none⟩ = some (.int .i64 0) := by rw [← hw_earlier_52_p1094]; exact box_new _ _ _ 4 _ rfl
            have Oearlier_52_p1094 : Hid (w_earlier_52_p1094.ownsRow w.heap.size 25 5 (.slice (some ⟨wt_28.heap.size, 0, none⟩) 1 1) 1 [.int .i64 0, .int .i64 0, .int .i64 0, .int .i64 0, .int .i64 0]) := Lib.hid (by rw [← hw_earlier_52_p1094]; exact own_laid (n := 1) HBwt_28.drew.out.size rfl rfl (by unfold maxLen; omega))
            obtain ⟨w_later_53_p1108, hw_later_53_p1108⟩ : ∃ x, w_earlier_52_p1094.alloc (.cells #[.int .i64 0, .int .i64 0, .int .i64 0, .int .i64 0, .int .i64 0] 25) = x := ⟨_, rfl⟩
            have bw_later_53_p1108 : Below w_earlier_52_p1094.heap.size w_earlier_52_p1094 w_later_53_p1108 := by rw [← hw_later_53_p1108]; exact (Below.refl _ _).alloc (Nat.le_refl _) _
            have Dlater_53_day_0_p1108 := Lib.hid (apart_box kday_0_0__1086_p1094)
            have Dlater_53_class_24_p1108 := Lib.hid (apart_box kclass_24_0__1087_p1094)
            have Dlater_53_earlier_52_p1108 := Lib.hid (apart_box kearlier_52_0_p1094)
            have HBw_later_53_p1108 := Lib.hid (Below.step HBw_earlier_52_p1094.out bw_later_53_p1108)
            have kday_0_0__1095_p1108 := cell_below bw_later_53_p1108 kday_0_0__1086_p1094
            have kclass_24_0__1096_p1108 := cell_below bw_later_53_p1108 kclass_24_0__1087_p1094
            have kclass_24_1__1097_p1108 := cell_below bw_later_53_p1108 kclass_24_1__1088_p1094
            have ct_35_0__1098_p1108 := cell_below bw_later_53_p1108 ct_35_0__1089_p1094
            have ct_35_1__1099_p1108 := cell_below bw_later_53_p1108 ct_35_1__1090_p1094
            have ct_35_2__1100_p1108 := cell_below bw_later_53_p1108 ct_35_2__1091_p1094
            have ct_35_3__1101_p1108 := cell_below bw_later_53_p1108 ct_35_3__1092_p1094
            have ct_35_4__1102_p1108 := cell_below bw_later_53_p1108 ct_35_4__1093_p1094
            have kearlier_52_0_p1094__1103_p1108 := cell_below bw_later_53_p1108 kearlier_52_0_p1094
            have kearlier_52_1_p1094__1104_p1108 := cell_below bw_later_53_p1108 kearlier_52_1_p1094
            have kearlier_52_2_p1094__1105_p1108 := cell_below bw_later_53_p1108 kearlier_52_2_p1094
            have kearlier_52_3_p1094__1106_p1108 := cell_below bw_later_53_p1108 kearlier_52_3_p1094
            have kearlier_52_4_p1094__1107_p1108 := cell_below bw_later_53_p1108 kearlier_52_4_p1094
            have Oearlier_52_p1094_p1108 := Lib.hid (own_below Oearlier_52_p1094.out bw_later_53_p1108)
            have klater_53_0_p1108 : w_later_53_p1108.cell? ⟨w_earlier_52_p1094.heap.size, 0, none⟩ = some (.int .i64 0) := by rw [← hw_later_53_p1108]; exact box_new _ _ _ 0 _ rfl
            have klater_53_1_p1108 : w_later_53_p1108.cell? ⟨w_earlier_52_p1094.heap.size, 1, none⟩ = some (.int .i64 0) := by rw [← hw_later_53_p1108]; exact box_new _ _ _ 1 _ rfl
            have klater_53_2_p1108 : w_later_53_p1108.cell? ⟨w_earlier_52_p1094.heap.size, 2, none⟩ = some (.int .i64 0) := by rw [← hw_later_53_p1108]; exact box_new _ _ _ 2 _ rfl
            have klater_53_3_p1108 : w_later_53_p1108.cell? ⟨w_earlier_52_p1094.heap.size, 3, none⟩ = some (.int .i64 0) := by rw [← hw_later_53_p1108]; exact box_new _ _ _ 3 _ rfl
            have klater_53_4_p1108 : w_later_53_p1108.cell? ⟨w_earlier_52_p1094.heap.size, 4, none⟩ = some (.int .i64 0) := by rw [← hw_later_53_p1108]; exact box_new _ _ _ 4 _ rfl
            have Olater_53_p1108 : Hid (w_later_53_p1108.ownsRow w.heap.size 25 5 (.slice (some ⟨w_earlier_52_p1094.heap.size, 0, none⟩) 1 1) 1 [.int .i64 0, .int .i64 0, .int .i64 0, .int .i64 0, .int .i64 0]) := Lib.hid (by rw [← hw_later_53_p1108]; exact own_laid (n := 1) HBw_earlier_52_p1094.out.size rfl rfl (by unfold maxLen; omega))
            obtain ⟨wb54_54_p1127, hwb54_54_p1127⟩ : ∃ x, (((((w_later_53_p1108).setCell ⟨wt_28.heap.size, 0, none⟩ (.int .i64 t_35_zone)).setCell ⟨wt_28.heap.size, 1, none⟩ (.int .i64 t_35_grams)).setCell ⟨wt_28.heap.size, 2, none⟩ (.int .i64 t_35_from_)).setCell ⟨wt_28.heap.size, 3, none⟩ (.int .i64 t_35_until_)).setCell ⟨wt_28.heap.size, 4, none⟩ (.int .i64 t_35_cents) = x := ⟨_, rfl⟩
            have z0b54_54_p1127 := Oearlier_52_p1094_p1108.out.frozenAt 0
            have z1b54_54_p1127 := Oearlier_52_p1094_p1108.out.frozenAt 1
            have z2b54_54_p1127 := Oearlier_52_p1094_p1108.out.frozenAt 2
            have z3b54_54_p1127 := Oearlier_52_p1094_p1108.out.frozenAt 3
            have z4b54_54_p1127 := Oearlier_52_p1094_p1108.out.frozenAt 4
            have Sb54_54_p1127 := Lib.hid (own_stores [(0, .int .i64 t_35_zone), (1, .int .i64 t_35_grams), (2, .int .i64 t_35_from_), (3, .int .i64 t_35_until_), (4, .int .i64 t_35_cents)] Oearlier_52_p1094_p1108.out)
            have Pb54_54_p1127 : Hid (wb54_54_p1127.ownsRow w.heap.size 25 5 (.slice (some ⟨wt_28.heap.size, 0, none⟩) 1 1) 1 [.int .i64 t_35_zone, .int .i64 t_35_grams, .int .i64 t_35_from_, .int .i64 t_35_until_, .int .i64 t_35_cents]) := Lib.hid (by rw [← hwb54_54_p1127]; exact Sb54_54_p1127.out.1)
            have Gb54_54_p1127 : Hid (w_later_53_p1108.grownBy wb54_54_p1127 (Value.slice (some ⟨wt_28.heap.size, 0, none⟩) 1 1).ownBlock) := Lib.hid (by rw [← hwb54_54_p1127]; exact Sb54_54_p1127.out.2)
            have HBwb54_54_p1127 := Lib.hid (HBw_later_53_p1108.out.grown Gb54_54_p1127.out HBw_later_53_p1108.out.size (fun q hq => (Oearlier_52_p1094_p1108.out.lt q hq).1))
            have kday_0_0__1109_p1127 := cell_other kday_0_0__1095_p1108 Gb54_54_p1127.out Dearlier_52_day_0_p1094.out
            have kclass_24_0__1110_p1127 := cell_other kclass_24_0__1096_p1108 Gb54_54_p1127.out Dearlier_52_class_24_p1094.out
            have kclass_24_1__1111_p1127 := cell_other kclass_24_1__1097_p1108 Gb54_54_p1127.out Dearlier_52_class_24_p1094.out
            have ct_35_0__1112_p1127 := cell_other ct_35_0__1098_p1108 Gb54_54_p1127.out (apart_old Oearlier_52_p1094_p1108.out ltt_35)
            have ct_35_1__1113_p1127 := cell_other ct_35_1__1099_p1108 Gb54_54_p1127.out (apart_old Oearlier_52_p1094_p1108.out ltt_35)
            have ct_35_2__1114_p1127 := cell_other ct_35_2__1100_p1108 Gb54_54_p1127.out (apart_old Oearlier_52_p1094_p1108.out ltt_35)
            have ct_35_3__1115_p1127 := cell_other ct_35_3__1101_p1108 Gb54_54_p1127.out (apart_old Oearlier_52_p1094_p1108.out ltt_35)
            have ct_35_4__1116_p1127 := cell_other ct_35_4__1102_p1108 Gb54_54_p1127.out (apart_old Oearlier_52_p1094_p1108.out ltt_35)
            have klater_53_0_p1108__1117_p1127 := cell_other klater_53_0_p1108 Gb54_54_p1127.out (Apart.symm Dlater_53_earlier_52_p1108.out)
            have klater_53_1_p1108__1118_p1127 := cell_other klater_53_1_p1108 Gb54_54_p1127.out (Apart.symm Dlater_53_earlier_52_p1108.out)
            have klater_53_2_p1108__1119_p1127 := cell_other klater_53_2_p1108 Gb54_54_p1127.out (Apart.symm Dlater_53_earlier_52_p1108.out)
            have klater_53_3_p1108__1120_p1127 := cell_other klater_53_3_p1108 Gb54_54_p1127.out (Apart.symm Dlater_53_earlier_52_p1108.out)
            have klater_53_4_p1108__1121_p1127 := cell_other klater_53_4_p1108 Gb54_54_p1127.out (Apart.symm Dlater_53_earlier_52_p1108.out)
            have Olater_53_p1108_p1127 := Lib.hid (own_other Olater_53_p1108.out Gb54_54_p1127.out (Apart.symm Dlater_53_earlier_52_p1108.out))
            have kearlier_52_0_p1094__1122_p1127 : wb54_54_p1127.cell? ⟨wt_28.heap.size, 0, none⟩ = some (.int .i64 t_35_zone) := Pb54_54_p1127.out.cells rfl 0 _ rfl
            have kearlier_52_1_p1094__1123_p1127 : wb54_54_p1127.cell? ⟨wt_28.heap.size, 1, none⟩ = some (.int .i64 t_35_grams) := Pb54_54_p1127.out.cells rfl 1 _ rfl
            have kearlier_52_2_p1094__1124_p1127 : wb54_54_p1127.cell? ⟨wt_28.heap.size, 2, none⟩ = some (.int .i64 t_35_from_) := Pb54_54_p1127.out.cells rfl 2 _ rfl
            have kearlier_52_3_p1094__1125_p1127 : wb54_54_p1127.cell? ⟨wt_28.heap.size, 3, none⟩ = some (.int .i64 t_35_until_) := Pb54_54_p1127.out.cells rfl 3 _ rfl
            have kearlier_52_4_p1094__1126_p1127 : wb54_54_p1127.cell? ⟨wt_28.heap.size, 4, none⟩ = some (.int .i64 t_35_cents) := Pb54_54_p1127.out.cells rfl 4 _ rfl
            obtain ⟨wb55_55_p1146, hwb55_55_p1146⟩ : ∃ x, (((((wb54_54_p1127).setCell ⟨w_earlier_52_p1094.heap.size, 0, none⟩ (.int .i64 t_35_zone)).setCell ⟨w_earlier_52_p1094.heap.size, 1, none⟩ (.int .i64 t_35_grams)).setCell ⟨w_earlier_52_p1094.heap.size, 2, none⟩ (.int .i64 t_35_from_)).setCell ⟨w_earlier_52_p1094.heap.size, 3, none⟩ (.int .i64 t_35_until_)).setCell ⟨w_earlier_52_p1094.heap.size, 4, none⟩ (.int .i64 t_35_cents) = x := ⟨_, rfl⟩
            have z0b55_55_p1146 := Olater_53_p1108_p1127.out.frozenAt 0
            have z1b55_55_p1146 := Olater_53_p1108_p1127.out.frozenAt 1
            have z2b55_55_p1146 := Olater_53_p1108_p1127.out.frozenAt 2
            have z3b55_55_p1146 := Olater_53_p1108_p1127.out.frozenAt 3
            have z4b55_55_p1146 := Olater_53_p1108_p1127.out.frozenAt 4
            have Sb55_55_p1146 := Lib.hid (own_stores [(0, .int .i64 t_35_zone), (1, .int .i64 t_35_grams), (2, .int .i64 t_35_from_), (3, .int .i64 t_35_until_), (4, .int .i64 t_35_cents)] Olater_53_p1108_p1127.out)
            have Pb55_55_p1146 : Hid (wb55_55_p1146.ownsRow w.heap.size 25 5 (.slice (some ⟨w_earlier_52_p1094.heap.size, 0, none⟩) 1 1) 1 [.int .i64 t_35_zone, .int .i64 t_35_grams, .int .i64 t_35_from_, .int .i64 t_35_until_, .int .i64 t_35_cents]) := Lib.hid (by rw [← hwb55_55_p1146]; exact Sb55_55_p1146.out.1)
            have Gb55_55_p1146 : Hid (wb54_54_p1127.grownBy wb55_55_p1146 (Value.slice (some ⟨w_earlier_52_p1094.heap.size, 0, none⟩) 1 1).ownBlock) := Lib.hid (by rw [← hwb55_55_p1146]; exact Sb55_55_p1146.out.2)
            have HBwb55_55_p1146 := Lib.hid (HBwb54_54_p1127.out.grown Gb55_55_p1146.out HBwb54_54_p1127.out.size (fun q hq => (Olater_53_p1108_p1127.out.lt q hq).1))
            have kday_0_0__1128_p1146 := cell_other kday_0_0__1109_p1127 Gb55_55_p1146.out Dlater_53_day_0_p1108.out
            have kclass_24_0__1129_p1146 := cell_other kclass_24_0__1110_p1127 Gb55_55_p1146.out Dlater_53_class_24_p1108.out
            have kclass_24_1__1130_p1146 := cell_other kclass_24_1__1111_p1127 Gb55_55_p1146.out Dlater_53_class_24_p1108.out
            have ct_35_0__1131_p1146 := cell_other ct_35_0__1112_p1127 Gb55_55_p1146.out (apart_old Olater_53_p1108_p1127.out ltt_35)
            have ct_35_1__1132_p1146 := cell_other ct_35_1__1113_p1127 Gb55_55_p1146.out (apart_old Olater_53_p1108_p1127.out ltt_35)
            have ct_35_2__1133_p1146 := cell_other ct_35_2__1114_p1127 Gb55_55_p1146.out (apart_old Olater_53_p1108_p1127.out ltt_35)
            have ct_35_3__1134_p1146 := cell_other ct_35_3__1115_p1127 Gb55_55_p1146.out (apart_old Olater_53_p1108_p1127.out ltt_35)
            have ct_35_4__1135_p1146 := cell_other ct_35_4__1116_p1127 Gb55_55_p1146.out (apart_old Olater_53_p1108_p1127.out ltt_35)
            have kearlier_52_0_p1094__1136_p1146 := cell_other kearlier_52_0_p1094__1122_p1127 Gb55_55_p1146.out Dlater_53_earlier_52_p1108.out
            have kearlier_52_1_p1094__1137_p1146 := cell_other kearlier_52_1_p1094__1123_p1127 Gb55_55_p1146.out Dlater_53_earlier_52_p1108.out
            have kearlier_52_2_p1094__1138_p1146 := cell_other kearlier_52_2_p1094__1124_p1127 Gb55_55_p1146.out Dlater_53_earlier_52_p1108.out
            have kearlier_52_3_p1094__1139_p1146 := cell_other kearlier_52_3_p1094__1125_p1127 Gb55_55_p1146.out Dlater_53_earlier_52_p1108.out
            have kearlier_52_4_p1094__1140_p1146 := cell_other kearlier_52_4_p1094__1126_p1127 Gb55_55_p1146.out Dlater_53_earlier_52_p1108.out
            have Pb54_54_p1127_p1146 := Lib.hid (own_other Pb54_54_p1127.out Gb55_55_p1146.out Dlater_53_earlier_52_p1108.out)
            have klater_53_0_p1108__1141_p1146 : wb55_55_p1146.cell? ⟨w_earlier_52_p1094.heap.size, 0, none⟩ = some (.int .i64 t_35_zone) := Pb55_55_p1146.out.cells rfl 0 _ rfl
            have klater_53_1_p1108__1142_p1146 : wb55_55_p1146.cell? ⟨w_earlier_52_p1094.heap.size, 1, none⟩ = some (.int .i64 t_35_grams) := Pb55_55_p1146.out.cells rfl 1 _ rfl
            have klater_53_2_p1108__1143_p1146 : wb55_55_p1146.cell? ⟨w_earlier_52_p1094.heap.size, 2, none⟩ = some (.int .i64 t_35_from_) := Pb55_55_p1146.out.cells rfl 2 _ rfl
            have klater_53_3_p1108__1144_p1146 : wb55_55_p1146.cell? ⟨w_earlier_52_p1094.heap.size, 3, none⟩ = some (.int .i64 t_35_until_) := Pb55_55_p1146.out.cells rfl 3 _ rfl
            have klater_53_4_p1108__1145_p1146 : wb55_55_p1146.cell? ⟨w_earlier_52_p1094.heap.size, 4, none⟩ = some (.int .i64 t_35_cents) := Pb55_55_p1146.out.cells rfl 4 _ rfl
            have bw_later_53_p1155 : Below wt_28.drew.heap.size wt_28.drew w_earlier_52_p1094 := by rw [← hw_earlier_52_p1094]; exact (Below.refl _ _).alloc (Nat.le_refl _) _
            have Dlater_53_day_0_p1155 := Lib.hid (apart_box kday_0_0__1027)
            have Dlater_53_class_24_p1155 := Lib.hid (apart_box kclass_24_0)
            have HBw_later_53_p1155 := Lib.hid (Below.step HBwt_28.drew.out bw_later_53_p1155)
            have kday_0_0__1147_p1155 := cell_below bw_later_53_p1155 kday_0_0__1027
            have kclass_24_0__1148_p1155 := cell_below bw_later_53_p1155 kclass_24_0
            have kclass_24_1__1149_p1155 := cell_below bw_later_53_p1155 kclass_24_1
            have ct_35_0__1150_p1155 := cell_below bw_later_53_p1155 ct_35_0
            have ct_35_1__1151_p1155 := cell_below bw_later_53_p1155 ct_35_1
            have ct_35_2__1152_p1155 := cell_below bw_later_53_p1155 ct_35_2
            have ct_35_3__1153_p1155 := cell_below bw_later_53_p1155 ct_35_3
            have ct_35_4__1154_p1155 := cell_below bw_later_53_p1155 ct_35_4
            have klater_53_0_p1155 : w_earlier_52_p1094.cell? ⟨wt_28.heap.size, 0, none⟩ = some (.int .i64 0) := by rw [← hw_earlier_52_p1094]; exact box_new _ _ _ 0 _ rfl
            have klater_53_1_p1155 : w_earlier_52_p1094.cell? ⟨wt_28.heap.size, 1, none⟩ = some (.int .i64 0) := by rw [← hw_earlier_52_p1094]; exact box_new _ _ _ 1 _ rfl
            have klater_53_2_p1155 : w_earlier_52_p1094.cell? ⟨wt_28.heap.size, 2, none⟩ = some (.int .i64 0) := by rw [← hw_earlier_52_p1094]; exact box_new _ _ _ 2 _ rfl
            have klater_53_3_p1155 : w_earlier_52_p1094.cell? ⟨wt_28.heap.size, 3, none⟩ = some (.int .i64 0) := by rw [← hw_earlier_52_p1094]; exact box_new _ _ _ 3 _ rfl
            have klater_53_4_p1155 : w_earlier_52_p1094.cell? ⟨wt_28.heap.size, 4, none⟩ = some (.int .i64 0) := by rw [← hw_earlier_52_p1094]; exact box_new _ _ _ 4 _ rfl
            have Olater_53_p1155 : Hid (w_earlier_52_p1094.ownsRow w.heap.size 25 5 (.slice (some ⟨wt_28.heap.size, 0, none⟩) 1 1) 1 [.int .i64 0, .int .i64 0, .int .i64 0, .int .i64 0, .int .i64 0]) := Lib.hid (by rw [← hw_earlier_52_p1094]; exact own_laid (n := 1) HBwt_28.drew.out.size rfl rfl (by unfold maxLen; omega))
            have bw_earlier_52_p1169 : Below w_earlier_52_p1094.heap.size w_earlier_52_p1094 w_later_53_p1108 := by rw [← hw_later_53_p1108]; exact (Below.refl _ _).alloc (Nat.le_refl _) _
            have Dearlier_52_day_0_p1169 := Lib.hid (apart_box kday_0_0__1147_p1155)
            have Dearlier_52_class_24_p1169 := Lib.hid (apart_box kclass_24_0__1148_p1155)
            have Dearlier_52_later_53_p1169 := Lib.hid (apart_box klater_53_0_p1155)
            have HBw_earlier_52_p1169 := Lib.hid (Below.step HBw_later_53_p1155.out bw_earlier_52_p1169)
            have kday_0_0__1156_p1169 := cell_below bw_earlier_52_p1169 kday_0_0__1147_p1155
            have kclass_24_0__1157_p1169 := cell_below bw_earlier_52_p1169 kclass_24_0__1148_p1155
            have kclass_24_1__1158_p1169 := cell_below bw_earlier_52_p1169 kclass_24_1__1149_p1155
            have ct_35_0__1159_p1169 := cell_below bw_earlier_52_p1169 ct_35_0__1150_p1155
            have ct_35_1__1160_p1169 := cell_below bw_earlier_52_p1169 ct_35_1__1151_p1155
            have ct_35_2__1161_p1169 := cell_below bw_earlier_52_p1169 ct_35_2__1152_p1155
            have ct_35_3__1162_p1169 := cell_below bw_earlier_52_p1169 ct_35_3__1153_p1155
            have ct_35_4__1163_p1169 := cell_below bw_earlier_52_p1169 ct_35_4__1154_p1155
            have klater_53_0_p1155__1164_p1169 := cell_below bw_earlier_52_p1169 klater_53_0_p1155
            have klater_53_1_p1155__1165_p1169 := cell_below bw_earlier_52_p1169 klater_53_1_p1155
            have klater_53_2_p1155__1166_p1169 := cell_below bw_earlier_52_p1169 klater_53_2_p1155
            have klater_53_3_p1155__1167_p1169 := cell_below bw_earlier_52_p1169 klater_53_3_p1155
            have klater_53_4_p1155__1168_p1169 := cell_below bw_earlier_52_p1169 klater_53_4_p1155
            have Olater_53_p1155_p1169 := Lib.hid (own_below Olater_53_p1155.out bw_earlier_52_p1169)
            have kearlier_52_0_p1169 : w_later_53_p1108.cell? ⟨w_earlier_52_p1094.heap.size, 0, none⟩ = some (.int .i64 0) := by rw [← hw_later_53_p1108]; exact box_new _ _ _ 0 _ rfl
            have kearlier_52_1_p1169 : w_later_53_p1108.cell? ⟨w_earlier_52_p1094.heap.size, 1, none⟩ = some (.int .i64 0) := by rw [← hw_later_53_p1108]; exact box_new _ _ _ 1 _ rfl
            have kearlier_52_2_p1169 : w_later_53_p1108.cell? ⟨w_earlier_52_p1094.heap.size, 2, none⟩ = some (.int .i64 0) := by rw [← hw_later_53_p1108]; exact box_new _ _ _ 2 _ rfl
            have kearlier_52_3_p1169 : w_later_53_p1108.cell? ⟨w_earlier_52_p1094.heap.size, 3, none⟩ = some (.int .i64 0) := by rw [← hw_later_53_p1108]; exact box_new _ _ _ 3 _ rfl
            have kearlier_52_4_p1169 : w_later_53_p1108.cell? ⟨w_earlier_52_p1094.heap.size, 4, none⟩ = some (.int .i64 0) := by rw [← hw_later_53_p1108]; exact box_new _ _ _ 4 _ rfl
            have Oearlier_52_p1169 : Hid (w_later_53_p1108.ownsRow w.heap.size 25 5 (.slice (some ⟨w_earlier_52_p1094.heap.size, 0, none⟩) 1 1) 1 [.int .i64 0, .int .i64 0, .int .i64 0, .int .i64 0, .int .i64 0]) := Lib.hid (by rw [← hw_later_53_p1108]; exact own_laid (n := 1) HBw_later_53_p1155.out.size rfl rfl (by unfold maxLen; omega))
            obtain ⟨wb54_54_p1188, hwb54_54_p1188⟩ : ∃ x, (((((w_later_53_p1108).setCell ⟨w_earlier_52_p1094.heap.size, 0, none⟩ (.int .i64 t_35_zone)).setCell ⟨w_earlier_52_p1094.heap.size, 1, none⟩ (.int .i64 t_35_grams)).setCell ⟨w_earlier_52_p1094.heap.size, 2, none⟩ (.int .i64 t_35_from_)).setCell ⟨w_earlier_52_p1094.heap.size, 3, none⟩ (.int .i64 t_35_until_)).setCell ⟨w_earlier_52_p1094.heap.size, 4, none⟩ (.int .i64 t_35_cents) = x := ⟨_, rfl⟩
            have z0b54_54_p1188 := Oearlier_52_p1169.out.frozenAt 0
            have z1b54_54_p1188 := Oearlier_52_p1169.out.frozenAt 1
            have z2b54_54_p1188 := Oearlier_52_p1169.out.frozenAt 2
            have z3b54_54_p1188 := Oearlier_52_p1169.out.frozenAt 3
            have z4b54_54_p1188 := Oearlier_52_p1169.out.frozenAt 4
            have Sb54_54_p1188 := Lib.hid (own_stores [(0, .int .i64 t_35_zone), (1, .int .i64 t_35_grams), (2, .int .i64 t_35_from_), (3, .int .i64 t_35_until_), (4, .int .i64 t_35_cents)] Oearlier_52_p1169.out)
            have Pb54_54_p1188 : Hid (wb54_54_p1188.ownsRow w.heap.size 25 5 (.slice (some ⟨w_earlier_52_p1094.heap.size, 0, none⟩) 1 1) 1 [.int .i64 t_35_zone, .int .i64 t_35_grams, .int .i64 t_35_from_, .int .i64 t_35_until_, .int .i64 t_35_cents]) := Lib.hid (by rw [← hwb54_54_p1188]; exact Sb54_54_p1188.out.1)
            have Gb54_54_p1188 : Hid (w_later_53_p1108.grownBy wb54_54_p1188 (Value.slice (some ⟨w_earlier_52_p1094.heap.size, 0, none⟩) 1 1).ownBlock) := Lib.hid (by rw [← hwb54_54_p1188]; exact Sb54_54_p1188.out.2)
            have HBwb54_54_p1188 := Lib.hid (HBw_earlier_52_p1169.out.grown Gb54_54_p1188.out HBw_earlier_52_p1169.out.size (fun q hq => (Oearlier_52_p1169.out.lt q hq).1))
            have kday_0_0__1170_p1188 := cell_other kday_0_0__1156_p1169 Gb54_54_p1188.out Dearlier_52_day_0_p1169.out
            have kclass_24_0__1171_p1188 := cell_other kclass_24_0__1157_p1169 Gb54_54_p1188.out Dearlier_52_class_24_p1169.out
            have kclass_24_1__1172_p1188 := cell_other kclass_24_1__1158_p1169 Gb54_54_p1188.out Dearlier_52_class_24_p1169.out
            have ct_35_0__1173_p1188 := cell_other ct_35_0__1159_p1169 Gb54_54_p1188.out (apart_old Oearlier_52_p1169.out ltt_35)
            have ct_35_1__1174_p1188 := cell_other ct_35_1__1160_p1169 Gb54_54_p1188.out (apart_old Oearlier_52_p1169.out ltt_35)
            have ct_35_2__1175_p1188 := cell_other ct_35_2__1161_p1169 Gb54_54_p1188.out (apart_old Oearlier_52_p1169.out ltt_35)
            have ct_35_3__1176_p1188 := cell_other ct_35_3__1162_p1169 Gb54_54_p1188.out (apart_old Oearlier_52_p1169.out ltt_35)
            have ct_35_4__1177_p1188 := cell_other ct_35_4__1163_p1169 Gb54_54_p1188.out (apart_old Oearlier_52_p1169.out ltt_35)
            have klater_53_0_p1155__1178_p1188 := cell_other klater_53_0_p1155__1164_p1169 Gb54_54_p1188.out Dearlier_52_later_53_p1169.out
            have klater_53_1_p1155__1179_p1188 := cell_other klater_53_1_p1155__1165_p1169 Gb54_54_p1188.out Dearlier_52_later_53_p1169.out
            have klater_53_2_p1155__1180_p1188 := cell_other klater_53_2_p1155__1166_p1169 Gb54_54_p1188.out Dearlier_52_later_53_p1169.out
            have klater_53_3_p1155__1181_p1188 := cell_other klater_53_3_p1155__1167_p1169 Gb54_54_p1188.out Dearlier_52_later_53_p1169.out
            have klater_53_4_p1155__1182_p1188 := cell_other klater_53_4_p1155__1168_p1169 Gb54_54_p1188.out Dearlier_52_later_53_p1169.out
            have Olater_53_p1155_p1169_p1188 := Lib.hid (own_other Olater_53_p1155_p1169.out Gb54_54_p1188.out Dearlier_52_later_53_p1169.out)
            have kearlier_52_0_p1169__1183_p1188 : wb54_54_p1188.cell? ⟨w_earlier_52_p1094.heap.size, 0, none⟩ = some (.int .i64 t_35_zone) := Pb54_54_p1188.out.cells rfl 0 _ rfl
            have kearlier_52_1_p1169__1184_p1188 : wb54_54_p1188.cell? ⟨w_earlier_52_p1094.heap.size, 1, none⟩ = some (.int .i64 t_35_grams) := Pb54_54_p1188.out.cells rfl 1 _ rfl
            have kearlier_52_2_p1169__1185_p1188 : wb54_54_p1188.cell? ⟨w_earlier_52_p1094.heap.size, 2, none⟩ = some (.int .i64 t_35_from_) := Pb54_54_p1188.out.cells rfl 2 _ rfl
            have kearlier_52_3_p1169__1186_p1188 : wb54_54_p1188.cell? ⟨w_earlier_52_p1094.heap.size, 3, none⟩ = some (.int .i64 t_35_until_) := Pb54_54_p1188.out.cells rfl 3 _ rfl
            have kearlier_52_4_p1169__1187_p1188 : wb54_54_p1188.cell? ⟨w_earlier_52_p1094.heap.size, 4, none⟩ = some (.int .i64 t_35_cents) := Pb54_54_p1188.out.cells rfl 4 _ rfl
            obtain ⟨wb55_55_p1207, hwb55_55_p1207⟩ : ∃ x, (((((wb54_54_p1188).setCell ⟨wt_28.heap.size, 0, none⟩ (.int .i64 t_35_zone)).setCell ⟨wt_28.heap.size, 1, none⟩ (.int .i64 t_35_grams)).setCell ⟨wt_28.heap.size, 2, none⟩ (.int .i64 t_35_from_)).setCell ⟨wt_28.heap.size, 3, none⟩ (.int .i64 t_35_until_)).setCell ⟨wt_28.heap.size, 4, none⟩ (.int .i64 t_35_cents) = x := ⟨_, rfl⟩
            have z0b55_55_p1207 := Olater_53_p1155_p1169_p1188.out.frozenAt 0
            have z1b55_55_p1207 := Olater_53_p1155_p1169_p1188.out.frozenAt 1
            have z2b55_55_p1207 := Olater_53_p1155_p1169_p1188.out.frozenAt 2
            have z3b55_55_p1207 := Olater_53_p1155_p1169_p1188.out.frozenAt 3
            have z4b55_55_p1207 := Olater_53_p1155_p1169_p1188.out.frozenAt 4
            have Sb55_55_p1207 := Lib.hid (own_stores [(0, .int .i64 t_35_zone), (1, .int .i64 t_35_grams), (2, .int .i64 t_35_from_), (3, .int .i64 t_35_until_), (4, .int .i64 t_35_cents)] Olater_53_p1155_p1169_p1188.out)
            have Pb55_55_p1207 : Hid (wb55_55_p1207.ownsRow w.heap.size 25 5 (.slice (some ⟨wt_28.heap.size, 0, none⟩) 1 1) 1 [.int .i64 t_35_zone, .int .i64 t_35_grams, .int .i64 t_35_from_, .int .i64 t_35_until_, .int .i64 t_35_cents]) := Lib.hid (by rw [← hwb55_55_p1207]; exact Sb55_55_p1207.out.1)
            have Gb55_55_p1207 : Hid (wb54_54_p1188.grownBy wb55_55_p1207 (Value.slice (some ⟨wt_28.heap.size, 0, none⟩) 1 1).ownBlock) := Lib.hid (by rw [← hwb55_55_p1207]; exact Sb55_55_p1207.out.2)
            have HBwb55_55_p1207 := Lib.hid (HBwb54_54_p1188.out.grown Gb55_55_p1207.out HBwb54_54_p1188.out.size (fun q hq => (Olater_53_p1155_p1169_p1188.out.lt q hq).1))
            have kday_0_0__1189_p1207 := cell_other kday_0_0__1170_p1188 Gb55_55_p1207.out Dlater_53_day_0_p1155.out
            have kclass_24_0__1190_p1207 := cell_other kclass_24_0__1171_p1188 Gb55_55_p1207.out Dlater_53_class_24_p1155.out
            have kclass_24_1__1191_p1207 := cell_other kclass_24_1__1172_p1188 Gb55_55_p1207.out Dlater_53_class_24_p1155.out
            have ct_35_0__1192_p1207 := cell_other ct_35_0__1173_p1188 Gb55_55_p1207.out (apart_old Olater_53_p1155_p1169_p1188.out ltt_35)
            have ct_35_1__1193_p1207 := cell_other ct_35_1__1174_p1188 Gb55_55_p1207.out (apart_old Olater_53_p1155_p1169_p1188.out ltt_35)
            have ct_35_2__1194_p1207 := cell_other ct_35_2__1175_p1188 Gb55_55_p1207.out (apart_old Olater_53_p1155_p1169_p1188.out ltt_35)
            have ct_35_3__1195_p1207 := cell_other ct_35_3__1176_p1188 Gb55_55_p1207.out (apart_old Olater_53_p1155_p1169_p1188.out ltt_35)
            have ct_35_4__1196_p1207 := cell_other ct_35_4__1177_p1188 Gb55_55_p1207.out (apart_old Olater_53_p1155_p1169_p1188.out ltt_35)
            have kearlier_52_0_p1169__1197_p1207 := cell_other kearlier_52_0_p1169__1183_p1188 Gb55_55_p1207.out (Apart.symm Dearlier_52_later_53_p1169.out)
            have kearlier_52_1_p1169__1198_p1207 := cell_other kearlier_52_1_p1169__1184_p1188 Gb55_55_p1207.out (Apart.symm Dearlier_52_later_53_p1169.out)
            have kearlier_52_2_p1169__1199_p1207 := cell_other kearlier_52_2_p1169__1185_p1188 Gb55_55_p1207.out (Apart.symm Dearlier_52_later_53_p1169.out)
            have kearlier_52_3_p1169__1200_p1207 := cell_other kearlier_52_3_p1169__1186_p1188 Gb55_55_p1207.out (Apart.symm Dearlier_52_later_53_p1169.out)
            have kearlier_52_4_p1169__1201_p1207 := cell_other kearlier_52_4_p1169__1187_p1188 Gb55_55_p1207.out (Apart.symm Dearlier_52_later_53_p1169.out)
            have Pb54_54_p1188_p1207 := Lib.hid (own_other Pb54_54_p1188.out Gb55_55_p1207.out (Apart.symm Dearlier_52_later_53_p1169.out))
            have klater_53_0_p1155__1202_p1207 : wb55_55_p1207.cell? ⟨wt_28.heap.size, 0, none⟩ = some (.int .i64 t_35_zone) := Pb55_55_p1207.out.cells rfl 0 _ rfl
            have klater_53_1_p1155__1203_p1207 : wb55_55_p1207.cell? ⟨wt_28.heap.size, 1, none⟩ = some (.int .i64 t_35_grams) := Pb55_55_p1207.out.cells rfl 1 _ rfl
            have klater_53_2_p1155__1204_p1207 : wb55_55_p1207.cell? ⟨wt_28.heap.size, 2, none⟩ = some (.int .i64 t_35_from_) := Pb55_55_p1207.out.cells rfl 2 _ rfl
            have klater_53_3_p1155__1205_p1207 : wb55_55_p1207.cell? ⟨wt_28.heap.size, 3, none⟩ = some (.int .i64 t_35_until_) := Pb55_55_p1207.out.cells rfl 3 _ rfl
            have klater_53_4_p1155__1206_p1207 : wb55_55_p1207.cell? ⟨wt_28.heap.size, 4, none⟩ = some (.int .i64 t_35_cents) := Pb55_55_p1207.out.cells rfl 4 _ rfl
            go_region_held3 (fun w' => w'.cell? ⟨w.heap.size, 0, none⟩ = some (.int .i64 day) ∧ w'.cell? ⟨wt_15.heap.size, 0, none⟩ = some (.int .i64 zone) ∧ w'.cell? ⟨wt_15.heap.size, 1, none⟩ = some (.int .i64 grams) ∧ w'.cell? ⟨ab_t_35, ao_t_35 + nt_35 * 5, none⟩ = some (.int .i64 t_35_zone) ∧ w'.cell? ⟨ab_t_35, ao_t_35 + nt_35 * 5 + 1, none⟩ = some (.int .i64 t_35_grams) ∧ w'.cell? ⟨ab_t_35, ao_t_35 + nt_35 * 5 + 2, none⟩ = some (.int .i64 t_35_from_) ∧ w'.cell? ⟨ab_t_35, ao_t_35 + nt_35 * 5 + 3, none⟩ = some (.int .i64 t_35_until_) ∧ w'.cell? ⟨ab_t_35, ao_t_35 + nt_35 * 5 + 4, none⟩ = some (.int .i64 t_35_cents)) (first | exact ⟨kday_0_0__1027, kclass_24_0, kclass_24_1, ct_35_0, ct_35_1, ct_35_2, ct_35_3, ct_35_4⟩ | exact ⟨kday_0_0__1086_p1094, kclass_24_0__1087_p1094, kclass_24_1__1088_p1094, ct_35_0__1089_p1094, ct_35_1__1090_p1094, ct_35_2__1091_p1094, ct_35_3__1092_p1094, ct_35_4__1093_p1094⟩ | exact ⟨kday_0_0__1095_p1108, kclass_24_0__1096_p1108, kclass_24_1__1097_p1108, ct_35_0__1098_p1108, ct_35_1__1099_p1108, ct_35_2__1100_p1108, ct_35_3__1101_p1108, ct_35_4__1102_p1108⟩ | exact ⟨kday_0_0__1109_p1127, kclass_24_0__1110_p1127, kclass_24_1__1111_p1127, ct_35_0__1112_p1127, ct_35_1__1113_p1127, ct_35_2__1114_p1127, ct_35_3__1115_p1127, ct_35_4__1116_p1127⟩ | exact ⟨kday_0_0__1128_p1146, kclass_24_0__1129_p1146, kclass_24_1__1130_p1146, ct_35_0__1131_p1146, ct_35_1__1132_p1146, ct_35_2__1133_p1146, ct_35_3__1134_p1146, ct_35_4__1135_p1146⟩ | exact ⟨kday_0_0__1147_p1155, kclass_24_0__1148_p1155, kclass_24_1__1149_p1155, ct_35_0__1150_p1155, ct_35_1__1151_p1155, ct_35_2__1152_p1155, ct_35_3__1153_p1155, ct_35_4__1154_p1155⟩ | exact ⟨kday_0_0__1156_p1169, kclass_24_0__1157_p1169, kclass_24_1__1158_p1169, ct_35_0__1159_p1169, ct_35_1__1160_p1169, ct_35_2__1161_p1169, ct_35_3__1162_p1169, ct_35_4__1163_p1169⟩ | exact ⟨kday_0_0__1170_p1188, kclass_24_0__1171_p1188, kclass_24_1__1172_p1188, ct_35_0__1173_p1188, ct_35_1__1174_p1188, ct_35_2__1175_p1188, ct_35_3__1176_p1188, ct_35_4__1177_p1188⟩ | exact ⟨kday_0_0__1189_p1207, kclass_24_0__1190_p1207, kclass_24_1__1191_p1207, ct_35_0__1192_p1207, ct_35_1__1193_p1207, ct_35_2__1194_p1207, ct_35_3__1195_p1207, ct_35_4__1196_p1207⟩)
                (first
                  | fail)
            · skip
              replace H := let_hid H
              obtain ⟨t_57, ht_57, H⟩ := H
              obtain ⟨wb59_59, hwb59_59⟩ : ∃ x, (wb55_55_p1146).setCell ⟨wt_28.heap.size, 3, none⟩ (.int .i64 t_57) = x := ⟨_, rfl⟩
              have z0b59_59 := Pb54_54_p1127_p1146.out.frozenAt 3
              have Sb59_59 := Lib.hid (own_stores [(3, .int .i64 t_57)] Pb54_54_p1127_p1146.out)
              have Pb59_59 : Hid (wb59_59.ownsRow w.heap.size 25 5 (.slice (some ⟨wt_28.heap.size, 0, none⟩) 1 1) 1 [.int .i64 t_35_zone, .int .i64 t_35_grams, .int .i64 t_35_from_, .int .i64 t_57, .int .i64 t_35_cents]) := Lib.hid (by rw [← hwb59_59]; exact Sb59_59.out.1)
              have Gb59_59 : Hid (wb55_55_p1146.grownBy wb59_59 (Value.slice (some ⟨wt_28.heap.size, 0, none⟩) 1 1).ownBlock) := Lib.hid (by rw [← hwb59_59]; exact Sb59_59.out.2)
              have HBwb59_59 := Lib.hid (HBwb55_55_p1146.out.grown Gb59_59.out HBwb55_55_p1146.out.size (fun q hq => (Pb54_54_p1127_p1146.out.lt q hq).1))
              clear Sb59_59
              have kday_0_0__1208 := cell_other kday_0_0__1128_p1146 Gb59_59.out Dearlier_52_day_0_p1094.out
              have kclass_24_0__1209 := cell_other kclass_24_0__1129_p1146 Gb59_59.out Dearlier_52_class_24_p1094.out
              have kclass_24_1__1210 := cell_other kclass_24_1__1130_p1146 Gb59_59.out Dearlier_52_class_24_p1094.out
              have ct_35_0__1211 := cell_other ct_35_0__1131_p1146 Gb59_59.out (apart_old Pb54_54_p1127_p1146.out ltt_35)
              have ct_35_1__1212 := cell_other ct_35_1__1132_p1146 Gb59_59.out (apart_old Pb54_54_p1127_p1146.out ltt_35)
              have ct_35_2__1213 := cell_other ct_35_2__1133_p1146 Gb59_59.out (apart_old Pb54_54_p1127_p1146.out ltt_35)
              have ct_35_3__1214 := cell_other ct_35_3__1134_p1146 Gb59_59.out (apart_old Pb54_54_p1127_p1146.out ltt_35)
              have ct_35_4__1215 := cell_other ct_35_4__1135_p1146 Gb59_59.out (apart_old Pb54_54_p1127_p1146.out ltt_35)
              have klater_53_0_p1108__1216 := cell_other klater_53_0_p1108__1141_p1146 Gb59_59.out (Apart.symm Dlater_53_earlier_52_p1108.out)
              have klater_53_1_p1108__1217 := cell_other klater_53_1_p1108__1142_p1146 Gb59_59.out (Apart.symm Dlater_53_earlier_52_p1108.out)
              have klater_53_2_p1108__1218 := cell_other klater_53_2_p1108__1143_p1146 Gb59_59.out (Apart.symm Dlater_53_earlier_52_p1108.out)
              have klater_53_3_p1108__1219 := cell_other klater_53_3_p1108__1144_p1146 Gb59_59.out (Apart.symm Dlater_53_earlier_52_p1108.out)
              have klater_53_4_p1108__1220 := cell_other klater_53_4_p1108__1145_p1146 Gb59_59.out (Apart.symm Dlater_53_earlier_52_p1108.out)
              replace Pb55_55_p1146 := Lib.hid (own_other Pb55_55_p1146.out Gb59_59.out (Apart.symm Dlater_53_earlier_52_p1108.out))
              clear Pb54_54_p1127_p1146 Gb59_59
              have kearlier_52_0_p1094__1221 : wb59_59.cell? ⟨wt_28.heap.size, 0, none⟩ = some (.int .i64 t_35_zone) := Pb59_59.out.cells rfl 0 _ rfl
              have kearlier_52_1_p1094__1222 : wb59_59.cell? ⟨wt_28.heap.size, 1, none⟩ = some (.int .i64 t_35_grams) := Pb59_59.out.cells rfl 1 _ rfl
              have kearlier_52_2_p1094__1223 : wb59_59.cell? ⟨wt_28.heap.size, 2, none⟩ = some (.int .i64 t_35_from_) := Pb59_59.out.cells rfl 2 _ rfl
              have kearlier_52_3_p1094__1224 : wb59_59.cell? ⟨wt_28.heap.size, 3, none⟩ = some (.int .i64 t_57) := Pb59_59.out.cells rfl 3 _ rfl
              have kearlier_52_4_p1094__1225 : wb59_59.cell? ⟨wt_28.heap.size, 4, none⟩ = some (.int .i64 t_35_cents) := Pb59_59.out.cells rfl 4 _ rfl
              obtain ⟨wb62_62, hwb62_62⟩ : ∃ x, (wb59_59).setCell ⟨w_earlier_52_p1094.heap.size, 2, none⟩ (.int .i64 day) = x := ⟨_, rfl⟩
              have z0b62_62 := Pb55_55_p1146.out.frozenAt 2
              have Sb62_62 := Lib.hid (own_stores [(2, .int .i64 day)] Pb55_55_p1146.out)
              have Pb62_62 : Hid (wb62_62.ownsRow w.heap.size 25 5 (.slice (some ⟨w_earlier_52_p1094.heap.size, 0, none⟩) 1 1) 1 [.int .i64 t_35_zone, .int .i64 t_35_grams, .int .i64 day, .int .i64 t_35_until_, .int .i64 t_35_cents]) := Lib.hid (by rw [← hwb62_62]; exact Sb62_62.out.1)
              have Gb62_62 : Hid (wb59_59.grownBy wb62_62 (Value.slice (some ⟨w_earlier_52_p1094.heap.size, 0, none⟩) 1 1).ownBlock) := Lib.hid (by rw [← hwb62_62]; exact Sb62_62.out.2)
              have HBwb62_62 := Lib.hid (HBwb59_59.out.grown Gb62_62.out HBwb59_59.out.size (fun q hq => (Pb55_55_p1146.out.lt q hq).1))
              clear Sb62_62
              have kday_0_0__1226 := cell_other kday_0_0__1208 Gb62_62.out Dlater_53_day_0_p1108.out
              have kclass_24_0__1227 := cell_other kclass_24_0__1209 Gb62_62.out Dlater_53_class_24_p1108.out
              have kclass_24_1__1228 := cell_other kclass_24_1__1210 Gb62_62.out Dlater_53_class_24_p1108.out
              have ct_35_0__1229 := cell_other ct_35_0__1211 Gb62_62.out (apart_old Pb55_55_p1146.out ltt_35)
              have ct_35_1__1230 := cell_other ct_35_1__1212 Gb62_62.out (apart_old Pb55_55_p1146.out ltt_35)
              have ct_35_2__1231 := cell_other ct_35_2__1213 Gb62_62.out (apart_old Pb55_55_p1146.out ltt_35)
              have ct_35_3__1232 := cell_other ct_35_3__1214 Gb62_62.out (apart_old Pb55_55_p1146.out ltt_35)
              have ct_35_4__1233 := cell_other ct_35_4__1215 Gb62_62.out (apart_old Pb55_55_p1146.out ltt_35)
              have kearlier_52_0_p1094__1234 := cell_other kearlier_52_0_p1094__1221 Gb62_62.out Dlater_53_earlier_52_p1108.out
              have kearlier_52_1_p1094__1235 := cell_other kearlier_52_1_p1094__1222 Gb62_62.out Dlater_53_earlier_52_p1108.out
              have kearlier_52_2_p1094__1236 := cell_other kearlier_52_2_p1094__1223 Gb62_62.out Dlater_53_earlier_52_p1108.out
              have kearlier_52_3_p1094__1237 := cell_other kearlier_52_3_p1094__1224 Gb62_62.out Dlater_53_earlier_52_p1108.out
              have kearlier_52_4_p1094__1238 := cell_other kearlier_52_4_p1094__1225 Gb62_62.out Dlater_53_earlier_52_p1108.out
              replace Pb59_59 := Lib.hid (own_other Pb59_59.out Gb62_62.out Dlater_53_earlier_52_p1108.out)
              clear Pb55_55_p1146 Gb62_62
              have klater_53_0_p1108__1239 : wb62_62.cell? ⟨w_earlier_52_p1094.heap.size, 0, none⟩ = some (.int .i64 t_35_zone) := Pb62_62.out.cells rfl 0 _ rfl
              have klater_53_1_p1108__1240 : wb62_62.cell? ⟨w_earlier_52_p1094.heap.size, 1, none⟩ = some (.int .i64 t_35_grams) := Pb62_62.out.cells rfl 1 _ rfl
              have klater_53_2_p1108__1241 : wb62_62.cell? ⟨w_earlier_52_p1094.heap.size, 2, none⟩ = some (.int .i64 day) := Pb62_62.out.cells rfl 2 _ rfl
              have klater_53_3_p1108__1242 : wb62_62.cell? ⟨w_earlier_52_p1094.heap.size, 3, none⟩ = some (.int .i64 t_35_until_) := Pb62_62.out.cells rfl 3 _ rfl
              have klater_53_4_p1108__1243 : wb62_62.cell? ⟨w_earlier_52_p1094.heap.size, 4, none⟩ = some (.int .i64 t_35_cents) := Pb62_62.out.cells rfl 4 _ rfl
              obtain ⟨wb65_65, hwb65_65⟩ : ∃ x, (wb62_62).setCell ⟨w_earlier_52_p1094.heap.size, 4, none⟩ (.int .i64 cents) = x := ⟨_, rfl⟩
              have z0b65_65 := Pb62_62.out.frozenAt 4
              have Sb65_65 := Lib.hid (own_stores [(4, .int .i64 cents)] Pb62_62.out)
              have Pb65_65 : Hid (wb65_65.ownsRow w.heap.size 25 5 (.slice (some ⟨w_earlier_52_p1094.heap.size, 0, none⟩) 1 1) 1 [.int .i64 t_35_zone, .int .i64 t_35_grams, .int .i64 day, .int .i64 t_35_until_, .int .i64 cents]) := Lib.hid (by rw [← hwb65_65]; exact Sb65_65.out.1)
              have Gb65_65 : Hid (wb62_62.grownBy wb65_65 (Value.slice (some ⟨w_earlier_52_p1094.heap.size, 0, none⟩) 1 1).ownBlock) := Lib.hid (by rw [← hwb65_65]; exact Sb65_65.out.2)
              have HBwb65_65 := Lib.hid (HBwb62_62.out.grown Gb65_65.out HBwb62_62.out.size (fun q hq => (Pb62_62.out.lt q hq).1))
              clear Sb65_65
              have kday_0_0__1244 := cell_other kday_0_0__1226 Gb65_65.out Dlater_53_day_0_p1108.out
              have kclass_24_0__1245 := cell_other kclass_24_0__1227 Gb65_65.out Dlater_53_class_24_p1108.out
              have kclass_24_1__1246 := cell_other kclass_24_1__1228 Gb65_65.out Dlater_53_class_24_p1108.out
              have ct_35_0__1247 := cell_other ct_35_0__1229 Gb65_65.out (apart_old Pb62_62.out ltt_35)
              have ct_35_1__1248 := cell_other ct_35_1__1230 Gb65_65.out (apart_old Pb62_62.out ltt_35)
              have ct_35_2__1249 := cell_other ct_35_2__1231 Gb65_65.out (apart_old Pb62_62.out ltt_35)
              have ct_35_3__1250 := cell_other ct_35_3__1232 Gb65_65.out (apart_old Pb62_62.out ltt_35)
              have ct_35_4__1251 := cell_other ct_35_4__1233 Gb65_65.out (apart_old Pb62_62.out ltt_35)
              have kearlier_52_0_p1094__1252 := cell_other kearlier_52_0_p1094__1234 Gb65_65.out Dlater_53_earlier_52_p1108.out
              have kearlier_52_1_p1094__1253 := cell_other kearlier_52_1_p1094__1235 Gb65_65.out Dlater_53_earlier_52_p1108.out
              have kearlier_52_2_p1094__1254 := cell_other kearlier_52_2_p1094__1236 Gb65_65.out Dlater_53_earlier_52_p1108.out
              have kearlier_52_3_p1094__1255 := cell_other kearlier_52_3_p1094__1237 Gb65_65.out Dlater_53_earlier_52_p1108.out
              have kearlier_52_4_p1094__1256 := cell_other kearlier_52_4_p1094__1238 Gb65_65.out Dlater_53_earlier_52_p1108.out
              replace Pb59_59 := Lib.hid (own_other Pb59_59.out Gb65_65.out Dlater_53_earlier_52_p1108.out)
              clear Pb62_62 Gb65_65
              have klater_53_0_p1108__1257 : wb65_65.cell? ⟨w_earlier_52_p1094.heap.size, 0, none⟩ = some (.int .i64 t_35_zone) := Pb65_65.out.cells rfl 0 _ rfl
              have klater_53_1_p1108__1258 : wb65_65.cell? ⟨w_earlier_52_p1094.heap.size, 1, none⟩ = some (.int .i64 t_35_grams) := Pb65_65.out.cells rfl 1 _ rfl
              have klater_53_2_p1108__1259 : wb65_65.cell? ⟨w_earlier_52_p1094.heap.size, 2, none⟩ = some (.int .i64 day) := Pb65_65.out.cells rfl 2 _ rfl
              have klater_53_3_p1108__1260 : wb65_65.cell? ⟨w_earlier_52_p1094.heap.size, 3, none⟩ = some (.int .i64 t_35_until_) := Pb65_65.out.cells rfl 3 _ rfl
              have klater_53_4_p1108__1261 : wb65_65.cell? ⟨w_earlier_52_p1094.heap.size, 4, none⟩ = some (.int .i64 cents) := Pb65_65.out.cells rfl 4 _ rfl
              go_wp2_with fail
              clear z0b59_59 kday_0_0__1128_p1146 kclass_24_0__1129_p1146 kclass_24_1__1130_p1146 ct_35_0__1131_p1146 ct_35_1__1132_p1146 ct_35_2__1133_p1146 ct_35_3__1134_p1146 ct_35_4__1135_p1146 klater_53_0_p1108__1141_p1146 klater_53_1_p1108__1142_p1146 klater_53_2_p1108__1143_p1146 klater_53_3_p1108__1144_p1146 klater_53_4_p1108__1145_p1146 kearlier_52_0_p1094__1136_p1146 kearlier_52_1_p1094__1137_p1146 kearlier_52_2_p1094__1138_p1146 kearlier_52_3_p1094__1139_p1146 kearlier_52_4_p1094__1140_p1146 z0b62_62 kday_0_0__1208 kclass_24_0__1209 kclass_24_1__1210 ct_35_0__1211 ct_35_1__1212 ct_35_2__1213 ct_35_3__1214 ct_35_4__1215 kearlier_52_0_p1094__1221 kearlier_52_1_p1094__1222 kearlier_52_2_p1094__1223 kearlier_52_3_p1094__1224 kearlier_52_4_p1094__1225 klater_53_0_p1108__1216 klater_53_1_p1108__1217 klater_53_2_p1108__1218 klater_53_3_p1108__1219 klater_53_4_p1108__1220 z0b65_65 kday_0_0__1226 kclass_24_0__1227 kclass_24_1__1228 ct_35_0__1229 ct_35_1__1230 ct_35_2__1231 ct_35_3__1232 ct_35_4__1233 kearlier_52_0_p1094__1234 kearlier_52_1_p1094__1235 kearlier_52_2_p1094__1236 kearlier_52_3_p1094__1237 kearlier_52_4_p1094__1238 klater_53_0_p1108__1239 klater_53_1_p1108__1240 klater_53_2_p1108__1241 klater_53_3_p1108__1242 klater_53_4_p1108__1243
              have bd11 : Below wb65_65.heap.size wb65_65 wb65_65.drew := (Below.refl _ _).drew
              have HBwb65_65.drew := Lib.hid (Below.step HBwb65_65.out bd11)
              replace kday_0_0__1244 := cell_below bd11 kday_0_0__1244
              replace kclass_24_0__1245 := cell_below bd11 kclass_24_0__1245
              replace kclass_24_1__1246 := cell_below bd11 kclass_24_1__1246
              replace ct_35_0__1247 := cell_below bd11 ct_35_0__1247
              replace ct_35_1__1248 := cell_below bd11 ct_35_1__1248
              replace ct_35_2__1249 := cell_below bd11 ct_35_2__1249
              replace ct_35_3__1250 := cell_below bd11 ct_35_3__1250
              replace ct_35_4__1251 := cell_below bd11 ct_35_4__1251
              replace kearlier_52_0_p1094__1252 := cell_below bd11 kearlier_52_0_p1094__1252
              replace kearlier_52_1_p1094__1253 := cell_below bd11 kearlier_52_1_p1094__1253
              replace kearlier_52_2_p1094__1254 := cell_below bd11 kearlier_52_2_p1094__1254
              replace kearlier_52_3_p1094__1255 := cell_below bd11 kearlier_52_3_p1094__1255
              replace kearlier_52_4_p1094__1256 := cell_below bd11 kearlier_52_4_p1094__1256
              replace klater_53_0_p1108__1257 := cell_below bd11 klater_53_0_p1108__1257
              replace klater_53_1_p1108__1258 := cell_below bd11 klater_53_1_p1108__1258
              replace klater_53_2_p1108__1259 := cell_below bd11 klater_53_2_p1108__1259
              replace klater_53_3_p1108__1260 := cell_below bd11 klater_53_3_p1108__1260
              replace klater_53_4_p1108__1261 := cell_below bd11 klater_53_4_p1108__1261
              replace Pb59_59 := Lib.hid (own_below Pb59_59.out bd11)
              replace Pb65_65 := Lib.hid (own_below Pb65_65.out bd11)
              clear bd11
              replace H := guard_hid H
              obtain ⟨hl_t_68, H⟩ := H
              replace H := let_hid H
              obtain ⟨t_68, ht_68, H⟩ := H
              have dt_68 : ((Go.Proofs.Ytkinlkmmelkdnaa.PRate.flat list)).take (Int.toNat (nt_35 : Int) * 5) = (Go.Proofs.Ytkinlkmmelkdnaa.PRate.flat t_68) := by
                rw [← ht_68]
                exact flat_take Go.Proofs.Ytkinlkmmelkdnaa.PRate.Rate.cells 5 (fun _ => rfl) _ _
              have nt_68 : Int.toNat (nt_35 : Int) = t_68.length := by rw [← ht_68, List.length_take]; omega
              obtain ⟨rt_68, Mt_68, Qt_68⟩ := slice_headB (P := Try.prog) (t := 31) (e := 25) (k := .i64) (by kernel_rfl) (by kernel_rfl) hi_25 hz1_25 M0.out Q0.out hl_t_68 nt_68 dt_68
              have Nt_68 : Hid (t_68.length ≤ 9223372036854775807) := Lib.hid (by have := N0.out; omega)
              replace Mt_68 := Lib.hid Mt_68
              replace Qt_68 := Lib.hid Qt_68
              clear dt_68 nt_68 hl_t_68
              have hht_68 := Lib.hid ht_68
              clear ht_68
              replace H := let_hid H
              obtain ⟨t_71, ht_71, H⟩ := H
              obtain ⟨w_t_71, hw_t_71⟩ : ∃ x, wb65_65.drew.alloc (.cells #[.int .i64 t_35_zone, .int .i64 t_35_grams, .int .i64 t_35_from_, .int .i64 t_57, .int .i64 t_35_cents, .int .i64 t_35_zone, .int .i64 t_35_grams, .int .i64 day, .int .i64 t_35_until_, .int .i64 cents] 25) = x := ⟨_, rfl⟩
              have bw_t_71 : Below wb65_65.drew.heap.size wb65_65.drew w_t_71 := by rw [← hw_t_71]; exact (Below.refl _ _).alloc (Nat.le_refl _) _
              have hs_t_71 := HBwb65_65.drew.out.size
              have nt_71 : t_71.length = 2 := by rw [← ht_71]; rfl
              have Ot_71 : Hid (w_t_71.ownsRow w.heap.size 25 5 (.slice (some ⟨wb65_65.heap.size, 0, none⟩) 2 2) 2 (Go.Proofs.Ytkinlkmmelkdnaa.PRate.flat t_71)) := by
                rw [← hw_t_71, ← ht_71]
                have e_ : ([.int .i64 t_35_zone, .int .i64 t_35_grams, .int .i64 t_35_from_, .int .i64 t_57, .int .i64 t_35_cents, .int .i64 t_35_zone, .int .i64 t_35_grams, .int .i64 day, .int .i64 t_35_until_, .int .i64 cents] : List Value) = (Go.Proofs.Ytkinlkmmelkdnaa.PRate.flat ([(Go.Proofs.Ytkinlkmmelkdnaa.PRate.Rate.mk t_35_zone t_35_grams t_35_from_ t_57 t_35_cents), (Go.Proofs.Ytkinlkmmelkdnaa.PRate.Rate.mk t_35_zone t_35_grams day t_35_until_ cents)] : List Go.Proofs.Ytkinlkmmelkdnaa.PRate.Rate)) := rfl
                exact Lib.hid (own_laid (n := 2) hs_t_71 e_ rfl (by unfold maxLen; omega))
              clear hs_t_71
              have hht_71 := Lib.hid ht_71
              clear ht_71
              replace nt_71 := Lib.hid nt_71
              have Dt_71_day_0 := Lib.hid (apart_box kday_0_0__1244)
              have Dt_71_class_24 := Lib.hid (apart_box kclass_24_0__1245)
              have Dt_71_earlier_52 := Lib.hid (apart_box kearlier_52_0_p1094__1252)
              have Dt_71_later_53 := Lib.hid (apart_box klater_53_0_p1108__1257)
              have HBw_t_71 := Lib.hid (Below.step HBwb65_65.drew.out bw_t_71)
              have kday_0_0__1262 := cell_below bw_t_71 kday_0_0__1244
              have kclass_24_0__1263 := cell_below bw_t_71 kclass_24_0__1245
              have kclass_24_1__1264 := cell_below bw_t_71 kclass_24_1__1246
              have ct_35_0__1265 := cell_below bw_t_71 ct_35_0__1247
              have ct_35_1__1266 := cell_below bw_t_71 ct_35_1__1248
              have ct_35_2__1267 := cell_below bw_t_71 ct_35_2__1249
              have ct_35_3__1268 := cell_below bw_t_71 ct_35_3__1250
              have ct_35_4__1269 := cell_below bw_t_71 ct_35_4__1251
              have kearlier_52_0_p1094__1270 := cell_below bw_t_71 kearlier_52_0_p1094__1252
              have kearlier_52_1_p1094__1271 := cell_below bw_t_71 kearlier_52_1_p1094__1253
              have kearlier_52_2_p1094__1272 := cell_below bw_t_71 kearlier_52_2_p1094__1254
              have kearlier_52_3_p1094__1273 := cell_below bw_t_71 kearlier_52_3_p1094__1255
              have kearlier_52_4_p1094__1274 := cell_below bw_t_71 kearlier_52_4_p1094__1256
              have klater_53_0_p1108__1275 := cell_below bw_t_71 klater_53_0_p1108__1257
              have klater_53_1_p1108__1276 := cell_below bw_t_71 klater_53_1_p1108__1258
              have klater_53_2_p1108__1277 := cell_below bw_t_71 klater_53_2_p1108__1259
              have klater_53_3_p1108__1278 := cell_below bw_t_71 klater_53_3_p1108__1260
              have klater_53_4_p1108__1279 := cell_below bw_t_71 klater_53_4_p1108__1261
              replace Pb59_59 := Lib.hid (own_below Pb59_59.out bw_t_71)
              replace Pb65_65 := Lib.hid (own_below Pb65_65.out bw_t_71)
              clear bw_t_71
              replace H := let_hid H
              obtain ⟨t_74, ht_74, H⟩ := H
              replace H := guard_hid H
              obtain ⟨hl_t_75, H⟩ := H
              replace H := let_hid H
              obtain ⟨t_75, ht_75, H⟩ := H
              have dt_75 : ((Go.Proofs.Ytkinlkmmelkdnaa.PRate.flat list)).drop (Int.toNat t_74 * 5) = (Go.Proofs.Ytkinlkmmelkdnaa.PRate.flat t_75) := by
                rw [← ht_75]
                exact flat_drop Go.Proofs.Ytkinlkmmelkdnaa.PRate.Rate.cells 5 (fun _ => rfl) _ _
              have nt_75 : list.length - Int.toNat t_74 = t_75.length := by rw [← ht_75, List.length_drop]
              obtain ⟨At_75, ct_75, rt_75, Mt_75, Qt_75⟩ := slice_tail (P := Try.prog) (t := 31) (e := 25) (k := .i64) (by kernel_rfl) (by kernel_rfl) hi_25 hz1_25 M0.out Q0.out hl_t_75 nt_75 dt_75
              have Nt_75 : Hid (t_75.length ≤ 9223372036854775807) := Lib.hid (by have := N0.out; omega)
              replace Mt_75 := Lib.hid Mt_75
              replace Qt_75 := Lib.hid Qt_75
              clear dt_75 nt_75 hl_t_75
              have hht_75 := Lib.hid ht_75
              clear ht_75
              have Not_75 := Nt_75.out
              replace H := let_hid H
              obtain ⟨t_76, ht_76, H⟩ := H
              have hc1_ := nt_71.out
              have Ort_76_1 := Lib.hid (own_len hc1_ Ot_71.out)
              obtain ⟨w_t_76, hw_t_76⟩ : ∃ x, w_t_71.alloc (.cells #[.slice (some ⟨ab_t_35, ao_t_35, none⟩) t_68.length c0, .slice (some ⟨wb65_65.heap.size, 0, none⟩) 2 2, .slice At_75 t_75.length ct_75] 31) = x := ⟨_, rfl⟩
              have bw_t_76 : Below w_t_71.heap.size w_t_71 w_t_76 := by rw [← hw_t_76]; exact (Below.refl _ _).alloc (Nat.le_refl _) _
              have nt_76 : Hid (t_76.length = 3) := Lib.hid (by rw [← ht_76]; rfl)
              have Rt_76 : Hid (Go.Proofs.Ytkinlkmmelkdnaa.GoN.ReadNest w_t_76 5 Go.Proofs.Ytkinlkmmelkdnaa.PRate.flat (some ⟨w_t_71.heap.size, 0, none⟩) t_76) := Lib.hid (by rw [← hw_t_76, ← ht_76]; exact Go.Proofs.Ytkinlkmmelkdnaa.GoN.read_lit3 rfl (by rw [hc1_]) rfl (Cells.below Mt_68.out HBw_t_71.out) Qt_68.out Nt_68.out (own_cells Ort_76_1.out) (own_room Ort_76_1.out) (own_max Ort_76_1.out) (Cells.below Mt_75.out HBw_t_71.out) Qt_75.out Nt_75.out)
              have Nt_76 : Hid (t_76.length ≤ 9223372036854775807) := Lib.hid (by rw [nt_76.out]; omega)
              have Qt_76 : Hid (Room (some ⟨w_t_71.heap.size, 0, none⟩) t_76.length 3) := Lib.hid (by rw [nt_76.out]; exact ⟨Nat.le_refl _, fun h_ => by simp at h_⟩)
              have hht_76 := Lib.hid ht_76
              clear ht_76
              have HBw_t_76 := Lib.hid (Below.step HBw_t_71.out bw_t_76)
              have kday_0_0__1280 := cell_below bw_t_76 kday_0_0__1262
              have kclass_24_0__1281 := cell_below bw_t_76 kclass_24_0__1263
              have kclass_24_1__1282 := cell_below bw_t_76 kclass_24_1__1264
              have ct_35_0__1283 := cell_below bw_t_76 ct_35_0__1265
              have ct_35_1__1284 := cell_below bw_t_76 ct_35_1__1266
              have ct_35_2__1285 := cell_below bw_t_76 ct_35_2__1267
              have ct_35_3__1286 := cell_below bw_t_76 ct_35_3__1268
              have ct_35_4__1287 := cell_below bw_t_76 ct_35_4__1269
              have kearlier_52_0_p1094__1288 := cell_below bw_t_76 kearlier_52_0_p1094__1270
              have kearlier_52_1_p1094__1289 := cell_below bw_t_76 kearlier_52_1_p1094__1271
              have kearlier_52_2_p1094__1290 := cell_below bw_t_76 kearlier_52_2_p1094__1272
              have kearlier_52_3_p1094__1291 := cell_below bw_t_76 kearlier_52_3_p1094__1273
              have kearlier_52_4_p1094__1292 := cell_below bw_t_76 kearlier_52_4_p1094__1274
              have klater_53_0_p1108__1293 := cell_below bw_t_76 klater_53_0_p1108__1275
              have klater_53_1_p1108__1294 := cell_below bw_t_76 klater_53_1_p1108__1276
              have klater_53_2_p1108__1295 := cell_below bw_t_76 klater_53_2_p1108__1277
              have klater_53_3_p1108__1296 := cell_below bw_t_76 klater_53_3_p1108__1278
              have klater_53_4_p1108__1297 := cell_below bw_t_76 klater_53_4_p1108__1279
              replace Ot_71 := Lib.hid (own_below Ot_71.out bw_t_76)
              replace Pb59_59 := Lib.hid (own_below Pb59_59.out bw_t_76)
              replace Pb65_65 := Lib.hid (own_below Pb65_65.out bw_t_76)
              clear bw_t_76
              replace H := bind_hid H
              obtain ⟨t_77, qt_77, H⟩ := H
              go_region_held3 (fun w' => w'.cell? ⟨w.heap.size, 0, none⟩ = some (.int .i64 day) ∧ w'.cell? ⟨wt_15.heap.size, 0, none⟩ = some (.int .i64 zone) ∧ w'.cell? ⟨wt_15.heap.size, 1, none⟩ = some (.int .i64 grams) ∧ w'.cell? ⟨ab_t_35, ao_t_35 + nt_35 * 5, none⟩ = some (.int .i64 t_35_zone) ∧ w'.cell? ⟨ab_t_35, ao_t_35 + nt_35 * 5 + 1, none⟩ = some (.int .i64 t_35_grams) ∧ w'.cell? ⟨ab_t_35, ao_t_35 + nt_35 * 5 + 2, none⟩ = some (.int .i64 t_35_from_) ∧ w'.cell? ⟨ab_t_35, ao_t_35 + nt_35 * 5 + 3, none⟩ = some (.int .i64 t_35_until_) ∧ w'.cell? ⟨ab_t_35, ao_t_35 + nt_35 * 5 + 4, none⟩ = some (.int .i64 t_35_cents) ∧ w'.cell? ⟨wt_28.heap.size, 0, none⟩ = some (.int .i64 t_35_zone) ∧ w'.cell? ⟨wt_28.heap.size, 1, none⟩ = some (.int .i64 t_35_grams) ∧ w'.cell? ⟨wt_28.heap.size, 2, none⟩ = some (.int .i64 t_35_from_) ∧ w'.cell? ⟨wt_28.heap.size, 3, none⟩ = some (.int .i64 t_57) ∧ w'.cell? ⟨wt_28.heap.size, 4, none⟩ = some (.int .i64 t_35_cents) ∧ w'.cell? ⟨w_earlier_52_p1094.heap.size, 0, none⟩ = some (.int .i64 t_35_zone) ∧ w'.cell? ⟨w_earlier_52_p1094.heap.size, 1, none⟩ = some (.int .i64 t_35_grams) ∧ w'.cell? ⟨w_earlier_52_p1094.heap.size, 2, none⟩ = some (.int .i64 day) ∧ w'.cell? ⟨w_earlier_52_p1094.heap.size, 3, none⟩ = some (.int .i64 t_35_until_) ∧ w'.cell? ⟨w_earlier_52_p1094.heap.size, 4, none⟩ = some (.int .i64 cents)) (first | exact ⟨kday_0_0__1244, kclass_24_0__1245, kclass_24_1__1246, ct_35_0__1247, ct_35_1__1248, ct_35_2__1249, ct_35_3__1250, ct_35_4__1251, kearlier_52_0_p1094__1252, kearlier_52_1_p1094__1253, kearlier_52_2_p1094__1254, kearlier_52_3_p1094__1255, kearlier_52_4_p1094__1256, klater_53_0_p1108__1257, klater_53_1_p1108__1258, klater_53_2_p1108__1259, klater_53_3_p1108__1260, klater_53_4_p1108__1261⟩ | exact ⟨kday_0_0__1262, kclass_24_0__1263, kclass_24_1__1264, ct_35_0__1265, ct_35_1__1266, ct_35_2__1267, ct_35_3__1268, ct_35_4__1269, kearlier_52_0_p1094__1270, kearlier_52_1_p1094__1271, kearlier_52_2_p1094__1272, kearlier_52_3_p1094__1273, kearlier_52_4_p1094__1274, klater_53_0_p1108__1275, klater_53_1_p1108__1276, klater_53_2_p1108__1277, klater_53_3_p1108__1278, klater_53_4_p1108__1279⟩ | exact ⟨kday_0_0__1280, kclass_24_0__1281, kclass_24_1__1282, ct_35_0__1283, ct_35_1__1284, ct_35_2__1285, ct_35_3__1286, ct_35_4__1287, kearlier_52_0_p1094__1288, kearlier_52_1_p1094__1289, kearlier_52_2_p1094__1290, kearlier_52_3_p1094__1291, kearlier_52_4_p1094__1292, klater_53_0_p1108__1293, klater_53_1_p1108__1294, klater_53_2_p1108__1295, klater_53_3_p1108__1296, klater_53_4_p1108__1297⟩)
                  (first
                    | (have hc0_ := nt_76.out
                       have con_ := Go.Proofs.Ytkinlkmmelkdnaa.GxSlicesConcatLoopExampleG01062ImplRateLoopExampleG01062ImplRate.C (t_76) (some ⟨w_t_71.heap.size, 0, none⟩) 3 _   (Lib.hid (Rt_76.out)) Nt_76 Qt_76 qt_77
                       rw [hc0_] at con_
                       clear hc0_
                       go_at_call 92
                       refine con_.mono ?_
                       rintro e_t_77 wt_77 ⟨At_77, ct_77, rfl, ot_77, bt_77⟩
                       have Dt_77_t_71 := Lib.hid (apart_call ot_77 Ot_71.out)
                       have Dt_77_day_0 := Lib.hid (apart_callbox ot_77 kday_0_0__1280)
                       have Dt_77_class_24 := Lib.hid (apart_callbox ot_77 kclass_24_0__1281)
                       have Dt_77_earlier_52 := Lib.hid (apart_callbox ot_77 kearlier_52_0_p1094__1288)
                       have Dt_77_later_53 := Lib.hid (apart_callbox ot_77 klater_53_0_p1108__1293)
                       have Ot_77 := Lib.hid (own_lower ot_77 HBw_t_76.out.size)
                       clear ot_77
                       have HBwt_77 := Lib.hid (Below.step HBw_t_76.out bt_77)
                       replace kday_0_0__1280 := cell_below bt_77 kday_0_0__1280
                       replace kclass_24_0__1281 := cell_below bt_77 kclass_24_0__1281
                       replace kclass_24_1__1282 := cell_below bt_77 kclass_24_1__1282
                       replace ct_35_0__1283 := cell_below bt_77 ct_35_0__1283
                       replace ct_35_1__1284 := cell_below bt_77 ct_35_1__1284
                       replace ct_35_2__1285 := cell_below bt_77 ct_35_2__1285
                       replace ct_35_3__1286 := cell_below bt_77 ct_35_3__1286
                       replace ct_35_4__1287 := cell_below bt_77 ct_35_4__1287
                       replace kearlier_52_0_p1094__1288 := cell_below bt_77 kearlier_52_0_p1094__1288
                       replace kearlier_52_1_p1094__1289 := cell_below bt_77 kearlier_52_1_p1094__1289
                       replace kearlier_52_2_p1094__1290 := cell_below bt_77 kearlier_52_2_p1094__1290
                       replace kearlier_52_3_p1094__1291 := cell_below bt_77 kearlier_52_3_p1094__1291
                       replace kearlier_52_4_p1094__1292 := cell_below bt_77 kearlier_52_4_p1094__1292
                       replace klater_53_0_p1108__1293 := cell_below bt_77 klater_53_0_p1108__1293
                       replace klater_53_1_p1108__1294 := cell_below bt_77 klater_53_1_p1108__1294
                       replace klater_53_2_p1108__1295 := cell_below bt_77 klater_53_2_p1108__1295
                       replace klater_53_3_p1108__1296 := cell_below bt_77 klater_53_3_p1108__1296
                       replace klater_53_4_p1108__1297 := cell_below bt_77 klater_53_4_p1108__1297
                       replace Ot_71 := Lib.hid (own_below Ot_71.out bt_77)
                       replace Pb59_59 := Lib.hid (own_below Pb59_59.out bt_77)
                       replace Pb65_65 := Lib.hid (own_below Pb65_65.out bt_77)
                       clear bt_77
                       clear qt_77))
              try clear kday_0_0__1244
              try clear kclass_24_0__1245
              try clear kclass_24_1__1246
              try clear ct_35_0__1247
              try clear ct_35_1__1248
              try clear ct_35_2__1249
              try clear ct_35_3__1250
              try clear ct_35_4__1251
              try clear kearlier_52_0_p1094__1252
              try clear kearlier_52_1_p1094__1253
              try clear kearlier_52_2_p1094__1254
              try clear kearlier_52_3_p1094__1255
              try clear kearlier_52_4_p1094__1256
              try clear klater_53_0_p1108__1257
              try clear klater_53_1_p1108__1258
              try clear klater_53_2_p1108__1259
              try clear klater_53_3_p1108__1260
              try clear klater_53_4_p1108__1261
              try clear kday_0_0__1262
              try clear kclass_24_0__1263
              try clear kclass_24_1__1264
              try clear ct_35_0__1265
              try clear ct_35_1__1266
              try clear ct_35_2__1267
              try clear ct_35_3__1268
              try clear ct_35_4__1269
              try clear kearlier_52_0_p1094__1270
              try clear kearlier_52_1_p1094__1271
              try clear kearlier_52_2_p1094__1272
              try clear kearlier_52_3_p1094__1273
              try clear kearlier_52_4_p1094__1274
              try clear klater_53_0_p1108__1275
              try clear klater_53_1_p1108__1276
              try clear klater_53_2_p1108__1277
              try clear klater_53_3_p1108__1278
              try clear klater_53_4_p1108__1279
              replace H := bind_hid H
              obtain ⟨t_80, qt_80, H⟩ := H
              go_wp2_with fail
              go_at_call 20
              refine (Go.Proofs.Ytkinlkmmelkdnaa.GiAreRates.C (t_77) At_77 ct_77 _   (Lib.hid (own_cells Ot_77.out)) (Lib.hid (own_max Ot_77.out)) qt_80).mono ?_
              rintro e_t_80 wt_80 ⟨rfl, bt_80⟩
              have HBwt_80 := Lib.hid (Below.step HBwt_77.out bt_80)
              replace kday_0_0__1280 := cell_below bt_80 kday_0_0__1280
              replace kclass_24_0__1281 := cell_below bt_80 kclass_24_0__1281
              replace kclass_24_1__1282 := cell_below bt_80 kclass_24_1__1282
              replace ct_35_0__1283 := cell_below bt_80 ct_35_0__1283
              replace ct_35_1__1284 := cell_below bt_80 ct_35_1__1284
              replace ct_35_2__1285 := cell_below bt_80 ct_35_2__1285
              replace ct_35_3__1286 := cell_below bt_80 ct_35_3__1286
              replace ct_35_4__1287 := cell_below bt_80 ct_35_4__1287
              replace kearlier_52_0_p1094__1288 := cell_below bt_80 kearlier_52_0_p1094__1288
              replace kearlier_52_1_p1094__1289 := cell_below bt_80 kearlier_52_1_p1094__1289
              replace kearlier_52_2_p1094__1290 := cell_below bt_80 kearlier_52_2_p1094__1290
              replace kearlier_52_3_p1094__1291 := cell_below bt_80 kearlier_52_3_p1094__1291
              replace kearlier_52_4_p1094__1292 := cell_below bt_80 kearlier_52_4_p1094__1292
              replace klater_53_0_p1108__1293 := cell_below bt_80 klater_53_0_p1108__1293
              replace klater_53_1_p1108__1294 := cell_below bt_80 klater_53_1_p1108__1294
              replace klater_53_2_p1108__1295 := cell_below bt_80 klater_53_2_p1108__1295
              replace klater_53_3_p1108__1296 := cell_below bt_80 klater_53_3_p1108__1296
              replace klater_53_4_p1108__1297 := cell_below bt_80 klater_53_4_p1108__1297
              replace Ot_71 := Lib.hid (own_below Ot_71.out bt_80)
              replace Ot_77 := Lib.hid (own_below Ot_77.out bt_80)
              replace Pb59_59 := Lib.hid (own_below Pb59_59.out bt_80)
              replace Pb65_65 := Lib.hid (own_below Pb65_65.out bt_80)
              clear bt_80
              cases t_80 with
              | false =>
                replace H := let_hid H
                obtain ⟨t_81, ht_81, H⟩ := H
                obtain rfl : t_81 = true := ht_81.symm
                replace H := ite_t H
                obtain ⟨w_t_82, hw_t_82⟩ : ∃ x, wt_80.alloc (.cells #[] 25) = x := ⟨_, rfl⟩
                have bw_t_82 : Below wt_80.heap.size wt_80 w_t_82 := by rw [← hw_t_82]; exact (Below.refl _ _).alloc (Nat.le_refl _) _
                have Ot_82 : Hid (w_t_82.ownsRow w.heap.size 25 5 (.slice (some ⟨wt_80.heap.size, 0, none⟩) 0 0) 0 []) := Lib.hid (by rw [← hw_t_82]; exact own_empty HBwt_80.out.size)
                have Dt_82_t_71 := Lib.hid (apart_fresh Ot_71.out)
                have Dt_82_t_77 := Lib.hid (apart_fresh Ot_77.out)
                have Dt_82_day_0 := Lib.hid (apart_box kday_0_0__1280)
                have Dt_82_class_24 := Lib.hid (apart_box kclass_24_0__1281)
                have Dt_82_earlier_52 := Lib.hid (apart_box kearlier_52_0_p1094__1288)
                have Dt_82_later_53 := Lib.hid (apart_box klater_53_0_p1108__1293)
                have HBw_t_82 := Lib.hid (Below.step HBwt_80.out bw_t_82)
                have kday_0_0__1298 := cell_below bw_t_82 kday_0_0__1280
                have kclass_24_0__1299 := cell_below bw_t_82 kclass_24_0__1281
                have kclass_24_1__1300 := cell_below bw_t_82 kclass_24_1__1282
                have ct_35_0__1301 := cell_below bw_t_82 ct_35_0__1283
                have ct_35_1__1302 := cell_below bw_t_82 ct_35_1__1284
                have ct_35_2__1303 := cell_below bw_t_82 ct_35_2__1285
                have ct_35_3__1304 := cell_below bw_t_82 ct_35_3__1286
                have ct_35_4__1305 := cell_below bw_t_82 ct_35_4__1287
                have kearlier_52_0_p1094__1306 := cell_below bw_t_82 kearlier_52_0_p1094__1288
                have kearlier_52_1_p1094__1307 := cell_below bw_t_82 kearlier_52_1_p1094__1289
                have kearlier_52_2_p1094__1308 := cell_below bw_t_82 kearlier_52_2_p1094__1290
                have kearlier_52_3_p1094__1309 := cell_below bw_t_82 kearlier_52_3_p1094__1291
                have kearlier_52_4_p1094__1310 := cell_below bw_t_82 kearlier_52_4_p1094__1292
                have klater_53_0_p1108__1311 := cell_below bw_t_82 klater_53_0_p1108__1293
                have klater_53_1_p1108__1312 := cell_below bw_t_82 klater_53_1_p1108__1294
                have klater_53_2_p1108__1313 := cell_below bw_t_82 klater_53_2_p1108__1295
                have klater_53_3_p1108__1314 := cell_below bw_t_82 klater_53_3_p1108__1296
                have klater_53_4_p1108__1315 := cell_below bw_t_82 klater_53_4_p1108__1297
                replace Ot_71 := Lib.hid (own_below Ot_71.out bw_t_82)
                replace Ot_77 := Lib.hid (own_below Ot_77.out bw_t_82)
                replace Pb59_59 := Lib.hid (own_below Pb59_59.out bw_t_82)
                replace Pb65_65 := Lib.hid (own_below Pb65_65.out bw_t_82)
                clear bw_t_82
                cases ret_hid H
                go_wp2_with fail
                go_ret2
                exact ⟨(some ⟨wt_80.heap.size, 0, none⟩), 0, rfl, Ot_82.out, HBw_t_82.out⟩
              | true =>
                replace H := let_hid H
                obtain ⟨t_81, ht_81, H⟩ := H
                obtain rfl : t_81 = false := ht_81.symm
                replace H := ite_f H
                cases ret_hid H
                go_wp2_with fail
                go_ret2
                exact ⟨At_77, ct_77, rfl, Ot_77.out, HBwt_80.out⟩
            · skip
              replace H := let_hid H
              obtain ⟨t_57, ht_57, H⟩ := H
              obtain ⟨wb59_59, hwb59_59⟩ : ∃ x, (wb55_55_p1207).setCell ⟨w_earlier_52_p1094.heap.size, 3, none⟩ (.int .i64 t_57) = x := ⟨_, rfl⟩
              have z0b59_59 := Pb54_54_p1188_p1207.out.frozenAt 3
              have Sb59_59 := Lib.hid (own_stores [(3, .int .i64 t_57)] Pb54_54_p1188_p1207.out)
              have Pb59_59 : Hid (wb59_59.ownsRow w.heap.size 25 5 (.slice (some ⟨w_earlier_52_p1094.heap.size, 0, none⟩) 1 1) 1 [.int .i64 t_35_zone, .int .i64 t_35_grams, .int .i64 t_35_from_, .int .i64 t_57, .int .i64 t_35_cents]) := Lib.hid (by rw [← hwb59_59]; exact Sb59_59.out.1)
              have Gb59_59 : Hid (wb55_55_p1207.grownBy wb59_59 (Value.slice (some ⟨w_earlier_52_p1094.heap.size, 0, none⟩) 1 1).ownBlock) := Lib.hid (by rw [← hwb59_59]; exact Sb59_59.out.2)
              have HBwb59_59 := Lib.hid (HBwb55_55_p1207.out.grown Gb59_59.out HBwb55_55_p1207.out.size (fun q hq => (Pb54_54_p1188_p1207.out.lt q hq).1))
              clear Sb59_59
              have kday_0_0__1316 := cell_other kday_0_0__1189_p1207 Gb59_59.out Dearlier_52_day_0_p1169.out
              have kclass_24_0__1317 := cell_other kclass_24_0__1190_p1207 Gb59_59.out Dearlier_52_class_24_p1169.out
              have kclass_24_1__1318 := cell_other kclass_24_1__1191_p1207 Gb59_59.out Dearlier_52_class_24_p1169.out
              have ct_35_0__1319 := cell_other ct_35_0__1192_p1207 Gb59_59.out (apart_old Pb54_54_p1188_p1207.out ltt_35)
              have ct_35_1__1320 := cell_other ct_35_1__1193_p1207 Gb59_59.out (apart_old Pb54_54_p1188_p1207.out ltt_35)
              have ct_35_2__1321 := cell_other ct_35_2__1194_p1207 Gb59_59.out (apart_old Pb54_54_p1188_p1207.out ltt_35)
              have ct_35_3__1322 := cell_other ct_35_3__1195_p1207 Gb59_59.out (apart_old Pb54_54_p1188_p1207.out ltt_35)
              have ct_35_4__1323 := cell_other ct_35_4__1196_p1207 Gb59_59.out (apart_old Pb54_54_p1188_p1207.out ltt_35)
              have klater_53_0_p1155__1324 := cell_other klater_53_0_p1155__1202_p1207 Gb59_59.out Dearlier_52_later_53_p1169.out
              have klater_53_1_p1155__1325 := cell_other klater_53_1_p1155__1203_p1207 Gb59_59.out Dearlier_52_later_53_p1169.out
              have klater_53_2_p1155__1326 := cell_other klater_53_2_p1155__1204_p1207 Gb59_59.out Dearlier_52_later_53_p1169.out
              have klater_53_3_p1155__1327 := cell_other klater_53_3_p1155__1205_p1207 Gb59_59.out Dearlier_52_later_53_p1169.out
              have klater_53_4_p1155__1328 := cell_other klater_53_4_p1155__1206_p1207 Gb59_59.out Dearlier_52_later_53_p1169.out
              replace Pb55_55_p1207 := Lib.hid (own_other Pb55_55_p1207.out Gb59_59.out Dearlier_52_later_53_p1169.out)
              clear Pb54_54_p1188_p1207 Gb59_59
              have kearlier_52_0_p1169__1329 : wb59_59.cell? ⟨w_earlier_52_p1094.heap.size, 0, none⟩ = some (.int .i64 t_35_zone) := Pb59_59.out.cells rfl 0 _ rfl
              have kearlier_52_1_p1169__1330 : wb59_59.cell? ⟨w_earlier_52_p1094.heap.size, 1, none⟩ = some (.int .i64 t_35_grams) := Pb59_59.out.cells rfl 1 _ rfl
              have kearlier_52_2_p1169__1331 : wb59_59.cell? ⟨w_earlier_52_p1094.heap.size, 2, none⟩ = some (.int .i64 t_35_from_) := Pb59_59.out.cells rfl 2 _ rfl
              have kearlier_52_3_p1169__1332 : wb59_59.cell? ⟨w_earlier_52_p1094.heap.size, 3, none⟩ = some (.int .i64 t_57) := Pb59_59.out.cells rfl 3 _ rfl
              have kearlier_52_4_p1169__1333 : wb59_59.cell? ⟨w_earlier_52_p1094.heap.size, 4, none⟩ = some (.int .i64 t_35_cents) := Pb59_59.out.cells rfl 4 _ rfl
              obtain ⟨wb62_62, hwb62_62⟩ : ∃ x, (wb59_59).setCell ⟨wt_28.heap.size, 2, none⟩ (.int .i64 day) = x := ⟨_, rfl⟩
              have z0b62_62 := Pb55_55_p1207.out.frozenAt 2
              have Sb62_62 := Lib.hid (own_stores [(2, .int .i64 day)] Pb55_55_p1207.out)
              have Pb62_62 : Hid (wb62_62.ownsRow w.heap.size 25 5 (.slice (some ⟨wt_28.heap.size, 0, none⟩) 1 1) 1 [.int .i64 t_35_zone, .int .i64 t_35_grams, .int .i64 day, .int .i64 t_35_until_, .int .i64 t_35_cents]) := Lib.hid (by rw [← hwb62_62]; exact Sb62_62.out.1)
              have Gb62_62 : Hid (wb59_59.grownBy wb62_62 (Value.slice (some ⟨wt_28.heap.size, 0, none⟩) 1 1).ownBlock) := Lib.hid (by rw [← hwb62_62]; exact Sb62_62.out.2)
              have HBwb62_62 := Lib.hid (HBwb59_59.out.grown Gb62_62.out HBwb59_59.out.size (fun q hq => (Pb55_55_p1207.out.lt q hq).1))
              clear Sb62_62
              have kday_0_0__1334 := cell_other kday_0_0__1316 Gb62_62.out Dlater_53_day_0_p1155.out
              have kclass_24_0__1335 := cell_other kclass_24_0__1317 Gb62_62.out Dlater_53_class_24_p1155.out
              have kclass_24_1__1336 := cell_other kclass_24_1__1318 Gb62_62.out Dlater_53_class_24_p1155.out
              have ct_35_0__1337 := cell_other ct_35_0__1319 Gb62_62.out (apart_old Pb55_55_p1207.out ltt_35)
              have ct_35_1__1338 := cell_other ct_35_1__1320 Gb62_62.out (apart_old Pb55_55_p1207.out ltt_35)
              have ct_35_2__1339 := cell_other ct_35_2__1321 Gb62_62.out (apart_old Pb55_55_p1207.out ltt_35)
              have ct_35_3__1340 := cell_other ct_35_3__1322 Gb62_62.out (apart_old Pb55_55_p1207.out ltt_35)
              have ct_35_4__1341 := cell_other ct_35_4__1323 Gb62_62.out (apart_old Pb55_55_p1207.out ltt_35)
              have kearlier_52_0_p1169__1342 := cell_other kearlier_52_0_p1169__1329 Gb62_62.out (Apart.symm Dearlier_52_later_53_p1169.out)
              have kearlier_52_1_p1169__1343 := cell_other kearlier_52_1_p1169__1330 Gb62_62.out (Apart.symm Dearlier_52_later_53_p1169.out)
              have kearlier_52_2_p1169__1344 := cell_other kearlier_52_2_p1169__1331 Gb62_62.out (Apart.symm Dearlier_52_later_53_p1169.out)
              have kearlier_52_3_p1169__1345 := cell_other kearlier_52_3_p1169__1332 Gb62_62.out (Apart.symm Dearlier_52_later_53_p1169.out)
              have kearlier_52_4_p1169__1346 := cell_other kearlier_52_4_p1169__1333 Gb62_62.out (Apart.symm Dearlier_52_later_53_p1169.out)
              replace Pb59_59 := Lib.hid (own_other Pb59_59.out Gb62_62.out (Apart.symm Dearlier_52_later_53_p1169.out))
              clear Pb55_55_p1207 Gb62_62
              have klater_53_0_p1155__1347 : wb62_62.cell? ⟨wt_28.heap.size, 0, none⟩ = some (.int .i64 t_35_zone) := Pb62_62.out.cells rfl 0 _ rfl
              have klater_53_1_p1155__1348 : wb62_62.cell? ⟨wt_28.heap.size, 1, none⟩ = some (.int .i64 t_35_grams) := Pb62_62.out.cells rfl 1 _ rfl
              have klater_53_2_p1155__1349 : wb62_62.cell? ⟨wt_28.heap.size, 2, none⟩ = some (.int .i64 day) := Pb62_62.out.cells rfl 2 _ rfl
              have klater_53_3_p1155__1350 : wb62_62.cell? ⟨wt_28.heap.size, 3, none⟩ = some (.int .i64 t_35_until_) := Pb62_62.out.cells rfl 3 _ rfl
              have klater_53_4_p1155__1351 : wb62_62.cell? ⟨wt_28.heap.size, 4, none⟩ = some (.int .i64 t_35_cents) := Pb62_62.out.cells rfl 4 _ rfl
              obtain ⟨wb65_65, hwb65_65⟩ : ∃ x, (wb62_62).setCell ⟨wt_28.heap.size, 4, none⟩ (.int .i64 cents) = x := ⟨_, rfl⟩
              have z0b65_65 := Pb62_62.out.frozenAt 4
              have Sb65_65 := Lib.hid (own_stores [(4, .int .i64 cents)] Pb62_62.out)
              have Pb65_65 : Hid (wb65_65.ownsRow w.heap.size 25 5 (.slice (some ⟨wt_28.heap.size, 0, none⟩) 1 1) 1 [.int .i64 t_35_zone, .int .i64 t_35_grams, .int .i64 day, .int .i64 t_35_until_, .int .i64 cents]) := Lib.hid (by rw [← hwb65_65]; exact Sb65_65.out.1)
              have Gb65_65 : Hid (wb62_62.grownBy wb65_65 (Value.slice (some ⟨wt_28.heap.size, 0, none⟩) 1 1).ownBlock) := Lib.hid (by rw [← hwb65_65]; exact Sb65_65.out.2)
              have HBwb65_65 := Lib.hid (HBwb62_62.out.grown Gb65_65.out HBwb62_62.out.size (fun q hq => (Pb62_62.out.lt q hq).1))
              clear Sb65_65
              have kday_0_0__1352 := cell_other kday_0_0__1334 Gb65_65.out Dlater_53_day_0_p1155.out
              have kclass_24_0__1353 := cell_other kclass_24_0__1335 Gb65_65.out Dlater_53_class_24_p1155.out
              have kclass_24_1__1354 := cell_other kclass_24_1__1336 Gb65_65.out Dlater_53_class_24_p1155.out
              have ct_35_0__1355 := cell_other ct_35_0__1337 Gb65_65.out (apart_old Pb62_62.out ltt_35)
              have ct_35_1__1356 := cell_other ct_35_1__1338 Gb65_65.out (apart_old Pb62_62.out ltt_35)
              have ct_35_2__1357 := cell_other ct_35_2__1339 Gb65_65.out (apart_old Pb62_62.out ltt_35)
              have ct_35_3__1358 := cell_other ct_35_3__1340 Gb65_65.out (apart_old Pb62_62.out ltt_35)
              have ct_35_4__1359 := cell_other ct_35_4__1341 Gb65_65.out (apart_old Pb62_62.out ltt_35)
              have kearlier_52_0_p1169__1360 := cell_other kearlier_52_0_p1169__1342 Gb65_65.out (Apart.symm Dearlier_52_later_53_p1169.out)
              have kearlier_52_1_p1169__1361 := cell_other kearlier_52_1_p1169__1343 Gb65_65.out (Apart.symm Dearlier_52_later_53_p1169.out)
              have kearlier_52_2_p1169__1362 := cell_other kearlier_52_2_p1169__1344 Gb65_65.out (Apart.symm Dearlier_52_later_53_p1169.out)
              have kearlier_52_3_p1169__1363 := cell_other kearlier_52_3_p1169__1345 Gb65_65.out (Apart.symm Dearlier_52_later_53_p1169.out)
              have kearlier_52_4_p1169__1364 := cell_other kearlier_52_4_p1169__1346 Gb65_65.out (Apart.symm Dearlier_52_later_53_p1169.out)
              replace Pb59_59 := Lib.hid (own_other Pb59_59.out Gb65_65.out (Apart.symm Dearlier_52_later_53_p1169.out))
              clear Pb62_62 Gb65_65
              have klater_53_0_p1155__1365 : wb65_65.cell? ⟨wt_28.heap.size, 0, none⟩ = some (.int .i64 t_35_zone) := Pb65_65.out.cells rfl 0 _ rfl
              have klater_53_1_p1155__1366 : wb65_65.cell? ⟨wt_28.heap.size, 1, none⟩ = some (.int .i64 t_35_grams) := Pb65_65.out.cells rfl 1 _ rfl
              have klater_53_2_p1155__1367 : wb65_65.cell? ⟨wt_28.heap.size, 2, none⟩ = some (.int .i64 day) := Pb65_65.out.cells rfl 2 _ rfl
              have klater_53_3_p1155__1368 : wb65_65.cell? ⟨wt_28.heap.size, 3, none⟩ = some (.int .i64 t_35_until_) := Pb65_65.out.cells rfl 3 _ rfl
              have klater_53_4_p1155__1369 : wb65_65.cell? ⟨wt_28.heap.size, 4, none⟩ = some (.int .i64 cents) := Pb65_65.out.cells rfl 4 _ rfl
              go_wp2_with fail
              clear z0b59_59 kday_0_0__1189_p1207 kclass_24_0__1190_p1207 kclass_24_1__1191_p1207 ct_35_0__1192_p1207 ct_35_1__1193_p1207 ct_35_2__1194_p1207 ct_35_3__1195_p1207 ct_35_4__1196_p1207 klater_53_0_p1155__1202_p1207 klater_53_1_p1155__1203_p1207 klater_53_2_p1155__1204_p1207 klater_53_3_p1155__1205_p1207 klater_53_4_p1155__1206_p1207 kearlier_52_0_p1169__1197_p1207 kearlier_52_1_p1169__1198_p1207 kearlier_52_2_p1169__1199_p1207 kearlier_52_3_p1169__1200_p1207 kearlier_52_4_p1169__1201_p1207 z0b62_62 kday_0_0__1316 kclass_24_0__1317 kclass_24_1__1318 ct_35_0__1319 ct_35_1__1320 ct_35_2__1321 ct_35_3__1322 ct_35_4__1323 kearlier_52_0_p1169__1329 kearlier_52_1_p1169__1330 kearlier_52_2_p1169__1331 kearlier_52_3_p1169__1332 kearlier_52_4_p1169__1333 klater_53_0_p1155__1324 klater_53_1_p1155__1325 klater_53_2_p1155__1326 klater_53_3_p1155__1327 klater_53_4_p1155__1328 z0b65_65 kday_0_0__1334 kclass_24_0__1335 kclass_24_1__1336 ct_35_0__1337 ct_35_1__1338 ct_35_2__1339 ct_35_3__1340 ct_35_4__1341 kearlier_52_0_p1169__1342 kearlier_52_1_p1169__1343 kearlier_52_2_p1169__1344 kearlier_52_3_p1169__1345 kearlier_52_4_p1169__1346 klater_53_0_p1155__1347 klater_53_1_p1155__1348 klater_53_2_p1155__1349 klater_53_3_p1155__1350 klater_53_4_p1155__1351
              have bd11 : Below wb65_65.heap.size wb65_65 wb65_65.drew := (Below.refl _ _).drew
              have HBwb65_65.drew := Lib.hid (Below.step HBwb65_65.out bd11)
              replace kday_0_0__1352 := cell_below bd11 kday_0_0__1352
              replace kclass_24_0__1353 := cell_below bd11 kclass_24_0__1353
              replace kclass_24_1__1354 := cell_below bd11 kclass_24_1__1354
              replace ct_35_0__1355 := cell_below bd11 ct_35_0__1355
              replace ct_35_1__1356 := cell_below bd11 ct_35_1__1356
              replace ct_35_2__1357 := cell_below bd11 ct_35_2__1357
              replace ct_35_3__1358 := cell_below bd11 ct_35_3__1358
              replace ct_35_4__1359 := cell_below bd11 ct_35_4__1359
              replace klater_53_0_p1155__1365 := cell_below bd11 klater_53_0_p1155__1365
              replace klater_53_1_p1155__1366 := cell_below bd11 klater_53_1_p1155__1366
              replace klater_53_2_p1155__1367 := cell_below bd11 klater_53_2_p1155__1367
              replace klater_53_3_p1155__1368 := cell_below bd11 klater_53_3_p1155__1368
              replace klater_53_4_p1155__1369 := cell_below bd11 klater_53_4_p1155__1369
              replace kearlier_52_0_p1169__1360 := cell_below bd11 kearlier_52_0_p1169__1360
              replace kearlier_52_1_p1169__1361 := cell_below bd11 kearlier_52_1_p1169__1361
              replace kearlier_52_2_p1169__1362 := cell_below bd11 kearlier_52_2_p1169__1362
              replace kearlier_52_3_p1169__1363 := cell_below bd11 kearlier_52_3_p1169__1363
              replace kearlier_52_4_p1169__1364 := cell_below bd11 kearlier_52_4_p1169__1364
              replace Pb65_65 := Lib.hid (own_below Pb65_65.out bd11)
              replace Pb59_59 := Lib.hid (own_below Pb59_59.out bd11)
              clear bd11
              replace H := guard_hid H
              obtain ⟨hl_t_68, H⟩ := H
              replace H := let_hid H
              obtain ⟨t_68, ht_68, H⟩ := H
              have dt_68 : ((Go.Proofs.Ytkinlkmmelkdnaa.PRate.flat list)).take (Int.toNat (nt_35 : Int) * 5) = (Go.Proofs.Ytkinlkmmelkdnaa.PRate.flat t_68) := by
                rw [← ht_68]
                exact flat_take Go.Proofs.Ytkinlkmmelkdnaa.PRate.Rate.cells 5 (fun _ => rfl) _ _
              have nt_68 : Int.toNat (nt_35 : Int) = t_68.length := by rw [← ht_68, List.length_take]; omega
              obtain ⟨rt_68, Mt_68, Qt_68⟩ := slice_headB (P := Try.prog) (t := 31) (e := 25) (k := .i64) (by kernel_rfl) (by kernel_rfl) hi_25 hz1_25 M0.out Q0.out hl_t_68 nt_68 dt_68
              have Nt_68 : Hid (t_68.length ≤ 9223372036854775807) := Lib.hid (by have := N0.out; omega)
              replace Mt_68 := Lib.hid Mt_68
              replace Qt_68 := Lib.hid Qt_68
              clear dt_68 nt_68 hl_t_68
              have hht_68 := Lib.hid ht_68
              clear ht_68
              replace H := let_hid H
              obtain ⟨t_71, ht_71, H⟩ := H
              obtain ⟨w_t_71, hw_t_71⟩ : ∃ x, wb65_65.drew.alloc (.cells #[.int .i64 t_35_zone, .int .i64 t_35_grams, .int .i64 t_35_from_, .int .i64 t_57, .int .i64 t_35_cents, .int .i64 t_35_zone, .int .i64 t_35_grams, .int .i64 day, .int .i64 t_35_until_, .int .i64 cents] 25) = x := ⟨_, rfl⟩
              have bw_t_71 : Below wb65_65.drew.heap.size wb65_65.drew w_t_71 := by rw [← hw_t_71]; exact (Below.refl _ _).alloc (Nat.le_refl _) _
              have hs_t_71 := HBwb65_65.drew.out.size
              have nt_71 : t_71.length = 2 := by rw [← ht_71]; rfl
              have Ot_71 : Hid (w_t_71.ownsRow w.heap.size 25 5 (.slice (some ⟨wb65_65.heap.size, 0, none⟩) 2 2) 2 (Go.Proofs.Ytkinlkmmelkdnaa.PRate.flat t_71)) := by
                rw [← hw_t_71, ← ht_71]
                have e_ : ([.int .i64 t_35_zone, .int .i64 t_35_grams, .int .i64 t_35_from_, .int .i64 t_57, .int .i64 t_35_cents, .int .i64 t_35_zone, .int .i64 t_35_grams, .int .i64 day, .int .i64 t_35_until_, .int .i64 cents] : List Value) = (Go.Proofs.Ytkinlkmmelkdnaa.PRate.flat ([(Go.Proofs.Ytkinlkmmelkdnaa.PRate.Rate.mk t_35_zone t_35_grams t_35_from_ t_57 t_35_cents), (Go.Proofs.Ytkinlkmmelkdnaa.PRate.Rate.mk t_35_zone t_35_grams day t_35_until_ cents)] : List Go.Proofs.Ytkinlkmmelkdnaa.PRate.Rate)) := rfl
                exact Lib.hid (own_laid (n := 2) hs_t_71 e_ rfl (by unfold maxLen; omega))
              clear hs_t_71
              have hht_71 := Lib.hid ht_71
              clear ht_71
              replace nt_71 := Lib.hid nt_71
              have Dt_71_day_0 := Lib.hid (apart_box kday_0_0__1352)
              have Dt_71_class_24 := Lib.hid (apart_box kclass_24_0__1353)
              have Dt_71_later_53 := Lib.hid (apart_box klater_53_0_p1155__1365)
              have Dt_71_earlier_52 := Lib.hid (apart_box kearlier_52_0_p1169__1360)
              have HBw_t_71 := Lib.hid (Below.step HBwb65_65.drew.out bw_t_71)
              have kday_0_0__1370 := cell_below bw_t_71 kday_0_0__1352
              have kclass_24_0__1371 := cell_below bw_t_71 kclass_24_0__1353
              have kclass_24_1__1372 := cell_below bw_t_71 kclass_24_1__1354
              have ct_35_0__1373 := cell_below bw_t_71 ct_35_0__1355
              have ct_35_1__1374 := cell_below bw_t_71 ct_35_1__1356
              have ct_35_2__1375 := cell_below bw_t_71 ct_35_2__1357
              have ct_35_3__1376 := cell_below bw_t_71 ct_35_3__1358
              have ct_35_4__1377 := cell_below bw_t_71 ct_35_4__1359
              have klater_53_0_p1155__1378 := cell_below bw_t_71 klater_53_0_p1155__1365
              have klater_53_1_p1155__1379 := cell_below bw_t_71 klater_53_1_p1155__1366
              have klater_53_2_p1155__1380 := cell_below bw_t_71 klater_53_2_p1155__1367
              have klater_53_3_p1155__1381 := cell_below bw_t_71 klater_53_3_p1155__1368
              have klater_53_4_p1155__1382 := cell_below bw_t_71 klater_53_4_p1155__1369
              have kearlier_52_0_p1169__1383 := cell_below bw_t_71 kearlier_52_0_p1169__1360
              have kearlier_52_1_p1169__1384 := cell_below bw_t_71 kearlier_52_1_p1169__1361
              have kearlier_52_2_p1169__1385 := cell_below bw_t_71 kearlier_52_2_p1169__1362
              have kearlier_52_3_p1169__1386 := cell_below bw_t_71 kearlier_52_3_p1169__1363
              have kearlier_52_4_p1169__1387 := cell_below bw_t_71 kearlier_52_4_p1169__1364
              replace Pb65_65 := Lib.hid (own_below Pb65_65.out bw_t_71)
              replace Pb59_59 := Lib.hid (own_below Pb59_59.out bw_t_71)
              clear bw_t_71
              replace H := let_hid H
              obtain ⟨t_74, ht_74, H⟩ := H
              replace H := guard_hid H
              obtain ⟨hl_t_75, H⟩ := H
              replace H := let_hid H
              obtain ⟨t_75, ht_75, H⟩ := H
              have dt_75 : ((Go.Proofs.Ytkinlkmmelkdnaa.PRate.flat list)).drop (Int.toNat t_74 * 5) = (Go.Proofs.Ytkinlkmmelkdnaa.PRate.flat t_75) := by
                rw [← ht_75]
                exact flat_drop Go.Proofs.Ytkinlkmmelkdnaa.PRate.Rate.cells 5 (fun _ => rfl) _ _
              have nt_75 : list.length - Int.toNat t_74 = t_75.length := by rw [← ht_75, List.length_drop]
              obtain ⟨At_75, ct_75, rt_75, Mt_75, Qt_75⟩ := slice_tail (P := Try.prog) (t := 31) (e := 25) (k := .i64) (by kernel_rfl) (by kernel_rfl) hi_25 hz1_25 M0.out Q0.out hl_t_75 nt_75 dt_75
              have Nt_75 : Hid (t_75.length ≤ 9223372036854775807) := Lib.hid (by have := N0.out; omega)
              replace Mt_75 := Lib.hid Mt_75
              replace Qt_75 := Lib.hid Qt_75
              clear dt_75 nt_75 hl_t_75
              have hht_75 := Lib.hid ht_75
              clear ht_75
              have Not_75 := Nt_75.out
              replace H := let_hid H
              obtain ⟨t_76, ht_76, H⟩ := H
              have hc1_ := nt_71.out
              have Ort_76_1 := Lib.hid (own_len hc1_ Ot_71.out)
              obtain ⟨w_t_76, hw_t_76⟩ : ∃ x, w_t_71.alloc (.cells #[.slice (some ⟨ab_t_35, ao_t_35, none⟩) t_68.length c0, .slice (some ⟨wb65_65.heap.size, 0, none⟩) 2 2, .slice At_75 t_75.length ct_75] 31) = x := ⟨_, rfl⟩
              have bw_t_76 : Below w_t_71.heap.size w_t_71 w_t_76 := by rw [← hw_t_76]; exact (Below.refl _ _).alloc (Nat.le_refl _) _
              have nt_76 : Hid (t_76.length = 3) := Lib.hid (by rw [← ht_76]; rfl)
              have Rt_76 : Hid (Go.Proofs.Ytkinlkmmelkdnaa.GoN.ReadNest w_t_76 5 Go.Proofs.Ytkinlkmmelkdnaa.PRate.flat (some ⟨w_t_71.heap.size, 0, none⟩) t_76) := Lib.hid (by rw [← hw_t_76, ← ht_76]; exact Go.Proofs.Ytkinlkmmelkdnaa.GoN.read_lit3 rfl (by rw [hc1_]) rfl (Cells.below Mt_68.out HBw_t_71.out) Qt_68.out Nt_68.out (own_cells Ort_76_1.out) (own_room Ort_76_1.out) (own_max Ort_76_1.out) (Cells.below Mt_75.out HBw_t_71.out) Qt_75.out Nt_75.out)
              have Nt_76 : Hid (t_76.length ≤ 9223372036854775807) := Lib.hid (by rw [nt_76.out]; omega)
              have Qt_76 : Hid (Room (some ⟨w_t_71.heap.size, 0, none⟩) t_76.length 3) := Lib.hid (by rw [nt_76.out]; exact ⟨Nat.le_refl _, fun h_ => by simp at h_⟩)
              have hht_76 := Lib.hid ht_76
              clear ht_76
              have HBw_t_76 := Lib.hid (Below.step HBw_t_71.out bw_t_76)
              have kday_0_0__1388 := cell_below bw_t_76 kday_0_0__1370
              have kclass_24_0__1389 := cell_below bw_t_76 kclass_24_0__1371
              have kclass_24_1__1390 := cell_below bw_t_76 kclass_24_1__1372
              have ct_35_0__1391 := cell_below bw_t_76 ct_35_0__1373
              have ct_35_1__1392 := cell_below bw_t_76 ct_35_1__1374
              have ct_35_2__1393 := cell_below bw_t_76 ct_35_2__1375
              have ct_35_3__1394 := cell_below bw_t_76 ct_35_3__1376
              have ct_35_4__1395 := cell_below bw_t_76 ct_35_4__1377
              have klater_53_0_p1155__1396 := cell_below bw_t_76 klater_53_0_p1155__1378
              have klater_53_1_p1155__1397 := cell_below bw_t_76 klater_53_1_p1155__1379
              have klater_53_2_p1155__1398 := cell_below bw_t_76 klater_53_2_p1155__1380
              have klater_53_3_p1155__1399 := cell_below bw_t_76 klater_53_3_p1155__1381
              have klater_53_4_p1155__1400 := cell_below bw_t_76 klater_53_4_p1155__1382
              have kearlier_52_0_p1169__1401 := cell_below bw_t_76 kearlier_52_0_p1169__1383
              have kearlier_52_1_p1169__1402 := cell_below bw_t_76 kearlier_52_1_p1169__1384
              have kearlier_52_2_p1169__1403 := cell_below bw_t_76 kearlier_52_2_p1169__1385
              have kearlier_52_3_p1169__1404 := cell_below bw_t_76 kearlier_52_3_p1169__1386
              have kearlier_52_4_p1169__1405 := cell_below bw_t_76 kearlier_52_4_p1169__1387
              replace Ot_71 := Lib.hid (own_below Ot_71.out bw_t_76)
              replace Pb65_65 := Lib.hid (own_below Pb65_65.out bw_t_76)
              replace Pb59_59 := Lib.hid (own_below Pb59_59.out bw_t_76)
              clear bw_t_76
              replace H := bind_hid H
              obtain ⟨t_77, qt_77, H⟩ := H
              go_region_held3 (fun w' => w'.cell? ⟨w.heap.size, 0, none⟩ = some (.int .i64 day) ∧ w'.cell? ⟨wt_15.heap.size, 0, none⟩ = some (.int .i64 zone) ∧ w'.cell? ⟨wt_15.heap.size, 1, none⟩ = some (.int .i64 grams) ∧ w'.cell? ⟨ab_t_35, ao_t_35 + nt_35 * 5, none⟩ = some (.int .i64 t_35_zone) ∧ w'.cell? ⟨ab_t_35, ao_t_35 + nt_35 * 5 + 1, none⟩ = some (.int .i64 t_35_grams) ∧ w'.cell? ⟨ab_t_35, ao_t_35 + nt_35 * 5 + 2, none⟩ = some (.int .i64 t_35_from_) ∧ w'.cell? ⟨ab_t_35, ao_t_35 + nt_35 * 5 + 3, none⟩ = some (.int .i64 t_35_until_) ∧ w'.cell? ⟨ab_t_35, ao_t_35 + nt_35 * 5 + 4, none⟩ = some (.int .i64 t_35_cents) ∧ w'.cell? ⟨wt_28.heap.size, 0, none⟩ = some (.int .i64 t_35_zone) ∧ w'.cell? ⟨wt_28.heap.size, 1, none⟩ = some (.int .i64 t_35_grams) ∧ w'.cell? ⟨wt_28.heap.size, 2, none⟩ = some (.int .i64 day) ∧ w'.cell? ⟨wt_28.heap.size, 3, none⟩ = some (.int .i64 t_35_until_) ∧ w'.cell? ⟨wt_28.heap.size, 4, none⟩ = some (.int .i64 cents) ∧ w'.cell? ⟨w_earlier_52_p1094.heap.size, 0, none⟩ = some (.int .i64 t_35_zone) ∧ w'.cell? ⟨w_earlier_52_p1094.heap.size, 1, none⟩ = some (.int .i64 t_35_grams) ∧ w'.cell? ⟨w_earlier_52_p1094.heap.size, 2, none⟩ = some (.int .i64 t_35_from_) ∧ w'.cell? ⟨w_earlier_52_p1094.heap.size, 3, none⟩ = some (.int .i64 t_57) ∧ w'.cell? ⟨w_earlier_52_p1094.heap.size, 4, none⟩ = some (.int .i64 t_35_cents)) (first | exact ⟨kday_0_0__1352, kclass_24_0__1353, kclass_24_1__1354, ct_35_0__1355, ct_35_1__1356, ct_35_2__1357, ct_35_3__1358, ct_35_4__1359, klater_53_0_p1155__1365, klater_53_1_p1155__1366, klater_53_2_p1155__1367, klater_53_3_p1155__1368, klater_53_4_p1155__1369, kearlier_52_0_p1169__1360, kearlier_52_1_p1169__1361, kearlier_52_2_p1169__1362, kearlier_52_3_p1169__1363, kearlier_52_4_p1169__1364⟩ | exact ⟨kday_0_0__1370, kclass_24_0__1371, kclass_24_1__1372, ct_35_0__1373, ct_35_1__1374, ct_35_2__1375, ct_35_3__1376, ct_35_4__1377, klater_53_0_p1155__1378, klater_53_1_p1155__1379, klater_53_2_p1155__1380, klater_53_3_p1155__1381, klater_53_4_p1155__1382, kearlier_52_0_p1169__1383, kearlier_52_1_p1169__1384, kearlier_52_2_p1169__1385, kearlier_52_3_p1169__1386, kearlier_52_4_p1169__1387⟩ | exact ⟨kday_0_0__1388, kclass_24_0__1389, kclass_24_1__1390, ct_35_0__1391, ct_35_1__1392, ct_35_2__1393, ct_35_3__1394, ct_35_4__1395, klater_53_0_p1155__1396, klater_53_1_p1155__1397, klater_53_2_p1155__1398, klater_53_3_p1155__1399, klater_53_4_p1155__1400, kearlier_52_0_p1169__1401, kearlier_52_1_p1169__1402, kearlier_52_2_p1169__1403, kearlier_52_3_p1169__1404, kearlier_52_4_p1169__1405⟩)
                  (first
                    | (have hc0_ := nt_76.out
                       have con_ := Go.Proofs.Ytkinlkmmelkdnaa.GxSlicesConcatLoopExampleG01062ImplRateLoopExampleG01062ImplRate.C (t_76) (some ⟨w_t_71.heap.size, 0, none⟩) 3 _   (Lib.hid (Rt_76.out)) Nt_76 Qt_76 qt_77
                       rw [hc0_] at con_
                       clear hc0_
                       go_at_call 92
                       refine con_.mono ?_
                       rintro e_t_77 wt_77 ⟨At_77, ct_77, rfl, ot_77, bt_77⟩
                       have Dt_77_t_71 := Lib.hid (apart_call ot_77 Ot_71.out)
                       have Dt_77_day_0 := Lib.hid (apart_callbox ot_77 kday_0_0__1388)
                       have Dt_77_class_24 := Lib.hid (apart_callbox ot_77 kclass_24_0__1389)
                       have Dt_77_later_53 := Lib.hid (apart_callbox ot_77 klater_53_0_p1155__1396)
                       have Dt_77_earlier_52 := Lib.hid (apart_callbox ot_77 kearlier_52_0_p1169__1401)
                       have Ot_77 := Lib.hid (own_lower ot_77 HBw_t_76.out.size)
                       clear ot_77
                       have HBwt_77 := Lib.hid (Below.step HBw_t_76.out bt_77)
                       replace kday_0_0__1388 := cell_below bt_77 kday_0_0__1388
                       replace kclass_24_0__1389 := cell_below bt_77 kclass_24_0__1389
                       replace kclass_24_1__1390 := cell_below bt_77 kclass_24_1__1390
                       replace ct_35_0__1391 := cell_below bt_77 ct_35_0__1391
                       replace ct_35_1__1392 := cell_below bt_77 ct_35_1__1392
                       replace ct_35_2__1393 := cell_below bt_77 ct_35_2__1393
                       replace ct_35_3__1394 := cell_below bt_77 ct_35_3__1394
                       replace ct_35_4__1395 := cell_below bt_77 ct_35_4__1395
                       replace klater_53_0_p1155__1396 := cell_below bt_77 klater_53_0_p1155__1396
                       replace klater_53_1_p1155__1397 := cell_below bt_77 klater_53_1_p1155__1397
                       replace klater_53_2_p1155__1398 := cell_below bt_77 klater_53_2_p1155__1398
                       replace klater_53_3_p1155__1399 := cell_below bt_77 klater_53_3_p1155__1399
                       replace klater_53_4_p1155__1400 := cell_below bt_77 klater_53_4_p1155__1400
                       replace kearlier_52_0_p1169__1401 := cell_below bt_77 kearlier_52_0_p1169__1401
                       replace kearlier_52_1_p1169__1402 := cell_below bt_77 kearlier_52_1_p1169__1402
                       replace kearlier_52_2_p1169__1403 := cell_below bt_77 kearlier_52_2_p1169__1403
                       replace kearlier_52_3_p1169__1404 := cell_below bt_77 kearlier_52_3_p1169__1404
                       replace kearlier_52_4_p1169__1405 := cell_below bt_77 kearlier_52_4_p1169__1405
                       replace Ot_71 := Lib.hid (own_below Ot_71.out bt_77)
                       replace Pb65_65 := Lib.hid (own_below Pb65_65.out bt_77)
                       replace Pb59_59 := Lib.hid (own_below Pb59_59.out bt_77)
                       clear bt_77
                       clear qt_77))
              try clear kday_0_0__1352
              try clear kclass_24_0__1353
              try clear kclass_24_1__1354
              try clear ct_35_0__1355
              try clear ct_35_1__1356
              try clear ct_35_2__1357
              try clear ct_35_3__1358
              try clear ct_35_4__1359
              try clear klater_53_0_p1155__1365
              try clear klater_53_1_p1155__1366
              try clear klater_53_2_p1155__1367
              try clear klater_53_3_p1155__1368
              try clear klater_53_4_p1155__1369
              try clear kearlier_52_0_p1169__1360
              try clear kearlier_52_1_p1169__1361
              try clear kearlier_52_2_p1169__1362
              try clear kearlier_52_3_p1169__1363
              try clear kearlier_52_4_p1169__1364
              try clear kday_0_0__1370
              try clear kclass_24_0__1371
              try clear kclass_24_1__1372
              try clear ct_35_0__1373
              try clear ct_35_1__1374
              try clear ct_35_2__1375
              try clear ct_35_3__1376
              try clear ct_35_4__1377
              try clear klater_53_0_p1155__1378
              try clear klater_53_1_p1155__1379
              try clear klater_53_2_p1155__1380
              try clear klater_53_3_p1155__1381
              try clear klater_53_4_p1155__1382
              try clear kearlier_52_0_p1169__1383
              try clear kearlier_52_1_p1169__1384
              try clear kearlier_52_2_p1169__1385
              try clear kearlier_52_3_p1169__1386
              try clear kearlier_52_4_p1169__1387
              replace H := bind_hid H
              obtain ⟨t_80, qt_80, H⟩ := H
              go_wp2_with fail
              go_at_call 20
              refine (Go.Proofs.Ytkinlkmmelkdnaa.GiAreRates.C (t_77) At_77 ct_77 _   (Lib.hid (own_cells Ot_77.out)) (Lib.hid (own_max Ot_77.out)) qt_80).mono ?_
              rintro e_t_80 wt_80 ⟨rfl, bt_80⟩
              have HBwt_80 := Lib.hid (Below.step HBwt_77.out bt_80)
              replace kday_0_0__1388 := cell_below bt_80 kday_0_0__1388
              replace kclass_24_0__1389 := cell_below bt_80 kclass_24_0__1389
              replace kclass_24_1__1390 := cell_below bt_80 kclass_24_1__1390
              replace ct_35_0__1391 := cell_below bt_80 ct_35_0__1391
              replace ct_35_1__1392 := cell_below bt_80 ct_35_1__1392
              replace ct_35_2__1393 := cell_below bt_80 ct_35_2__1393
              replace ct_35_3__1394 := cell_below bt_80 ct_35_3__1394
              replace ct_35_4__1395 := cell_below bt_80 ct_35_4__1395
              replace klater_53_0_p1155__1396 := cell_below bt_80 klater_53_0_p1155__1396
              replace klater_53_1_p1155__1397 := cell_below bt_80 klater_53_1_p1155__1397
              replace klater_53_2_p1155__1398 := cell_below bt_80 klater_53_2_p1155__1398
              replace klater_53_3_p1155__1399 := cell_below bt_80 klater_53_3_p1155__1399
              replace klater_53_4_p1155__1400 := cell_below bt_80 klater_53_4_p1155__1400
              replace kearlier_52_0_p1169__1401 := cell_below bt_80 kearlier_52_0_p1169__1401
              replace kearlier_52_1_p1169__1402 := cell_below bt_80 kearlier_52_1_p1169__1402
              replace kearlier_52_2_p1169__1403 := cell_below bt_80 kearlier_52_2_p1169__1403
              replace kearlier_52_3_p1169__1404 := cell_below bt_80 kearlier_52_3_p1169__1404
              replace kearlier_52_4_p1169__1405 := cell_below bt_80 kearlier_52_4_p1169__1405
              replace Ot_71 := Lib.hid (own_below Ot_71.out bt_80)
              replace Ot_77 := Lib.hid (own_below Ot_77.out bt_80)
              replace Pb65_65 := Lib.hid (own_below Pb65_65.out bt_80)
              replace Pb59_59 := Lib.hid (own_below Pb59_59.out bt_80)
              clear bt_80
              cases t_80 with
              | false =>
                replace H := let_hid H
                obtain ⟨t_81, ht_81, H⟩ := H
                obtain rfl : t_81 = true := ht_81.symm
                replace H := ite_t H
                obtain ⟨w_t_82, hw_t_82⟩ : ∃ x, wt_80.alloc (.cells #[] 25) = x := ⟨_, rfl⟩
                have bw_t_82 : Below wt_80.heap.size wt_80 w_t_82 := by rw [← hw_t_82]; exact (Below.refl _ _).alloc (Nat.le_refl _) _
                have Ot_82 : Hid (w_t_82.ownsRow w.heap.size 25 5 (.slice (some ⟨wt_80.heap.size, 0, none⟩) 0 0) 0 []) := Lib.hid (by rw [← hw_t_82]; exact own_empty HBwt_80.out.size)
                have Dt_82_t_71 := Lib.hid (apart_fresh Ot_71.out)
                have Dt_82_t_77 := Lib.hid (apart_fresh Ot_77.out)
                have Dt_82_day_0 := Lib.hid (apart_box kday_0_0__1388)
                have Dt_82_class_24 := Lib.hid (apart_box kclass_24_0__1389)
                have Dt_82_later_53 := Lib.hid (apart_box klater_53_0_p1155__1396)
                have Dt_82_earlier_52 := Lib.hid (apart_box kearlier_52_0_p1169__1401)
                have HBw_t_82 := Lib.hid (Below.step HBwt_80.out bw_t_82)
                have kday_0_0__1406 := cell_below bw_t_82 kday_0_0__1388
                have kclass_24_0__1407 := cell_below bw_t_82 kclass_24_0__1389
                have kclass_24_1__1408 := cell_below bw_t_82 kclass_24_1__1390
                have ct_35_0__1409 := cell_below bw_t_82 ct_35_0__1391
                have ct_35_1__1410 := cell_below bw_t_82 ct_35_1__1392
                have ct_35_2__1411 := cell_below bw_t_82 ct_35_2__1393
                have ct_35_3__1412 := cell_below bw_t_82 ct_35_3__1394
                have ct_35_4__1413 := cell_below bw_t_82 ct_35_4__1395
                have klater_53_0_p1155__1414 := cell_below bw_t_82 klater_53_0_p1155__1396
                have klater_53_1_p1155__1415 := cell_below bw_t_82 klater_53_1_p1155__1397
                have klater_53_2_p1155__1416 := cell_below bw_t_82 klater_53_2_p1155__1398
                have klater_53_3_p1155__1417 := cell_below bw_t_82 klater_53_3_p1155__1399
                have klater_53_4_p1155__1418 := cell_below bw_t_82 klater_53_4_p1155__1400
                have kearlier_52_0_p1169__1419 := cell_below bw_t_82 kearlier_52_0_p1169__1401
                have kearlier_52_1_p1169__1420 := cell_below bw_t_82 kearlier_52_1_p1169__1402
                have kearlier_52_2_p1169__1421 := cell_below bw_t_82 kearlier_52_2_p1169__1403
                have kearlier_52_3_p1169__1422 := cell_below bw_t_82 kearlier_52_3_p1169__1404
                have kearlier_52_4_p1169__1423 := cell_below bw_t_82 kearlier_52_4_p1169__1405
                replace Ot_71 := Lib.hid (own_below Ot_71.out bw_t_82)
                replace Ot_77 := Lib.hid (own_below Ot_77.out bw_t_82)
                replace Pb65_65 := Lib.hid (own_below Pb65_65.out bw_t_82)
                replace Pb59_59 := Lib.hid (own_below Pb59_59.out bw_t_82)
                clear bw_t_82
                cases ret_hid H
                go_wp2_with fail
                go_ret2
                exact ⟨(some ⟨wt_80.heap.size, 0, none⟩), 0, rfl, Ot_82.out, HBw_t_82.out⟩
              | true =>
                replace H := let_hid H
                obtain ⟨t_81, ht_81, H⟩ := H
                obtain rfl : t_81 = false := ht_81.symm
                replace H := ite_f H
                cases ret_hid H
                go_wp2_with fail
                go_ret2
                exact ⟨At_77, ct_77, rfl, Ot_77.out, HBwt_80.out⟩
          | true =>
            replace H := ite_t H
            obtain ⟨w_t_41, hw_t_41⟩ : ∃ x, wt_28.alloc (.cells #[] 25) = x := ⟨_, rfl⟩
            have bw_t_41 : Below wt_28.heap.size wt_28 w_t_41 := by rw [← hw_t_41]; exact (Below.refl _ _).alloc (Nat.le_refl _) _
            have Ot_41 : Hid (w_t_41.ownsRow w.heap.size 25 5 (.slice (some ⟨wt_28.heap.size, 0, none⟩) 0 0) 0 []) := Lib.hid (by rw [← hw_t_41]; exact own_empty HBwt_28.out.size)
            have Dt_41_day_0 := Lib.hid (apart_box kday_0_0__1027)
            have Dt_41_class_24 := Lib.hid (apart_box kclass_24_0)
            have HBw_t_41 := Lib.hid (Below.step HBwt_28.out bw_t_41)
            have kday_0_0__1424 := cell_below bw_t_41 kday_0_0__1027
            have kclass_24_0__1425 := cell_below bw_t_41 kclass_24_0
            have kclass_24_1__1426 := cell_below bw_t_41 kclass_24_1
            have ct_35_0__1427 := cell_below bw_t_41 ct_35_0
            have ct_35_1__1428 := cell_below bw_t_41 ct_35_1
            have ct_35_2__1429 := cell_below bw_t_41 ct_35_2
            have ct_35_3__1430 := cell_below bw_t_41 ct_35_3
            have ct_35_4__1431 := cell_below bw_t_41 ct_35_4
            clear bw_t_41
            cases ret_hid H
            go_wp2_with fail
            go_ret2
            exact ⟨(some ⟨wt_28.heap.size, 0, none⟩), 0, rfl, Ot_41.out, HBw_t_41.out⟩
        | true =>
          replace H := ite_t H
          replace H := app_hid H
          replace H := ite_t H
          obtain ⟨w_t_41, hw_t_41⟩ : ∃ x, wt_28.alloc (.cells #[] 25) = x := ⟨_, rfl⟩
          have bw_t_41 : Below wt_28.heap.size wt_28 w_t_41 := by rw [← hw_t_41]; exact (Below.refl _ _).alloc (Nat.le_refl _) _
          have Ot_41 : Hid (w_t_41.ownsRow w.heap.size 25 5 (.slice (some ⟨wt_28.heap.size, 0, none⟩) 0 0) 0 []) := Lib.hid (by rw [← hw_t_41]; exact own_empty HBwt_28.out.size)
          have Dt_41_day_0 := Lib.hid (apart_box kday_0_0__1027)
          have Dt_41_class_24 := Lib.hid (apart_box kclass_24_0)
          have HBw_t_41 := Lib.hid (Below.step HBwt_28.out bw_t_41)
          have kday_0_0__1432 := cell_below bw_t_41 kday_0_0__1027
          have kclass_24_0__1433 := cell_below bw_t_41 kclass_24_0
          have kclass_24_1__1434 := cell_below bw_t_41 kclass_24_1
          clear bw_t_41
          cases ret_hid H
          go_wp2_with fail
          go_ret2
          exact ⟨(some ⟨wt_28.heap.size, 0, none⟩), 0, rfl, Ot_41.out, HBw_t_41.out⟩
end Go.Proofs.Ytkinlkmmelkdnaa.GiRaiseRate

/- loop.example/g01062/laws.eqRate as a plain function, and the contract of the program's: where the plain one has an answer, the program has it. Conditions: slices read as lists. -/
namespace Go.Proofs.Ytkinlkmmelkdnaa.GlEqRate
set_option linter.unusedVariables false
set_option linter.unusedSimpArgs false
open Go.RowKit
open Go.Proofs.Ytkinlkmmelkdnaa.Rowed Go.Proofs.Ytkinlkmmelkdnaa.Turn Go.Proofs.Ytkinlkmmelkdnaa.Aid Go.Proofs.Ytkinlkmmelkdnaa.GoP Go.Proofs.Ytkinlkmmelkdnaa.GoM

def P (a : Go.Proofs.Ytkinlkmmelkdnaa.PRate.Rate) (b : Go.Proofs.Ytkinlkmmelkdnaa.PRate.Rate) : Option (Bool) :=
  unRate a fun (a_zone : Int) (a_grams : Int) (a_from_ : Int) (a_until_ : Int) (a_cents : Int) =>
  unRate b fun (b_zone : Int) (b_grams : Int) (b_from_ : Int) (b_until_ : Int) (b_cents : Int) =>
  letK (a_zone != b_zone) fun (t_7 : Bool) =>
  iteK t_7
  (some false)
  (letK (a_grams != b_grams) fun (t_13 : Bool) =>
  iteK t_13
  (some false)
  (letK (a_from_ != b_from_) fun (t_19 : Bool) =>
  iteK t_19
  (some false)
  (letK (a_until_ != b_until_) fun (t_25 : Bool) =>
  iteK t_25
  (some false)
  (letK (a_cents != b_cents) fun (t_31 : Bool) =>
  iteK t_31
  (some false)
  (some true)))))

set_option maxRecDepth 100000 in
set_option maxHeartbeats 2000000 in
theorem C (a : Go.Proofs.Ytkinlkmmelkdnaa.PRate.Rate) (b : Go.Proofs.Ytkinlkmmelkdnaa.PRate.Rate)   (w : World)   {r : Bool} (H : Hid (P a b = some r)) :
    Calls Try.prog 77 #[a.val, b.val] w (Gives (.bool r) w) := by
  have HB := Lib.hid (Below.refl w.heap.size w)
  unfold P at H
  obtain ⟨a_zone, a_grams, a_from_, a_until_, a_cents⟩ := a
  replace H := unRate_hid H
  obtain ⟨b_zone, b_grams, b_from_, b_until_, b_cents⟩ := b
  replace H := unRate_hid H
  unfold Go.Proofs.Ytkinlkmmelkdnaa.PRate.Rate.val
  go_enter Try.func77, Try.ntmps77
  obtain ⟨w_a_0, hw_a_0⟩ : ∃ x, w.alloc (.cells #[.int .i64 a_zone, .int .i64 a_grams, .int .i64 a_from_, .int .i64 a_until_, .int .i64 a_cents] 25) = x := ⟨_, rfl⟩
  have bw_a_0 : Below w.heap.size w w_a_0 := by rw [← hw_a_0]; exact (Below.refl _ _).alloc (Nat.le_refl _) _
  have HBw_a_0 := Lib.hid (Below.step HB.out bw_a_0)
  clear bw_a_0
  have ka_0_0 : w_a_0.cell? ⟨w.heap.size, 0, none⟩ = some (.int .i64 a_zone) := by rw [← hw_a_0]; exact box_new _ _ _ 0 _ rfl
  have ka_0_1 : w_a_0.cell? ⟨w.heap.size, 1, none⟩ = some (.int .i64 a_grams) := by rw [← hw_a_0]; exact box_new _ _ _ 1 _ rfl
  have ka_0_2 : w_a_0.cell? ⟨w.heap.size, 2, none⟩ = some (.int .i64 a_from_) := by rw [← hw_a_0]; exact box_new _ _ _ 2 _ rfl
  have ka_0_3 : w_a_0.cell? ⟨w.heap.size, 3, none⟩ = some (.int .i64 a_until_) := by rw [← hw_a_0]; exact box_new _ _ _ 3 _ rfl
  have ka_0_4 : w_a_0.cell? ⟨w.heap.size, 4, none⟩ = some (.int .i64 a_cents) := by rw [← hw_a_0]; exact box_new _ _ _ 4 _ rfl
  obtain ⟨w_b_1, hw_b_1⟩ : ∃ x, w_a_0.alloc (.cells #[.int .i64 b_zone, .int .i64 b_grams, .int .i64 b_from_, .int .i64 b_until_, .int .i64 b_cents] 25) = x := ⟨_, rfl⟩
  have bw_b_1 : Below w_a_0.heap.size w_a_0 w_b_1 := by rw [← hw_b_1]; exact (Below.refl _ _).alloc (Nat.le_refl _) _
  have HBw_b_1 := Lib.hid (Below.step HBw_a_0.out bw_b_1)
  have ka_0_0__1435 := cell_below bw_b_1 ka_0_0
  have ka_0_1__1436 := cell_below bw_b_1 ka_0_1
  have ka_0_2__1437 := cell_below bw_b_1 ka_0_2
  have ka_0_3__1438 := cell_below bw_b_1 ka_0_3
  have ka_0_4__1439 := cell_below bw_b_1 ka_0_4
  clear bw_b_1
  have kb_1_0 : w_b_1.cell? ⟨w_a_0.heap.size, 0, none⟩ = some (.int .i64 b_zone) := by rw [← hw_b_1]; exact box_new _ _ _ 0 _ rfl
  have kb_1_1 : w_b_1.cell? ⟨w_a_0.heap.size, 1, none⟩ = some (.int .i64 b_grams) := by rw [← hw_b_1]; exact box_new _ _ _ 1 _ rfl
  have kb_1_2 : w_b_1.cell? ⟨w_a_0.heap.size, 2, none⟩ = some (.int .i64 b_from_) := by rw [← hw_b_1]; exact box_new _ _ _ 2 _ rfl
  have kb_1_3 : w_b_1.cell? ⟨w_a_0.heap.size, 3, none⟩ = some (.int .i64 b_until_) := by rw [← hw_b_1]; exact box_new _ _ _ 3 _ rfl
  have kb_1_4 : w_b_1.cell? ⟨w_a_0.heap.size, 4, none⟩ = some (.int .i64 b_cents) := by rw [← hw_b_1]; exact box_new _ _ _ 4 _ rfl
  replace H := let_hid H
  obtain ⟨t_7, ht_7, H⟩ := H
  cases t_7 with
  | false =>
    replace H := ite_f H
    replace H := let_hid H
    obtain ⟨t_13, ht_13, H⟩ := H
    cases t_13 with
    | false =>
      replace H := ite_f H
      replace H := let_hid H
      obtain ⟨t_19, ht_19, H⟩ := H
      cases t_19 with
      | false =>
        replace H := ite_f H
        replace H := let_hid H
        obtain ⟨t_25, ht_25, H⟩ := H
        cases t_25 with
        | false =>
          replace H := ite_f H
          replace H := let_hid H
          obtain ⟨t_31, ht_31, H⟩ := H
          cases t_31 with
          | false =>
            replace H := ite_f H
            obtain rfl := ret_hid H
            go_wp2_with fail
            go_ret
            exact ⟨rfl, HBw_b_1.out⟩
          | true =>
            replace H := ite_t H
            obtain rfl := ret_hid H
            go_wp2_with fail
            go_ret
            exact ⟨rfl, HBw_b_1.out⟩
        | true =>
          replace H := ite_t H
          obtain rfl := ret_hid H
          go_wp2_with fail
          go_ret
          exact ⟨rfl, HBw_b_1.out⟩
      | true =>
        replace H := ite_t H
        obtain rfl := ret_hid H
        go_wp2_with fail
        go_ret
        exact ⟨rfl, HBw_b_1.out⟩
    | true =>
      replace H := ite_t H
      obtain rfl := ret_hid H
      go_wp2_with fail
      go_ret
      exact ⟨rfl, HBw_b_1.out⟩
  | true =>
    replace H := ite_t H
    obtain rfl := ret_hid H
    go_wp2_with fail
    go_ret
    exact ⟨rfl, HBw_b_1.out⟩
end Go.Proofs.Ytkinlkmmelkdnaa.GlEqRate

/- loop.example/g01062/laws.eqRateS as a plain function, and the contract of the program's: where the plain one has an answer, the program has it. Conditions: slices read as lists. -/
namespace Go.Proofs.Ytkinlkmmelkdnaa.GlEqRateS
set_option linter.unusedVariables false
set_option linter.unusedSimpArgs false
open Go.RowKit
open Go.Proofs.Ytkinlkmmelkdnaa.Rowed Go.Proofs.Ytkinlkmmelkdnaa.Turn Go.Proofs.Ytkinlkmmelkdnaa.Aid Go.Proofs.Ytkinlkmmelkdnaa.GoP Go.Proofs.Ytkinlkmmelkdnaa.GoM

def l0 (a : (List Go.Proofs.Ytkinlkmmelkdnaa.PRate.Rate)) (b : (List Go.Proofs.Ytkinlkmmelkdnaa.PRate.Rate)) (k0 : Nat) (s : Unit) (nx0 bk0 : Unit → Option (Bool)) : Option (Bool) :=
  
  Option.bind (idx a (k0 : Int)) fun (yt_14 : Go.Proofs.Ytkinlkmmelkdnaa.PRate.Rate) =>
  unRate yt_14 fun (t_14_zone : Int) (t_14_grams : Int) (t_14_from_ : Int) (t_14_until_ : Int) (t_14_cents : Int) =>
  Option.bind (idx b (k0 : Int)) fun (yt_18 : Go.Proofs.Ytkinlkmmelkdnaa.PRate.Rate) =>
  unRate yt_18 fun (t_18_zone : Int) (t_18_grams : Int) (t_18_from_ : Int) (t_18_until_ : Int) (t_18_cents : Int) =>
  Option.bind (Go.Proofs.Ytkinlkmmelkdnaa.GlEqRate.P (Go.Proofs.Ytkinlkmmelkdnaa.PRate.Rate.mk t_14_zone t_14_grams t_14_from_ t_14_until_ t_14_cents) (Go.Proofs.Ytkinlkmmelkdnaa.PRate.Rate.mk t_18_zone t_18_grams t_18_from_ t_18_until_ t_18_cents)) fun (t_20 : Bool) =>
  letK (!t_20) fun (t_21 : Bool) =>
  iteK t_21
  (some false)
  (appK nx0 ())

def e0  (s : Unit) : Option (Bool) :=
  
  some true

def P (a : (List Go.Proofs.Ytkinlkmmelkdnaa.PRate.Rate)) (b : (List Go.Proofs.Ytkinlkmmelkdnaa.PRate.Rate)) : Option (Bool) :=
  letK ((a.length : Int) != (b.length : Int)) fun (t_5 : Bool) =>
  iteK t_5
  (some false)
  (cntK (l0 a b) (a.length) 0 () (e0 ))

set_option maxRecDepth 100000 in
set_option maxHeartbeats 2000000 in
theorem C (a : (List Go.Proofs.Ytkinlkmmelkdnaa.PRate.Rate)) (b : (List Go.Proofs.Ytkinlkmmelkdnaa.PRate.Rate)) (A0 : Option Addr) (c0 : Nat) (A1 : Option Addr) (c1 : Nat)  (w : World) (M0 : Hid (Cells w 5 A0 a.length (Go.Proofs.Ytkinlkmmelkdnaa.PRate.flat a))) (N0 : Hid (a.length ≤ 9223372036854775807)) (M1 : Hid (Cells w 5 A1 b.length (Go.Proofs.Ytkinlkmmelkdnaa.PRate.flat b))) (N1 : Hid (b.length ≤ 9223372036854775807))  {r : Bool} (H : Hid (P a b = some r)) :
    Calls Try.prog 21 #[.slice A0 a.length c0, .slice A1 b.length c1] w (Gives (.bool r) w) := by
  have HB := Lib.hid (Below.refl w.heap.size w)
  unfold P at H
  have N0o := N0.out
  have N1o := N1.out
  go_enter Try.func21, Try.ntmps21
  replace H := let_hid H
  obtain ⟨t_5, ht_5, H⟩ := H
  cases t_5 with
  | false =>
    have Hht_5 : Hid (a.length = b.length) := Lib.hid (by have := bne_eq_false_iff_eq.1 ht_5; omega)
    have nht_5 : (a.length == b.length) = true := beq_iff_eq.2 Hht_5.out
    replace H := ite_f H
    go_wp2_with fail
    go_loopg [5] (a.length) (fun m_ v5_ wr => ∃ (k0 : Nat) , k0 + m_ = a.length ∧ v5_ = .int .i64 (k0 : Int) ∧ Hid (cntK (l0 a b) m_ k0 () (e0 ) = some r) ∧ Hid (Below w.heap.size w wr))
    case atStart => exact ⟨0, by omega, rfl, H, HB⟩
    case round =>
      obtain ⟨k0, hkm0, rfl, H, HBwr0⟩ := hrel
      rename World => wr0
      cases gk with
      | zero =>
        obtain rfl : k0 = a.length := by omega
        have hc0 : decide (((a.length : Nat) : Int) < ((a.length : Nat) : Int)) = false := by simp
        replace H := cnt_zero H
        unfold e0 at H
        obtain rfl := ret_hid H
        go_wp2_with fail
        go_ret
        exact ⟨rfl, HBwr0.out⟩
      | succ m0 =>
        have hlt0 : k0 < a.length := by omega
        have hc0 : decide ((k0 : Int) < ((a.length : Nat) : Int)) = true := by simp; omega
        replace H := cnt_succ H
        unfold l0 at H
        go_wp2_with fail
        replace H := idx_hid H
        obtain ⟨nt_14, yt_14, et_14, lt_14, gt_14, H⟩ := H
        obtain rfl : k0 = nt_14 := by omega
        clear et_14
        obtain ⟨t_14_zone, t_14_grams, t_14_from_, t_14_until_, t_14_cents⟩ := yt_14
        replace H := unRate_hid H
        obtain ⟨ab_t_14, ao_t_14, zt_14, At_14, z_t_14, ct_14_0, ct_14_1, ct_14_2, ct_14_3, ct_14_4⟩ := Go.Proofs.Ytkinlkmmelkdnaa.ORate.at_ M0.out lt_14
        obtain rfl := Option.some.inj (gt_14.out.symm.trans z_t_14)
        subst At_14
        have ltt_14 := cell_lt ct_14_0
        replace ct_14_0 := cell_below HBwr0.out ct_14_0
        replace ct_14_1 := cell_below HBwr0.out ct_14_1
        replace ct_14_2 := cell_below HBwr0.out ct_14_2
        replace ct_14_3 := cell_below HBwr0.out ct_14_3
        replace ct_14_4 := cell_below HBwr0.out ct_14_4
        clear z_t_14
        have b0t_14 : (0 : Int) ≤ (k0 : Int) := by omega
        have b1t_14 : (k0 : Int) < ((a.length : Nat) : Int) := by omega
        have b2t_14 : ((k0 : Int)).toNat = k0 := by omega
        have Hct_14_0 := Lib.hid ct_14_0
        replace ct_14_0 := cell_regrown ct_14_0
        have Hct_14_1 := Lib.hid ct_14_1
        replace ct_14_1 := cell_regrown ct_14_1
        have Hct_14_2 := Lib.hid ct_14_2
        replace ct_14_2 := cell_regrown ct_14_2
        have Hct_14_3 := Lib.hid ct_14_3
        replace ct_14_3 := cell_regrown ct_14_3
        have Hct_14_4 := Lib.hid ct_14_4
        replace ct_14_4 := cell_regrown ct_14_4
        replace H := idx_hid H
        obtain ⟨nt_18, yt_18, et_18, lt_18, gt_18, H⟩ := H
        obtain rfl : k0 = nt_18 := by omega
        clear et_18
        obtain ⟨t_18_zone, t_18_grams, t_18_from_, t_18_until_, t_18_cents⟩ := yt_18
        replace H := unRate_hid H
        obtain ⟨ab_t_18, ao_t_18, zt_18, At_18, z_t_18, ct_18_0, ct_18_1, ct_18_2, ct_18_3, ct_18_4⟩ := Go.Proofs.Ytkinlkmmelkdnaa.ORate.at_ M1.out lt_18
        obtain rfl := Option.some.inj (gt_18.out.symm.trans z_t_18)
        subst At_18
        have ltt_18 := cell_lt ct_18_0
        replace ct_18_0 := cell_below HBwr0.out ct_18_0
        replace ct_18_1 := cell_below HBwr0.out ct_18_1
        replace ct_18_2 := cell_below HBwr0.out ct_18_2
        replace ct_18_3 := cell_below HBwr0.out ct_18_3
        replace ct_18_4 := cell_below HBwr0.out ct_18_4
        clear z_t_18
        have b0t_18 : (0 : Int) ≤ (k0 : Int) := by omega
        have b1t_18 : (k0 : Int) < ((b.length : Nat) : Int) := by omega
        have b2t_18 : ((k0 : Int)).toNat = k0 := by omega
        have Hct_18_0 := Lib.hid ct_18_0
        replace ct_18_0 := cell_regrown ct_18_0
        have Hct_18_1 := Lib.hid ct_18_1
        replace ct_18_1 := cell_regrown ct_18_1
        have Hct_18_2 := Lib.hid ct_18_2
        replace ct_18_2 := cell_regrown ct_18_2
        have Hct_18_3 := Lib.hid ct_18_3
        replace ct_18_3 := cell_regrown ct_18_3
        have Hct_18_4 := Lib.hid ct_18_4
        replace ct_18_4 := cell_regrown ct_18_4
        replace H := bind_hid H
        obtain ⟨t_20, qt_20, H⟩ := H
        have nt_20 : ∀ d os, Calls Try.prog 77 #[.agg #[.int .i64 t_14_zone, .int .i64 t_14_grams, .int .i64 t_14_from_, .int .i64 t_14_until_, .int .i64 t_14_cents], .agg #[.int .i64 t_18_zone, .int .i64 t_18_grams, .int .i64 t_18_from_, .int .i64 t_18_until_, .int .i64 t_18_cents]] (Go.Sort.grow (redrawn wr0 d) os) fun e w'' => e = .returned (.bool t_20) ∧ ∃ p : Regrown, w'' = Go.Sort.grow (redrawn wr0 p.d) p.os := fun d os => Calls.regrown_of (Go.Proofs.Ytkinlkmmelkdnaa.GlEqRate.C ((Go.Proofs.Ytkinlkmmelkdnaa.PRate.Rate.mk t_14_zone t_14_grams t_14_from_ t_14_until_ t_14_cents)) ((Go.Proofs.Ytkinlkmmelkdnaa.PRate.Rate.mk t_18_zone t_18_grams t_18_from_ t_18_until_ t_18_cents))  _    qt_20)
        cases t_20 with
        | false =>
          replace H := let_hid H
          obtain ⟨t_21, ht_21, H⟩ := H
          obtain rfl : t_21 = true := ht_21.symm
          refine wp_region_quiet_below (by kernel_rfl) (by kernel_rfl) ?_
          repeat (go_big_quiet_step (first | (go_at_call 77; exact nt_20 _ _)))
          refine wpQuiet_nil ?_
          intro Y6 hY6
          replace hY6 := below_class hY6
          clear nt_20
          replace ct_14_0 := Hct_14_0.out
          clear Hct_14_0
          replace ct_14_1 := Hct_14_1.out
          clear Hct_14_1
          replace ct_14_2 := Hct_14_2.out
          clear Hct_14_2
          replace ct_14_3 := Hct_14_3.out
          clear Hct_14_3
          replace ct_14_4 := Hct_14_4.out
          clear Hct_14_4
          replace ct_18_0 := Hct_18_0.out
          clear Hct_18_0
          replace ct_18_1 := Hct_18_1.out
          clear Hct_18_1
          replace ct_18_2 := Hct_18_2.out
          clear Hct_18_2
          replace ct_18_3 := Hct_18_3.out
          clear Hct_18_3
          replace ct_18_4 := Hct_18_4.out
          clear Hct_18_4
          have HBY6 := Lib.hid (Below.step HBwr0.out hY6)
          replace ct_14_0 := cell_below hY6 ct_14_0
          replace ct_14_1 := cell_below hY6 ct_14_1
          replace ct_14_2 := cell_below hY6 ct_14_2
          replace ct_14_3 := cell_below hY6 ct_14_3
          replace ct_14_4 := cell_below hY6 ct_14_4
          replace ct_18_0 := cell_below hY6 ct_18_0
          replace ct_18_1 := cell_below hY6 ct_18_1
          replace ct_18_2 := cell_below hY6 ct_18_2
          replace ct_18_3 := cell_below hY6 ct_18_3
          replace ct_18_4 := cell_below hY6 ct_18_4
          clear hY6
          replace H := ite_t H
          obtain rfl := ret_hid H
          go_wp2_with fail
          go_ret
          exact ⟨rfl, HBY6.out⟩
        | true =>
          replace H := let_hid H
          obtain ⟨t_21, ht_21, H⟩ := H
          obtain rfl : t_21 = false := ht_21.symm
          refine wp_region_quiet_below (by kernel_rfl) (by kernel_rfl) ?_
          repeat (go_big_quiet_step (first | (go_at_call 77; exact nt_20 _ _)))
          refine wpQuiet_nil ?_
          intro Y6 hY6
          replace hY6 := below_class hY6
          clear nt_20
          replace ct_14_0 := Hct_14_0.out
          clear Hct_14_0
          replace ct_14_1 := Hct_14_1.out
          clear Hct_14_1
          replace ct_14_2 := Hct_14_2.out
          clear Hct_14_2
          replace ct_14_3 := Hct_14_3.out
          clear Hct_14_3
          replace ct_14_4 := Hct_14_4.out
          clear Hct_14_4
          replace ct_18_0 := Hct_18_0.out
          clear Hct_18_0
          replace ct_18_1 := Hct_18_1.out
          clear Hct_18_1
          replace ct_18_2 := Hct_18_2.out
          clear Hct_18_2
          replace ct_18_3 := Hct_18_3.out
          clear Hct_18_3
          replace ct_18_4 := Hct_18_4.out
          clear Hct_18_4
          have HBY6 := Lib.hid (Below.step HBwr0.out hY6)
          replace ct_14_0 := cell_below hY6 ct_14_0
          replace ct_14_1 := cell_below hY6 ct_14_1
          replace ct_14_2 := cell_below hY6 ct_14_2
          replace ct_14_3 := cell_below hY6 ct_14_3
          replace ct_14_4 := cell_below hY6 ct_14_4
          replace ct_18_0 := cell_below hY6 ct_18_0
          replace ct_18_1 := cell_below hY6 ct_18_1
          replace ct_18_2 := cell_below hY6 ct_18_2
          replace ct_18_3 := cell_below hY6 ct_18_3
          replace ct_18_4 := cell_below hY6 ct_18_4
          clear hY6
          replace H := ite_f H
          replace H := app_hid H
          go_wp2_with fail
          go_roundg m0
          case measure => omega
          case rel => exact ⟨k0 + 1, by omega, by go_num, H, HBY6⟩
  | true =>
    have nht_5 : ¬ (a.length = b.length) := by have := bne_iff_ne.1 ht_5; omega
    replace H := ite_t H
    obtain rfl := ret_hid H
    go_wp2_with fail
    go_ret
    exact ⟨rfl, HB.out⟩
end Go.Proofs.Ytkinlkmmelkdnaa.GlEqRateS

/- loop.example/g01062/laws.markRateS as a plain function, and the contract of the program's: where the plain one has an answer, the program has it. Conditions: slices read as lists. -/
namespace Go.Proofs.Ytkinlkmmelkdnaa.GlMarkRateS
set_option linter.unusedVariables false
set_option linter.unusedSimpArgs false
open Go.RowKit
open Go.Proofs.Ytkinlkmmelkdnaa.Rowed Go.Proofs.Ytkinlkmmelkdnaa.Turn Go.Proofs.Ytkinlkmmelkdnaa.Aid Go.Proofs.Ytkinlkmmelkdnaa.GoP Go.Proofs.Ytkinlkmmelkdnaa.GoM

def l0  (k0 : Nat) (s : (List Go.Proofs.Ytkinlkmmelkdnaa.PRate.Rate) × Int) (nx0 bk0 : (List Go.Proofs.Ytkinlkmmelkdnaa.PRate.Rate) × Int → Option (Int × (List Go.Proofs.Ytkinlkmmelkdnaa.PRate.Rate))) : Option (Int × (List Go.Proofs.Ytkinlkmmelkdnaa.PRate.Rate)) :=
  unp2 s fun a_0l0 k_1l0 =>
  Option.bind (idx a_0l0 (k0 : Int)) fun (yt_9 : Go.Proofs.Ytkinlkmmelkdnaa.PRate.Rate) =>
  unRate yt_9 fun (t_9_zone : Int) (t_9_grams : Int) (t_9_from_ : Int) (t_9_until_ : Int) (t_9_cents : Int) =>
  letK (a_0l0.set k0 (Go.Proofs.Ytkinlkmmelkdnaa.PRate.Rate.mk k_1l0 t_9_grams t_9_from_ t_9_until_ t_9_cents)) fun (l11_11 : (List Go.Proofs.Ytkinlkmmelkdnaa.PRate.Rate)) =>
  letK (IntKind.i64.wrap (k_1l0 + 1)) fun (t_13 : Int) =>
  Option.bind (idx l11_11 (k0 : Int)) fun (yt_18 : Go.Proofs.Ytkinlkmmelkdnaa.PRate.Rate) =>
  unRate yt_18 fun (t_18_zone : Int) (t_18_grams : Int) (t_18_from_ : Int) (t_18_until_ : Int) (t_18_cents : Int) =>
  letK (l11_11.set k0 (Go.Proofs.Ytkinlkmmelkdnaa.PRate.Rate.mk t_18_zone t_13 t_18_from_ t_18_until_ t_18_cents)) fun (l20_20 : (List Go.Proofs.Ytkinlkmmelkdnaa.PRate.Rate)) =>
  letK (IntKind.i64.wrap (t_13 + 1)) fun (t_22 : Int) =>
  Option.bind (idx l20_20 (k0 : Int)) fun (yt_27 : Go.Proofs.Ytkinlkmmelkdnaa.PRate.Rate) =>
  unRate yt_27 fun (t_27_zone : Int) (t_27_grams : Int) (t_27_from_ : Int) (t_27_until_ : Int) (t_27_cents : Int) =>
  letK (l20_20.set k0 (Go.Proofs.Ytkinlkmmelkdnaa.PRate.Rate.mk t_27_zone t_27_grams t_22 t_27_until_ t_27_cents)) fun (l29_29 : (List Go.Proofs.Ytkinlkmmelkdnaa.PRate.Rate)) =>
  letK (IntKind.i64.wrap (t_22 + 1)) fun (t_31 : Int) =>
  Option.bind (idx l29_29 (k0 : Int)) fun (yt_36 : Go.Proofs.Ytkinlkmmelkdnaa.PRate.Rate) =>
  unRate yt_36 fun (t_36_zone : Int) (t_36_grams : Int) (t_36_from_ : Int) (t_36_until_ : Int) (t_36_cents : Int) =>
  letK (l29_29.set k0 (Go.Proofs.Ytkinlkmmelkdnaa.PRate.Rate.mk t_36_zone t_36_grams t_36_from_ t_31 t_36_cents)) fun (l38_38 : (List Go.Proofs.Ytkinlkmmelkdnaa.PRate.Rate)) =>
  letK (IntKind.i64.wrap (t_31 + 1)) fun (t_40 : Int) =>
  Option.bind (idx l38_38 (k0 : Int)) fun (yt_45 : Go.Proofs.Ytkinlkmmelkdnaa.PRate.Rate) =>
  unRate yt_45 fun (t_45_zone : Int) (t_45_grams : Int) (t_45_from_ : Int) (t_45_until_ : Int) (t_45_cents : Int) =>
  letK (l38_38.set k0 (Go.Proofs.Ytkinlkmmelkdnaa.PRate.Rate.mk t_45_zone t_45_grams t_45_from_ t_45_until_ t_40)) fun (l47_47 : (List Go.Proofs.Ytkinlkmmelkdnaa.PRate.Rate)) =>
  letK (IntKind.i64.wrap (t_40 + 1)) fun (t_49 : Int) =>
  appK nx0 (l47_47, t_49)

def e0  (s : (List Go.Proofs.Ytkinlkmmelkdnaa.PRate.Rate) × Int) : Option (Int × (List Go.Proofs.Ytkinlkmmelkdnaa.PRate.Rate)) :=
  unp2 s fun a_0l0 k_1l0 =>
  some (k_1l0, a_0l0)

def P (a : (List Go.Proofs.Ytkinlkmmelkdnaa.PRate.Rate)) (k_1 : Int) : Option (Int × (List Go.Proofs.Ytkinlkmmelkdnaa.PRate.Rate)) :=
  cntK (l0 ) (a.length) 0 (a, k_1) (e0 )

set_option maxRecDepth 100000 in
set_option maxHeartbeats 2000000 in
theorem C (a : (List Go.Proofs.Ytkinlkmmelkdnaa.PRate.Rate)) (k_1 : Int) (A0 : Option Addr) (c0 : Nat)  (b0 : Nat) (w : World) (M0 : Hid (w.ownsRow b0 25 5 (.slice A0 a.length c0) a.length (Go.Proofs.Ytkinlkmmelkdnaa.PRate.flat a))) (N0 : Hid (a.length ≤ 9223372036854775807))  {r : Int} {l_ : (List Go.Proofs.Ytkinlkmmelkdnaa.PRate.Rate)} (H : Hid (P a k_1 = some (r, l_))) :
    Calls Try.prog 27 #[.slice A0 a.length c0, .int .i64 k_1] w (fun e w' => e = .returned (.int .i64 r) ∧ w'.ownsRow b0 25 5 (.slice A0 a.length c0) a.length (Go.Proofs.Ytkinlkmmelkdnaa.PRate.flat l_) ∧ l_.length = a.length ∧ w.grownBy w' (Value.slice A0 a.length c0).ownBlock) := by
  have HB := Lib.hid (Aid.grown_refl w (Value.slice A0 a.length c0).ownBlock)
  unfold P at H
  have N0o := N0.out
  go_enter Try.func27, Try.ntmps27
  go_wp2_with fail
  have hb_0 : a.length ≤ 9223372036854775807 := own_max M0.out
  go_wp2_with fail
  go_loopg [5, 1] (a.length) (fun m_ v5_ v1_ wr => ∃ (k0 : Nat) (a_0l0 : (List Go.Proofs.Ytkinlkmmelkdnaa.PRate.Rate)) (k_1l0 : Int), k0 + m_ = a.length ∧ v5_ = .int .i64 (k0 : Int) ∧ v1_ = .int .i64 k_1l0 ∧ Hid (cntK (l0 ) m_ k0 (a_0l0, k_1l0) (e0 ) = some (r, l_)) ∧ Hid (w.grownBy wr (Value.slice A0 a.length c0).ownBlock) ∧ Hid (wr.ownsRow b0 25 5 (.slice A0 a.length c0) a.length (Go.Proofs.Ytkinlkmmelkdnaa.PRate.flat a_0l0)) ∧ Hid (a_0l0.length = a.length))
  case atStart => exact ⟨0, _, _, by omega, rfl, rfl, H, HB, M0, Lib.hid (rfl)⟩
  case round =>
    obtain ⟨k0, a_0l0, k_1l0, hkm0, rfl, rfl, H, HBwr0, Oa_0l0, hna_0l0⟩ := hrel
    rename World => wr0
    cases gk with
    | zero =>
      obtain rfl : k0 = a.length := by omega
      have hc0 : decide (((a.length : Nat) : Int) < ((a.length : Nat) : Int)) = false := by simp
      replace H := cnt_zero H
      unfold e0 at H
      replace H := unp2_hid H
      cases ret_hid H
      go_wp2_with fail
      go_ret
      exact ⟨rfl, Oa_0l0.out, hna_0l0.out, HBwr0.out⟩
    | succ m0 =>
      have hlt0 : k0 < a.length := by omega
      have hc0 : decide ((k0 : Int) < ((a.length : Nat) : Int)) = true := by simp; omega
      replace H := cnt_succ H
      unfold l0 at H
      replace H := unp2_hid H
      replace H := idx_hid H
      obtain ⟨nt_9, yt_9, et_9, lt_9, gt_9, H⟩ := H
      obtain rfl : k0 = nt_9 := by omega
      clear et_9
      obtain ⟨t_9_zone, t_9_grams, t_9_from_, t_9_until_, t_9_cents⟩ := yt_9
      replace H := unRate_hid H
      have hqt_9 := hna_0l0.out
      obtain ⟨qt_9, Qt_9⟩ := own_some Oa_0l0.out (by omega)
      subst Qt_9
      obtain ⟨ab_t_9, ao_t_9, zt_9, At_9, z_t_9, ct_9_0, ct_9_1, ct_9_2, ct_9_3, ct_9_4⟩ := Go.Proofs.Ytkinlkmmelkdnaa.ORate.at_ (own_cells Oa_0l0.out) (k := k0) (by omega)
      obtain rfl := Option.some.inj (gt_9.out.symm.trans z_t_9)
      simp only [Option.some.injEq, Addr.mk.injEq] at At_9
      obtain ⟨rfl, rfl, _⟩ := At_9
      clear z_t_9
      simp only [Nat.zero_add] at ct_9_0 ct_9_1 ct_9_2 ct_9_3 ct_9_4
      have b0t_9 : (0 : Int) ≤ (k0 : Int) := by omega
      have b1t_9 : (k0 : Int) < ((a.length : Nat) : Int) := by omega
      have b2t_9 : ((k0 : Int)).toNat = k0 := by omega
      clear hqt_9
      replace H := let_hid H
      obtain ⟨l11_11, hl11_11, H⟩ := H
      try simp only [Int.toNat_natCast] at hl11_11
      obtain ⟨wl11_11, hwl11_11⟩ : ∃ x, (wr0).setCell ⟨qt_9, k0 * 5, none⟩ (.int .i64 k_1l0) = x := ⟨_, rfl⟩
      have z0l11_11 := Oa_0l0.out.frozenAt (k0 * 5)
      have Sl11_11 := Lib.hid (own_stores [(k0 * 5, .int .i64 k_1l0)] Oa_0l0.out)
      have nl11_11 : Hid (l11_11.length = a.length) := Lib.hid (by rw [← hl11_11, List.length_set]; exact hna_0l0.out)
      have Pl11_11 : Hid (wl11_11.ownsRow b0 25 5 (.slice (some ⟨qt_9, 0, none⟩) a.length c0) a.length (Go.Proofs.Ytkinlkmmelkdnaa.PRate.flat l11_11)) := Lib.hid (by have es_ := set_self gt_9.out; have e0_ := flat_set Go.Proofs.Ytkinlkmmelkdnaa.PRate.Rate.cells 5 (fun _ => rfl) a_0l0 (k0) 0 (Go.Proofs.Ytkinlkmmelkdnaa.PRate.Rate.mk t_9_zone t_9_grams t_9_from_ t_9_until_ t_9_cents) (Go.Proofs.Ytkinlkmmelkdnaa.PRate.Rate.mk k_1l0 t_9_grams t_9_from_ t_9_until_ t_9_cents) (.int .i64 k_1l0) lt_9 (by decide) rfl; rw [es_] at e0_; have e_ : ([(k0 * 5, .int .i64 k_1l0)] : List (Nat × Value)).foldl (fun xs p => xs.set p.1 p.2) (Go.Proofs.Ytkinlkmmelkdnaa.PRate.flat a_0l0) = (Go.Proofs.Ytkinlkmmelkdnaa.PRate.flat l11_11) := (by rw [← hl11_11]; show _ = List.flatMap Go.Proofs.Ytkinlkmmelkdnaa.PRate.Rate.cells _; first | (rw [← e0_]; first | done | rfl)); rw [← hwl11_11, ← e_]; exact Sl11_11.out.1)
      have Gl11_11 : Hid (wr0.grownBy wl11_11 (Value.slice (some ⟨qt_9, 0, none⟩) a.length c0).ownBlock) := Lib.hid (by rw [← hwl11_11]; exact Sl11_11.out.2)
      have HBwl11_11 := Lib.hid (Aid.grown_tr HBwr0.out Gl11_11.out)
      have hhl11_11 := Lib.hid hl11_11
      clear hl11_11 Sl11_11
      clear Oa_0l0 Gl11_11
      replace H := let_hid H
      obtain ⟨t_13, ht_13, H⟩ := H
      replace H := idx_hid H
      obtain ⟨nt_18, yt_18, et_18, lt_18, gt_18, H⟩ := H
      obtain rfl : k0 = nt_18 := by omega
      clear et_18
      obtain ⟨t_18_zone, t_18_grams, t_18_from_, t_18_until_, t_18_cents⟩ := yt_18
      replace H := unRate_hid H
      have hqt_18 := nl11_11.out
      obtain ⟨ab_t_18, ao_t_18, zt_18, At_18, z_t_18, ct_18_0, ct_18_1, ct_18_2, ct_18_3, ct_18_4⟩ := Go.Proofs.Ytkinlkmmelkdnaa.ORate.at_ (own_cells Pl11_11.out) (k := k0) (by omega)
      obtain rfl := Option.some.inj (gt_18.out.symm.trans z_t_18)
      simp only [Option.some.injEq, Addr.mk.injEq] at At_18
      obtain ⟨rfl, rfl, _⟩ := At_18
      clear z_t_18
      simp only [Nat.zero_add] at ct_18_0 ct_18_1 ct_18_2 ct_18_3 ct_18_4
      have b0t_18 : (0 : Int) ≤ (k0 : Int) := by omega
      have b1t_18 : (k0 : Int) < ((a.length : Nat) : Int) := by omega
      have b2t_18 : ((k0 : Int)).toNat = k0 := by omega
      clear hqt_18
      replace H := let_hid H
      obtain ⟨l20_20, hl20_20, H⟩ := H
      try simp only [Int.toNat_natCast] at hl20_20
      obtain ⟨wl20_20, hwl20_20⟩ : ∃ x, (wl11_11).setCell ⟨qt_9, k0 * 5 + 1, none⟩ (.int .i64 t_13) = x := ⟨_, rfl⟩
      have z0l20_20 := Pl11_11.out.frozenAt (k0 * 5 + 1)
      have Sl20_20 := Lib.hid (own_stores [(k0 * 5 + 1, .int .i64 t_13)] Pl11_11.out)
      have nl20_20 : Hid (l20_20.length = a.length) := Lib.hid (by rw [← hl20_20, List.length_set]; exact nl11_11.out)
      have Pl20_20 : Hid (wl20_20.ownsRow b0 25 5 (.slice (some ⟨qt_9, 0, none⟩) a.length c0) a.length (Go.Proofs.Ytkinlkmmelkdnaa.PRate.flat l20_20)) := Lib.hid (by have es_ := set_self gt_18.out; have e0_ := flat_set Go.Proofs.Ytkinlkmmelkdnaa.PRate.Rate.cells 5 (fun _ => rfl) l11_11 (k0) 1 (Go.Proofs.Ytkinlkmmelkdnaa.PRate.Rate.mk t_18_zone t_18_grams t_18_from_ t_18_until_ t_18_cents) (Go.Proofs.Ytkinlkmmelkdnaa.PRate.Rate.mk t_18_zone t_13 t_18_from_ t_18_until_ t_18_cents) (.int .i64 t_13) lt_18 (by decide) rfl; rw [es_] at e0_; have e_ : ([(k0 * 5 + 1, .int .i64 t_13)] : List (Nat × Value)).foldl (fun xs p => xs.set p.1 p.2) (Go.Proofs.Ytkinlkmmelkdnaa.PRate.flat l11_11) = (Go.Proofs.Ytkinlkmmelkdnaa.PRate.flat l20_20) := (by rw [← hl20_20]; show _ = List.flatMap Go.Proofs.Ytkinlkmmelkdnaa.PRate.Rate.cells _; first | (rw [← e0_]; first | done | rfl)); rw [← hwl20_20, ← e_]; exact Sl20_20.out.1)
      have Gl20_20 : Hid (wl11_11.grownBy wl20_20 (Value.slice (some ⟨qt_9, 0, none⟩) a.length c0).ownBlock) := Lib.hid (by rw [← hwl20_20]; exact Sl20_20.out.2)
      have HBwl20_20 := Lib.hid (Aid.grown_tr HBwl11_11.out Gl20_20.out)
      have hhl20_20 := Lib.hid hl20_20
      clear hl20_20 Sl20_20
      clear Pl11_11 Gl20_20
      replace H := let_hid H
      obtain ⟨t_22, ht_22, H⟩ := H
      replace H := idx_hid H
      obtain ⟨nt_27, yt_27, et_27, lt_27, gt_27, H⟩ := H
      obtain rfl : k0 = nt_27 := by omega
      clear et_27
      obtain ⟨t_27_zone, t_27_grams, t_27_from_, t_27_until_, t_27_cents⟩ := yt_27
      replace H := unRate_hid H
      have hqt_27 := nl20_20.out
      obtain ⟨ab_t_27, ao_t_27, zt_27, At_27, z_t_27, ct_27_0, ct_27_1, ct_27_2, ct_27_3, ct_27_4⟩ := Go.Proofs.Ytkinlkmmelkdnaa.ORate.at_ (own_cells Pl20_20.out) (k := k0) (by omega)
      obtain rfl := Option.some.inj (gt_27.out.symm.trans z_t_27)
      simp only [Option.some.injEq, Addr.mk.injEq] at At_27
      obtain ⟨rfl, rfl, _⟩ := At_27
      clear z_t_27
      simp only [Nat.zero_add] at ct_27_0 ct_27_1 ct_27_2 ct_27_3 ct_27_4
      have b0t_27 : (0 : Int) ≤ (k0 : Int) := by omega
      have b1t_27 : (k0 : Int) < ((a.length : Nat) : Int) := by omega
      have b2t_27 : ((k0 : Int)).toNat = k0 := by omega
      clear hqt_27
      replace H := let_hid H
      obtain ⟨l29_29, hl29_29, H⟩ := H
      try simp only [Int.toNat_natCast] at hl29_29
      obtain ⟨wl29_29, hwl29_29⟩ : ∃ x, (wl20_20).setCell ⟨qt_9, k0 * 5 + 2, none⟩ (.int .i64 t_22) = x := ⟨_, rfl⟩
      have z0l29_29 := Pl20_20.out.frozenAt (k0 * 5 + 2)
      have Sl29_29 := Lib.hid (own_stores [(k0 * 5 + 2, .int .i64 t_22)] Pl20_20.out)
      have nl29_29 : Hid (l29_29.length = a.length) := Lib.hid (by rw [← hl29_29, List.length_set]; exact nl20_20.out)
      have Pl29_29 : Hid (wl29_29.ownsRow b0 25 5 (.slice (some ⟨qt_9, 0, none⟩) a.length c0) a.length (Go.Proofs.Ytkinlkmmelkdnaa.PRate.flat l29_29)) := Lib.hid (by have es_ := set_self gt_27.out; have e0_ := flat_set Go.Proofs.Ytkinlkmmelkdnaa.PRate.Rate.cells 5 (fun _ => rfl) l20_20 (k0) 2 (Go.Proofs.Ytkinlkmmelkdnaa.PRate.Rate.mk t_27_zone t_27_grams t_27_from_ t_27_until_ t_27_cents) (Go.Proofs.Ytkinlkmmelkdnaa.PRate.Rate.mk t_27_zone t_27_grams t_22 t_27_until_ t_27_cents) (.int .i64 t_22) lt_27 (by decide) rfl; rw [es_] at e0_; have e_ : ([(k0 * 5 + 2, .int .i64 t_22)] : List (Nat × Value)).foldl (fun xs p => xs.set p.1 p.2) (Go.Proofs.Ytkinlkmmelkdnaa.PRate.flat l20_20) = (Go.Proofs.Ytkinlkmmelkdnaa.PRate.flat l29_29) := (by rw [← hl29_29]; show _ = List.flatMap Go.Proofs.Ytkinlkmmelkdnaa.PRate.Rate.cells _; first | (rw [← e0_]; first | done | rfl)); rw [← hwl29_29, ← e_]; exact Sl29_29.out.1)
      have Gl29_29 : Hid (wl20_20.grownBy wl29_29 (Value.slice (some ⟨qt_9, 0, none⟩) a.length c0).ownBlock) := Lib.hid (by rw [← hwl29_29]; exact Sl29_29.out.2)
      have HBwl29_29 := Lib.hid (Aid.grown_tr HBwl20_20.out Gl29_29.out)
      have hhl29_29 := Lib.hid hl29_29
      clear hl29_29 Sl29_29
      clear Pl20_20 Gl29_29
      replace H := let_hid H
      obtain ⟨t_31, ht_31, H⟩ := H
      replace H := idx_hid H
      obtain ⟨nt_36, yt_36, et_36, lt_36, gt_36, H⟩ := H
      obtain rfl : k0 = nt_36 := by omega
      clear et_36
      obtain ⟨t_36_zone, t_36_grams, t_36_from_, t_36_until_, t_36_cents⟩ := yt_36
      replace H := unRate_hid H
      have hqt_36 := nl29_29.out
      obtain ⟨ab_t_36, ao_t_36, zt_36, At_36, z_t_36, ct_36_0, ct_36_1, ct_36_2, ct_36_3, ct_36_4⟩ := Go.Proofs.Ytkinlkmmelkdnaa.ORate.at_ (own_cells Pl29_29.out) (k := k0) (by omega)
      obtain rfl := Option.some.inj (gt_36.out.symm.trans z_t_36)
      simp only [Option.some.injEq, Addr.mk.injEq] at At_36
      obtain ⟨rfl, rfl, _⟩ := At_36
      clear z_t_36
      simp only [Nat.zero_add] at ct_36_0 ct_36_1 ct_36_2 ct_36_3 ct_36_4
      have b0t_36 : (0 : Int) ≤ (k0 : Int) := by omega
      have b1t_36 : (k0 : Int) < ((a.length : Nat) : Int) := by omega
      have b2t_36 : ((k0 : Int)).toNat = k0 := by omega
      clear hqt_36
      replace H := let_hid H
      obtain ⟨l38_38, hl38_38, H⟩ := H
      try simp only [Int.toNat_natCast] at hl38_38
      obtain ⟨wl38_38, hwl38_38⟩ : ∃ x, (wl29_29).setCell ⟨qt_9, k0 * 5 + 3, none⟩ (.int .i64 t_31) = x := ⟨_, rfl⟩
      have z0l38_38 := Pl29_29.out.frozenAt (k0 * 5 + 3)
      have Sl38_38 := Lib.hid (own_stores [(k0 * 5 + 3, .int .i64 t_31)] Pl29_29.out)
      have nl38_38 : Hid (l38_38.length = a.length) := Lib.hid (by rw [← hl38_38, List.length_set]; exact nl29_29.out)
      have Pl38_38 : Hid (wl38_38.ownsRow b0 25 5 (.slice (some ⟨qt_9, 0, none⟩) a.length c0) a.length (Go.Proofs.Ytkinlkmmelkdnaa.PRate.flat l38_38)) := Lib.hid (by have es_ := set_self gt_36.out; have e0_ := flat_set Go.Proofs.Ytkinlkmmelkdnaa.PRate.Rate.cells 5 (fun _ => rfl) l29_29 (k0) 3 (Go.Proofs.Ytkinlkmmelkdnaa.PRate.Rate.mk t_36_zone t_36_grams t_36_from_ t_36_until_ t_36_cents) (Go.Proofs.Ytkinlkmmelkdnaa.PRate.Rate.mk t_36_zone t_36_grams t_36_from_ t_31 t_36_cents) (.int .i64 t_31) lt_36 (by decide) rfl; rw [es_] at e0_; have e_ : ([(k0 * 5 + 3, .int .i64 t_31)] : List (Nat × Value)).foldl (fun xs p => xs.set p.1 p.2) (Go.Proofs.Ytkinlkmmelkdnaa.PRate.flat l29_29) = (Go.Proofs.Ytkinlkmmelkdnaa.PRate.flat l38_38) := (by rw [← hl38_38]; show _ = List.flatMap Go.Proofs.Ytkinlkmmelkdnaa.PRate.Rate.cells _; first | (rw [← e0_]; first | done | rfl)); rw [← hwl38_38, ← e_]; exact Sl38_38.out.1)
      have Gl38_38 : Hid (wl29_29.grownBy wl38_38 (Value.slice (some ⟨qt_9, 0, none⟩) a.length c0).ownBlock) := Lib.hid (by rw [← hwl38_38]; exact Sl38_38.out.2)
      have HBwl38_38 := Lib.hid (Aid.grown_tr HBwl29_29.out Gl38_38.out)
      have hhl38_38 := Lib.hid hl38_38
      clear hl38_38 Sl38_38
      clear Pl29_29 Gl38_38
      replace H := let_hid H
      obtain ⟨t_40, ht_40, H⟩ := H
      replace H := idx_hid H
      obtain ⟨nt_45, yt_45, et_45, lt_45, gt_45, H⟩ := H
      obtain rfl : k0 = nt_45 := by omega
      clear et_45
      obtain ⟨t_45_zone, t_45_grams, t_45_from_, t_45_until_, t_45_cents⟩ := yt_45
      replace H := unRate_hid H
      have hqt_45 := nl38_38.out
      obtain ⟨ab_t_45, ao_t_45, zt_45, At_45, z_t_45, ct_45_0, ct_45_1, ct_45_2, ct_45_3, ct_45_4⟩ := Go.Proofs.Ytkinlkmmelkdnaa.ORate.at_ (own_cells Pl38_38.out) (k := k0) (by omega)
      obtain rfl := Option.some.inj (gt_45.out.symm.trans z_t_45)
      simp only [Option.some.injEq, Addr.mk.injEq] at At_45
      obtain ⟨rfl, rfl, _⟩ := At_45
      clear z_t_45
      simp only [Nat.zero_add] at ct_45_0 ct_45_1 ct_45_2 ct_45_3 ct_45_4
      have b0t_45 : (0 : Int) ≤ (k0 : Int) := by omega
      have b1t_45 : (k0 : Int) < ((a.length : Nat) : Int) := by omega
      have b2t_45 : ((k0 : Int)).toNat = k0 := by omega
      clear hqt_45
      replace H := let_hid H
      obtain ⟨l47_47, hl47_47, H⟩ := H
      try simp only [Int.toNat_natCast] at hl47_47
      obtain ⟨wl47_47, hwl47_47⟩ : ∃ x, (wl38_38).setCell ⟨qt_9, k0 * 5 + 4, none⟩ (.int .i64 t_40) = x := ⟨_, rfl⟩
      have z0l47_47 := Pl38_38.out.frozenAt (k0 * 5 + 4)
      have Sl47_47 := Lib.hid (own_stores [(k0 * 5 + 4, .int .i64 t_40)] Pl38_38.out)
      have nl47_47 : Hid (l47_47.length = a.length) := Lib.hid (by rw [← hl47_47, List.length_set]; exact nl38_38.out)
      have Pl47_47 : Hid (wl47_47.ownsRow b0 25 5 (.slice (some ⟨qt_9, 0, none⟩) a.length c0) a.length (Go.Proofs.Ytkinlkmmelkdnaa.PRate.flat l47_47)) := Lib.hid (by have es_ := set_self gt_45.out; have e0_ := flat_set Go.Proofs.Ytkinlkmmelkdnaa.PRate.Rate.cells 5 (fun _ => rfl) l38_38 (k0) 4 (Go.Proofs.Ytkinlkmmelkdnaa.PRate.Rate.mk t_45_zone t_45_grams t_45_from_ t_45_until_ t_45_cents) (Go.Proofs.Ytkinlkmmelkdnaa.PRate.Rate.mk t_45_zone t_45_grams t_45_from_ t_45_until_ t_40) (.int .i64 t_40) lt_45 (by decide) rfl; rw [es_] at e0_; have e_ : ([(k0 * 5 + 4, .int .i64 t_40)] : List (Nat × Value)).foldl (fun xs p => xs.set p.1 p.2) (Go.Proofs.Ytkinlkmmelkdnaa.PRate.flat l38_38) = (Go.Proofs.Ytkinlkmmelkdnaa.PRate.flat l47_47) := (by rw [← hl47_47]; show _ = List.flatMap Go.Proofs.Ytkinlkmmelkdnaa.PRate.Rate.cells _; first | (rw [← e0_]; first | done | rfl)); rw [← hwl47_47, ← e_]; exact Sl47_47.out.1)
      have Gl47_47 : Hid (wl38_38.grownBy wl47_47 (Value.slice (some ⟨qt_9, 0, none⟩) a.length c0).ownBlock) := Lib.hid (by rw [← hwl47_47]; exact Sl47_47.out.2)
      have HBwl47_47 := Lib.hid (Aid.grown_tr HBwl38_38.out Gl47_47.out)
      have hhl47_47 := Lib.hid hl47_47
      clear hl47_47 Sl47_47
      clear Pl38_38 Gl47_47
      replace H := let_hid H
      obtain ⟨t_49, ht_49, H⟩ := H
      replace H := app_hid H
      go_wp2_with fail
      clear z0l11_11 ct_9_0 ct_9_1 ct_9_2 ct_9_3 ct_9_4 z0l20_20 ct_18_0 ct_18_1 ct_18_2 ct_18_3 ct_18_4 z0l29_29 ct_27_0 ct_27_1 ct_27_2 ct_27_3 ct_27_4 z0l38_38 ct_36_0 ct_36_1 ct_36_2 ct_36_3 ct_36_4 z0l47_47 ct_45_0 ct_45_1 ct_45_2 ct_45_3 ct_45_4
      go_roundg m0
      case measure => omega
      case rel => exact ⟨k0 + 1, _, _, by omega, by go_num, rfl, H, HBwl47_47, Pl47_47, Lib.hid (nl47_47.out)⟩
end Go.Proofs.Ytkinlkmmelkdnaa.GlMarkRateS

/- loop.example/g01062/laws.heldRateS as a plain function, and the contract of the program's: where the plain one has an answer, the program has it. Conditions: slices read as lists. -/
namespace Go.Proofs.Ytkinlkmmelkdnaa.GlHeldRateS
set_option linter.unusedVariables false
set_option linter.unusedSimpArgs false
open Go.RowKit
open Go.Proofs.Ytkinlkmmelkdnaa.Rowed Go.Proofs.Ytkinlkmmelkdnaa.Turn Go.Proofs.Ytkinlkmmelkdnaa.Aid Go.Proofs.Ytkinlkmmelkdnaa.GoP Go.Proofs.Ytkinlkmmelkdnaa.GoM

def l0 (a : (List Go.Proofs.Ytkinlkmmelkdnaa.PRate.Rate)) (k0 : Nat) (s : Int) (nx0 bk0 : Int → Option (Int)) : Option (Int) :=
  letK s fun k_1l0 =>
  Option.bind (idx a (k0 : Int)) fun (yt_8 : Go.Proofs.Ytkinlkmmelkdnaa.PRate.Rate) =>
  unRate yt_8 fun (t_8_zone : Int) (t_8_grams : Int) (t_8_from_ : Int) (t_8_until_ : Int) (t_8_cents : Int) =>
  letK (t_8_zone != k_1l0) fun (t_12 : Bool) =>
  iteK t_12
  (some (-1))
  (letK (IntKind.i64.wrap (k_1l0 + 1)) fun (t_15 : Int) =>
  Option.bind (idx a (k0 : Int)) fun (yt_19 : Go.Proofs.Ytkinlkmmelkdnaa.PRate.Rate) =>
  unRate yt_19 fun (t_19_zone : Int) (t_19_grams : Int) (t_19_from_ : Int) (t_19_until_ : Int) (t_19_cents : Int) =>
  letK (t_19_grams != t_15) fun (t_23 : Bool) =>
  iteK t_23
  (some (-1))
  (letK (IntKind.i64.wrap (t_15 + 1)) fun (t_26 : Int) =>
  Option.bind (idx a (k0 : Int)) fun (yt_30 : Go.Proofs.Ytkinlkmmelkdnaa.PRate.Rate) =>
  unRate yt_30 fun (t_30_zone : Int) (t_30_grams : Int) (t_30_from_ : Int) (t_30_until_ : Int) (t_30_cents : Int) =>
  letK (t_30_from_ != t_26) fun (t_34 : Bool) =>
  iteK t_34
  (some (-1))
  (letK (IntKind.i64.wrap (t_26 + 1)) fun (t_37 : Int) =>
  Option.bind (idx a (k0 : Int)) fun (yt_41 : Go.Proofs.Ytkinlkmmelkdnaa.PRate.Rate) =>
  unRate yt_41 fun (t_41_zone : Int) (t_41_grams : Int) (t_41_from_ : Int) (t_41_until_ : Int) (t_41_cents : Int) =>
  letK (t_41_until_ != t_37) fun (t_45 : Bool) =>
  iteK t_45
  (some (-1))
  (letK (IntKind.i64.wrap (t_37 + 1)) fun (t_48 : Int) =>
  Option.bind (idx a (k0 : Int)) fun (yt_52 : Go.Proofs.Ytkinlkmmelkdnaa.PRate.Rate) =>
  unRate yt_52 fun (t_52_zone : Int) (t_52_grams : Int) (t_52_from_ : Int) (t_52_until_ : Int) (t_52_cents : Int) =>
  letK (t_52_cents != t_48) fun (t_56 : Bool) =>
  iteK t_56
  (some (-1))
  (letK (IntKind.i64.wrap (t_48 + 1)) fun (t_59 : Int) =>
  appK nx0 (t_59))))))

def e0  (s : Int) : Option (Int) :=
  letK s fun k_1l0 =>
  some k_1l0

def P (a : (List Go.Proofs.Ytkinlkmmelkdnaa.PRate.Rate)) (k_1 : Int) : Option (Int) :=
  cntK (l0 a) (a.length) 0 (k_1) (e0 )

set_option maxRecDepth 100000 in
set_option maxHeartbeats 2000000 in
theorem C (a : (List Go.Proofs.Ytkinlkmmelkdnaa.PRate.Rate)) (k_1 : Int) (A0 : Option Addr) (c0 : Nat)  (w : World) (M0 : Hid (Cells w 5 A0 a.length (Go.Proofs.Ytkinlkmmelkdnaa.PRate.flat a))) (N0 : Hid (a.length ≤ 9223372036854775807))  {r : Int} (H : Hid (P a k_1 = some r)) :
    Calls Try.prog 41 #[.slice A0 a.length c0, .int .i64 k_1] w (Gives (.int .i64 r) w) := by
  have HB := Lib.hid (Below.refl w.heap.size w)
  unfold P at H
  have N0o := N0.out
  go_enter Try.func41, Try.ntmps41
  go_wp2_with fail
  go_loopg [5, 1] (a.length) (fun m_ v5_ v1_ wr => ∃ (k0 : Nat) (k_1l0 : Int), k0 + m_ = a.length ∧ v5_ = .int .i64 (k0 : Int) ∧ v1_ = .int .i64 k_1l0 ∧ Hid (cntK (l0 a) m_ k0 (k_1l0) (e0 ) = some r) ∧ Hid (Below w.heap.size w wr))
  case atStart => exact ⟨0, _, by omega, rfl, rfl, H, HB⟩
  case round =>
    obtain ⟨k0, k_1l0, hkm0, rfl, rfl, H, HBwr0⟩ := hrel
    rename World => wr0
    cases gk with
    | zero =>
      obtain rfl : k0 = a.length := by omega
      have hc0 : decide (((a.length : Nat) : Int) < ((a.length : Nat) : Int)) = false := by simp
      replace H := cnt_zero H
      unfold e0 at H
      replace H := let_hid H
      obtain ⟨_, rfl, H⟩ := H
      obtain rfl := ret_hid H
      go_wp2_with fail
      go_ret
      exact ⟨rfl, HBwr0.out⟩
    | succ m0 =>
      have hlt0 : k0 < a.length := by omega
      have hc0 : decide ((k0 : Int) < ((a.length : Nat) : Int)) = true := by simp; omega
      replace H := cnt_succ H
      unfold l0 at H
      replace H := let_hid H
      obtain ⟨_, rfl, H⟩ := H
      replace H := idx_hid H
      obtain ⟨nt_8, yt_8, et_8, lt_8, gt_8, H⟩ := H
      obtain rfl : k0 = nt_8 := by omega
      clear et_8
      obtain ⟨t_8_zone, t_8_grams, t_8_from_, t_8_until_, t_8_cents⟩ := yt_8
      replace H := unRate_hid H
      obtain ⟨ab_t_8, ao_t_8, zt_8, At_8, z_t_8, ct_8_0, ct_8_1, ct_8_2, ct_8_3, ct_8_4⟩ := Go.Proofs.Ytkinlkmmelkdnaa.ORate.at_ M0.out lt_8
      obtain rfl := Option.some.inj (gt_8.out.symm.trans z_t_8)
      subst At_8
      have ltt_8 := cell_lt ct_8_0
      replace ct_8_0 := cell_below HBwr0.out ct_8_0
      replace ct_8_1 := cell_below HBwr0.out ct_8_1
      replace ct_8_2 := cell_below HBwr0.out ct_8_2
      replace ct_8_3 := cell_below HBwr0.out ct_8_3
      replace ct_8_4 := cell_below HBwr0.out ct_8_4
      clear z_t_8
      have b0t_8 : (0 : Int) ≤ (k0 : Int) := by omega
      have b1t_8 : (k0 : Int) < ((a.length : Nat) : Int) := by omega
      have b2t_8 : ((k0 : Int)).toNat = k0 := by omega
      replace H := let_hid H
      obtain ⟨t_12, ht_12, H⟩ := H
      cases t_12 with
      | false =>
        replace H := ite_f H
        replace H := let_hid H
        obtain ⟨t_15, ht_15, H⟩ := H
        replace H := idx_hid H
        obtain ⟨nt_19, yt_19, et_19, lt_19, gt_19, H⟩ := H
        obtain rfl : k0 = nt_19 := by omega
        clear et_19
        obtain rfl := Option.some.inj (gt_8.out.symm.trans gt_19.out)
        clear gt_19 lt_19
        replace H := unRate_hid H
        replace H := let_hid H
        obtain ⟨t_23, ht_23, H⟩ := H
        cases t_23 with
        | false =>
          replace H := ite_f H
          replace H := let_hid H
          obtain ⟨t_26, ht_26, H⟩ := H
          replace H := idx_hid H
          obtain ⟨nt_30, yt_30, et_30, lt_30, gt_30, H⟩ := H
          obtain rfl : k0 = nt_30 := by omega
          clear et_30
          obtain rfl := Option.some.inj (gt_8.out.symm.trans gt_30.out)
          clear gt_30 lt_30
          replace H := unRate_hid H
          replace H := let_hid H
          obtain ⟨t_34, ht_34, H⟩ := H
          cases t_34 with
          | false =>
            replace H := ite_f H
            replace H := let_hid H
            obtain ⟨t_37, ht_37, H⟩ := H
            replace H := idx_hid H
            obtain ⟨nt_41, yt_41, et_41, lt_41, gt_41, H⟩ := H
            obtain rfl : k0 = nt_41 := by omega
            clear et_41
            obtain rfl := Option.some.inj (gt_8.out.symm.trans gt_41.out)
            clear gt_41 lt_41
            replace H := unRate_hid H
            replace H := let_hid H
            obtain ⟨t_45, ht_45, H⟩ := H
            cases t_45 with
            | false =>
              replace H := ite_f H
              replace H := let_hid H
              obtain ⟨t_48, ht_48, H⟩ := H
              replace H := idx_hid H
              obtain ⟨nt_52, yt_52, et_52, lt_52, gt_52, H⟩ := H
              obtain rfl : k0 = nt_52 := by omega
              clear et_52
              obtain rfl := Option.some.inj (gt_8.out.symm.trans gt_52.out)
              clear gt_52 lt_52
              replace H := unRate_hid H
              replace H := let_hid H
              obtain ⟨t_56, ht_56, H⟩ := H
              cases t_56 with
              | false =>
                replace H := ite_f H
                replace H := let_hid H
                obtain ⟨t_59, ht_59, H⟩ := H
                replace H := app_hid H
                go_wp2_with fail
                go_roundg m0
                case measure => omega
                case rel => exact ⟨k0 + 1, _, by omega, by go_num, rfl, H, HBwr0⟩
              | true =>
                replace H := ite_t H
                obtain rfl := ret_hid H
                go_wp2_with fail
                go_ret
                exact ⟨rfl, HBwr0.out⟩
            | true =>
              replace H := ite_t H
              obtain rfl := ret_hid H
              go_wp2_with fail
              go_ret
              exact ⟨rfl, HBwr0.out⟩
          | true =>
            replace H := ite_t H
            obtain rfl := ret_hid H
            go_wp2_with fail
            go_ret
            exact ⟨rfl, HBwr0.out⟩
        | true =>
          replace H := ite_t H
          obtain rfl := ret_hid H
          go_wp2_with fail
          go_ret
          exact ⟨rfl, HBwr0.out⟩
      | true =>
        replace H := ite_t H
        obtain rfl := ret_hid H
        go_wp2_with fail
        go_ret
        exact ⟨rfl, HBwr0.out⟩
end Go.Proofs.Ytkinlkmmelkdnaa.GlHeldRateS

/- loop.example/g01062/laws.FnExactRaiseRate as a plain function, and the contract of the program's: where the plain one has an answer, the program has it. Conditions: slices read as lists. -/
namespace Go.Proofs.Ytkinlkmmelkdnaa.GlFnExactRaiseRate
set_option linter.unusedVariables false
set_option linter.unusedSimpArgs false
open Go.RowKit
open Go.Proofs.Ytkinlkmmelkdnaa.Rowed Go.Proofs.Ytkinlkmmelkdnaa.Turn Go.Proofs.Ytkinlkmmelkdnaa.Aid Go.Proofs.Ytkinlkmmelkdnaa.GoP Go.Proofs.Ytkinlkmmelkdnaa.GoM

def P (fuel : Nat) (aList : (List Go.Proofs.Ytkinlkmmelkdnaa.PRate.Rate)) (aZone : Int) (aGrams : Int) (aDay : Int) (aCents : Int) : Option (Bool) :=
  Option.bind (Go.Proofs.Ytkinlkmmelkdnaa.GlSzRateS.P aList 1048576) fun (t_4 : Int) =>
  letK (decide (t_4 < 0)) fun (t_7 : Bool) =>
  iteK t_7
  (some true)
  (Option.bind (Go.Proofs.Ytkinlkmmelkdnaa.GlToRateS.P aList) fun (t_10 : (List Go.Proofs.Ytkinlkmmelkdnaa.PRate.Rate)) =>
  bind2 (Go.Proofs.Ytkinlkmmelkdnaa.GsRaiseRate.P fuel t_10 aZone aGrams aDay aCents) fun (t_15a : (List Go.Proofs.Ytkinlkmmelkdnaa.PRate.Rate)) (t_15b : Bool) =>
  Option.bind (Go.Proofs.Ytkinlkmmelkdnaa.GlToRateS.P aList) fun (t_22 : (List Go.Proofs.Ytkinlkmmelkdnaa.PRate.Rate)) =>
  bind2 (Go.Proofs.Ytkinlkmmelkdnaa.GiRaiseRate.P t_22 aZone aGrams aDay aCents) fun (t_29a : (List Go.Proofs.Ytkinlkmmelkdnaa.PRate.Rate)) (t_29b : Bool) =>
  Option.bind (Go.Proofs.Ytkinlkmmelkdnaa.GlEqRateS.P t_29a t_15a) fun (t_37 : Bool) =>
  letK (!t_37) fun (t_38 : Bool) =>
  joinK (fun (t_43 : Bool) =>
  iteK t_43
  (some false)
  (Option.bind (Go.Proofs.Ytkinlkmmelkdnaa.GlToRateS.P aList) fun (t_47 : (List Go.Proofs.Ytkinlkmmelkdnaa.PRate.Rate)) =>
  Option.bind (Go.Proofs.Ytkinlkmmelkdnaa.GlEqRateS.P t_22 t_47) fun (t_48 : Bool) =>
  letK (!t_48) fun (t_49 : Bool) =>
  iteK t_49
  (some false)
  (bind2 (Go.Proofs.Ytkinlkmmelkdnaa.GlMarkRateS.P t_22 1) fun (t_54 : Int) (lt_54 : (List Go.Proofs.Ytkinlkmmelkdnaa.PRate.Rate)) =>
  letK (decide (t_54 < 0)) fun (t_57 : Bool) =>
  joinK (fun (t_63 : Bool) =>
  joinK (fun (t_68 : Bool) =>
  iteK t_68
  (some false)
  (bind2 (Go.Proofs.Ytkinlkmmelkdnaa.GlMarkRateS.P t_29a 1) fun (t_73 : Int) (lt_73 : (List Go.Proofs.Ytkinlkmmelkdnaa.PRate.Rate)) =>
  Option.bind (Go.Proofs.Ytkinlkmmelkdnaa.GlHeldRateS.P lt_73 1) fun (t_78 : Int) =>
  letK (decide (t_78 < 0)) fun (t_81 : Bool) =>
  iteK t_81
  (some false)
  (letK (t_78 != t_73) fun (t_85 : Bool) =>
  iteK t_85
  (some false)
  (Option.bind (Go.Proofs.Ytkinlkmmelkdnaa.GlToRateS.P aList) fun (t_88 : (List Go.Proofs.Ytkinlkmmelkdnaa.PRate.Rate)) =>
  bind2 (Go.Proofs.Ytkinlkmmelkdnaa.GiRaiseRate.P t_88 aZone aGrams aDay aCents) fun (t_93a : (List Go.Proofs.Ytkinlkmmelkdnaa.PRate.Rate)) (t_93b : Bool) =>
  Option.bind (Go.Proofs.Ytkinlkmmelkdnaa.GlEqRateS.P t_93a t_15a) fun (t_101 : Bool) =>
  letK (!t_101) fun (t_102 : Bool) =>
  joinK (fun (t_107 : Bool) =>
  iteK t_107
  (some false)
  (Option.bind (Go.Proofs.Ytkinlkmmelkdnaa.GlHeldRateS.P lt_73 1) fun (t_112 : Int) =>
  letK (decide (t_112 < 0)) fun (t_115 : Bool) =>
  iteK t_115
  (some false)
  (letK (t_112 != t_73) fun (t_119 : Bool) =>
  iteK t_119
  (some false)
  (some true)))) fun jt_107 => iteK t_102 (appK jt_107 true) (letK (!(t_93b == t_15b)) fun (t_106 : Bool) =>
  appK jt_107 t_106))))) fun jt_68 => iteK t_63 (appK jt_68 true) (letK (!(t_29b == t_15b)) fun (t_67 : Bool) =>
  appK jt_68 t_67)) fun jt_63 => iteK t_57 (appK jt_63 true) (Option.bind (Go.Proofs.Ytkinlkmmelkdnaa.GlEqRateS.P t_29a t_15a) fun (t_61 : Bool) =>
  letK (!t_61) fun (t_62 : Bool) =>
  appK jt_63 t_62)))) fun jt_43 => iteK t_38 (appK jt_43 true) (letK (!(t_29b == t_15b)) fun (t_42 : Bool) =>
  appK jt_43 t_42))

set_option maxRecDepth 100000 in
set_option maxHeartbeats 2000000 in
theorem C (fuel : Nat) (aList : (List Go.Proofs.Ytkinlkmmelkdnaa.PRate.Rate)) (aZone : Int) (aGrams : Int) (aDay : Int) (aCents : Int) (A0 : Option Addr) (c0 : Nat)  (w : World) (M0 : Hid (Cells w 5 A0 aList.length (Go.Proofs.Ytkinlkmmelkdnaa.PRate.flat aList))) (N0 : Hid (aList.length ≤ 9223372036854775807))  {r : Bool} (H : Hid (P fuel aList aZone aGrams aDay aCents = some r)) :
    Calls Try.prog 10 #[.slice A0 aList.length c0, .int .i64 aZone, .int .i64 aGrams, .int .i64 aDay, .int .i64 aCents] w (Gives (.bool r) w) := by
  have HB := Lib.hid (Below.refl w.heap.size w)
  unfold P at H
  have N0o := N0.out
  go_enter Try.func10, Try.ntmps10
  replace H := bind_hid H
  obtain ⟨t_4, qt_4, H⟩ := H
  go_wp2_with fail
  go_at_call 17
  refine (Go.Proofs.Ytkinlkmmelkdnaa.GlSzRateS.C (aList) (1048576) A0 c0 _   (Lib.hid (Cells.below M0.out HB.out)) N0 qt_4).mono ?_
  rintro e_t_4 wt_4 ⟨rfl, bt_4⟩
  have HBwt_4 := Lib.hid (Below.step HB.out bt_4)
  clear bt_4
  replace H := let_hid H
  obtain ⟨t_7, ht_7, H⟩ := H
  cases t_7 with
  | false =>
    replace H := ite_f H
    replace H := bind_hid H
    obtain ⟨t_10, qt_10, H⟩ := H
    go_wp2_with fail
    go_at_call 19
    refine (Go.Proofs.Ytkinlkmmelkdnaa.GlToRateS.C (aList) A0 c0 _   (Lib.hid (Cells.below M0.out HBwt_4.out)) N0 qt_10).mono ?_
    rintro e_t_10 wt_10 ⟨At_10, ct_10, rfl, ot_10, bt_10⟩
    have Ot_10 := Lib.hid (own_lower ot_10 HBwt_4.out.size)
    clear ot_10
    have HBwt_10 := Lib.hid (Below.step HBwt_4.out bt_10)
    clear bt_10
    replace H := bind2_hid H
    obtain ⟨t_15a, t_15b, qt_15, H⟩ := H
    go_wp2_with fail
    go_at_call 39
    refine (Go.Proofs.Ytkinlkmmelkdnaa.GsRaiseRate.C fuel (t_10) (aZone) (aGrams) (aDay) (aCents) At_10 ct_10 _   (Lib.hid (own_cells Ot_10.out)) (Lib.hid (own_max Ot_10.out)) (Lib.hid (own_room Ot_10.out)) qt_15).mono ?_
    rintro e_t_15 wt_15 ⟨At_15a, ct_15a, rfl, ot_15a, bt_15⟩
    have Dt_15a_t_10 := Lib.hid (apart_call ot_15a Ot_10.out)
    have Ot_15a := Lib.hid (own_lower ot_15a HBwt_10.out.size)
    clear ot_15a
    have HBwt_15 := Lib.hid (Below.step HBwt_10.out bt_15)
    replace Ot_10 := Lib.hid (own_below Ot_10.out bt_15)
    clear bt_15
    replace H := bind_hid H
    obtain ⟨t_22, qt_22, H⟩ := H
    go_wp2_with fail
    go_at_call 19
    refine (Go.Proofs.Ytkinlkmmelkdnaa.GlToRateS.C (aList) A0 c0 _   (Lib.hid (Cells.below M0.out HBwt_15.out)) N0 qt_22).mono ?_
    rintro e_t_22 wt_22 ⟨At_22, ct_22, rfl, ot_22, bt_22⟩
    have Dt_22_t_10 := Lib.hid (apart_call ot_22 Ot_10.out)
    have Dt_22_t_15a := Lib.hid (apart_call ot_22 Ot_15a.out)
    have Ot_22 := Lib.hid (own_lower ot_22 HBwt_15.out.size)
    clear ot_22
    have HBwt_22 := Lib.hid (Below.step HBwt_15.out bt_22)
    replace Ot_10 := Lib.hid (own_below Ot_10.out bt_22)
    replace Ot_15a := Lib.hid (own_below Ot_15a.out bt_22)
    clear bt_22
    replace H := bind2_hid H
    obtain ⟨t_29a, t_29b, qt_29, H⟩ := H
    go_wp2_with fail
    go_at_call 40
    refine (Go.Proofs.Ytkinlkmmelkdnaa.GiRaiseRate.C (t_22) (aZone) (aGrams) (aDay) (aCents) At_22 ct_22 _   (Lib.hid (own_cells Ot_22.out)) (Lib.hid (own_max Ot_22.out)) (Lib.hid (own_room Ot_22.out)) qt_29).mono ?_
    rintro e_t_29 wt_29 ⟨At_29a, ct_29a, rfl, ot_29a, bt_29⟩
    have Dt_29a_t_10 := Lib.hid (apart_call ot_29a Ot_10.out)
    have Dt_29a_t_15a := Lib.hid (apart_call ot_29a Ot_15a.out)
    have Dt_29a_t_22 := Lib.hid (apart_call ot_29a Ot_22.out)
    have Ot_29a := Lib.hid (own_lower ot_29a HBwt_22.out.size)
    clear ot_29a
    have HBwt_29 := Lib.hid (Below.step HBwt_22.out bt_29)
    replace Ot_10 := Lib.hid (own_below Ot_10.out bt_29)
    replace Ot_15a := Lib.hid (own_below Ot_15a.out bt_29)
    replace Ot_22 := Lib.hid (own_below Ot_22.out bt_29)
    clear bt_29
    replace H := bind_hid H
    obtain ⟨t_37, qt_37, H⟩ := H
    go_wp2_with fail
    go_at_call 21
    refine (Go.Proofs.Ytkinlkmmelkdnaa.GlEqRateS.C (t_29a) (t_15a) At_29a ct_29a At_15a ct_15a _   (Lib.hid (own_cells Ot_29a.out)) (Lib.hid (own_max Ot_29a.out)) (Lib.hid (own_cells Ot_15a.out)) (Lib.hid (own_max Ot_15a.out)) qt_37).mono ?_
    rintro e_t_37 wt_37 ⟨rfl, bt_37⟩
    have HBwt_37 := Lib.hid (Below.step HBwt_29.out bt_37)
    replace Ot_10 := Lib.hid (own_below Ot_10.out bt_37)
    replace Ot_15a := Lib.hid (own_below Ot_15a.out bt_37)
    replace Ot_22 := Lib.hid (own_below Ot_22.out bt_37)
    replace Ot_29a := Lib.hid (own_below Ot_29a.out bt_37)
    clear bt_37
    cases t_37 with
    | false =>
      replace H := let_hid H
      obtain ⟨t_38, ht_38, H⟩ := H
      obtain rfl : t_38 = true := ht_38.symm
      replace H := join_hid H
      replace H := ite_t H
      replace H := app_hid H
      replace H := ite_t H
      obtain rfl := ret_hid H
      go_wp2_with fail
      go_ret
      exact ⟨rfl, HBwt_37.out⟩
    | true =>
      replace H := let_hid H
      obtain ⟨t_38, ht_38, H⟩ := H
      obtain rfl : t_38 = false := ht_38.symm
      replace H := join_hid H
      replace H := ite_f H
      replace H := let_hid H
      obtain ⟨t_42, ht_42, H⟩ := H
      replace H := app_hid H
      cases t_42 with
      | false =>
        replace H := ite_f H
        replace H := bind_hid H
        obtain ⟨t_47, qt_47, H⟩ := H
        go_wp2_with fail
        go_at_call 19
        refine (Go.Proofs.Ytkinlkmmelkdnaa.GlToRateS.C (aList) A0 c0 _   (Lib.hid (Cells.below M0.out HBwt_37.out)) N0 qt_47).mono ?_
        rintro e_t_47 wt_47 ⟨At_47, ct_47, rfl, ot_47, bt_47⟩
        have Dt_47_t_10 := Lib.hid (apart_call ot_47 Ot_10.out)
        have Dt_47_t_15a := Lib.hid (apart_call ot_47 Ot_15a.out)
        have Dt_47_t_22 := Lib.hid (apart_call ot_47 Ot_22.out)
        have Dt_47_t_29a := Lib.hid (apart_call ot_47 Ot_29a.out)
        have Ot_47 := Lib.hid (own_lower ot_47 HBwt_37.out.size)
        clear ot_47
        have HBwt_47 := Lib.hid (Below.step HBwt_37.out bt_47)
        replace Ot_10 := Lib.hid (own_below Ot_10.out bt_47)
        replace Ot_15a := Lib.hid (own_below Ot_15a.out bt_47)
        replace Ot_22 := Lib.hid (own_below Ot_22.out bt_47)
        replace Ot_29a := Lib.hid (own_below Ot_29a.out bt_47)
        clear bt_47
        replace H := bind_hid H
        obtain ⟨t_48, qt_48, H⟩ := H
        go_wp2_with fail
        go_at_call 21
        refine (Go.Proofs.Ytkinlkmmelkdnaa.GlEqRateS.C (t_22) (t_47) At_22 ct_22 At_47 ct_47 _   (Lib.hid (own_cells Ot_22.out)) (Lib.hid (own_max Ot_22.out)) (Lib.hid (own_cells Ot_47.out)) (Lib.hid (own_max Ot_47.out)) qt_48).mono ?_
        rintro e_t_48 wt_48 ⟨rfl, bt_48⟩
        have HBwt_48 := Lib.hid (Below.step HBwt_47.out bt_48)
        replace Ot_10 := Lib.hid (own_below Ot_10.out bt_48)
        replace Ot_15a := Lib.hid (own_below Ot_15a.out bt_48)
        replace Ot_22 := Lib.hid (own_below Ot_22.out bt_48)
        replace Ot_29a := Lib.hid (own_below Ot_29a.out bt_48)
        replace Ot_47 := Lib.hid (own_below Ot_47.out bt_48)
        clear bt_48
        cases t_48 with
        | false =>
          replace H := let_hid H
          obtain ⟨t_49, ht_49, H⟩ := H
          obtain rfl : t_49 = true := ht_49.symm
          replace H := ite_t H
          obtain rfl := ret_hid H
          go_wp2_with fail
          go_ret
          exact ⟨rfl, HBwt_48.out⟩
        | true =>
          replace H := let_hid H
          obtain ⟨t_49, ht_49, H⟩ := H
          obtain rfl : t_49 = false := ht_49.symm
          replace H := ite_f H
          replace H := bind2_hid H
          obtain ⟨t_54, lt_54, qt_54, H⟩ := H
          go_wp2_with fail
          go_at_call 27
          refine (Go.Proofs.Ytkinlkmmelkdnaa.GlMarkRateS.C (t_22) (1) At_22 ct_22 w.heap.size _   Ot_22 (Lib.hid (own_max Ot_22.out))   qt_54).mono ?_
          rintro e_t_54 wt_54 ⟨rfl, ot_54, nt_54, gt_54⟩
          have Pt_54 := Lib.hid ot_54
          have Gt_54 := Lib.hid gt_54
          replace nt_54 := Lib.hid nt_54
          clear ot_54 gt_54
          have HBwt_54 := Lib.hid (HBwt_48.out.grown Gt_54.out HBwt_48.out.size (fun q hq => (Ot_22.out.lt q hq).1))
          replace Ot_10 := Lib.hid (own_other Ot_10.out Gt_54.out Dt_22_t_10.out)
          replace Ot_15a := Lib.hid (own_other Ot_15a.out Gt_54.out Dt_22_t_15a.out)
          replace Ot_29a := Lib.hid (own_other Ot_29a.out Gt_54.out (Apart.symm Dt_29a_t_22.out))
          replace Ot_47 := Lib.hid (own_other Ot_47.out Gt_54.out (Apart.symm Dt_47_t_22.out))
          clear Ot_22 Gt_54
          replace H := let_hid H
          obtain ⟨t_57, ht_57, H⟩ := H
          replace H := join_hid H
          cases t_57 with
          | false =>
            replace H := ite_f H
            replace H := bind_hid H
            obtain ⟨t_61, qt_61, H⟩ := H
            go_wp2_with fail
            go_at_call 21
            refine (Go.Proofs.Ytkinlkmmelkdnaa.GlEqRateS.C (t_29a) (t_15a) At_29a ct_29a At_15a ct_15a _   (Lib.hid (own_cells Ot_29a.out)) (Lib.hid (own_max Ot_29a.out)) (Lib.hid (own_cells Ot_15a.out)) (Lib.hid (own_max Ot_15a.out)) qt_61).mono ?_
            rintro e_t_61 wt_61 ⟨rfl, bt_61⟩
            have HBwt_61 := Lib.hid (Below.step HBwt_54.out bt_61)
            replace Ot_10 := Lib.hid (own_below Ot_10.out bt_61)
            replace Ot_15a := Lib.hid (own_below Ot_15a.out bt_61)
            replace Pt_54 := Lib.hid (own_below Pt_54.out bt_61)
            replace Ot_29a := Lib.hid (own_below Ot_29a.out bt_61)
            replace Ot_47 := Lib.hid (own_below Ot_47.out bt_61)
            clear bt_61
            cases t_61 with
            | false =>
              replace H := let_hid H
              obtain ⟨t_62, ht_62, H⟩ := H
              obtain rfl : t_62 = true := ht_62.symm
              replace H := app_hid H
              replace H := join_hid H
              replace H := ite_t H
              replace H := app_hid H
              replace H := ite_t H
              obtain rfl := ret_hid H
              go_wp2_with fail
              go_ret
              exact ⟨rfl, HBwt_61.out⟩
            | true =>
              replace H := let_hid H
              obtain ⟨t_62, ht_62, H⟩ := H
              obtain rfl : t_62 = false := ht_62.symm
              replace H := app_hid H
              replace H := join_hid H
              replace H := ite_f H
              replace H := let_hid H
              obtain ⟨t_67, ht_67, H⟩ := H
              obtain rfl := ht_42.symm.trans ht_67
              replace H := app_hid H
              replace H := ite_f H
              replace H := bind2_hid H
              obtain ⟨t_73, lt_73, qt_73, H⟩ := H
              go_wp2_with fail
              go_at_call 27
              refine (Go.Proofs.Ytkinlkmmelkdnaa.GlMarkRateS.C (t_29a) (1) At_29a ct_29a w.heap.size _   Ot_29a (Lib.hid (own_max Ot_29a.out))   qt_73).mono ?_
              rintro e_t_73 wt_73 ⟨rfl, ot_73, nt_73, gt_73⟩
              have Pt_73 := Lib.hid ot_73
              have Gt_73 := Lib.hid gt_73
              replace nt_73 := Lib.hid nt_73
              clear ot_73 gt_73
              have HBwt_73 := Lib.hid (HBwt_61.out.grown Gt_73.out HBwt_61.out.size (fun q hq => (Ot_29a.out.lt q hq).1))
              replace Ot_10 := Lib.hid (own_other Ot_10.out Gt_73.out Dt_29a_t_10.out)
              replace Ot_15a := Lib.hid (own_other Ot_15a.out Gt_73.out Dt_29a_t_15a.out)
              replace Pt_54 := Lib.hid (own_other Pt_54.out Gt_73.out Dt_29a_t_22.out)
              replace Ot_47 := Lib.hid (own_other Ot_47.out Gt_73.out (Apart.symm Dt_47_t_29a.out))
              clear Ot_29a Gt_73
              replace H := bind_hid H
              obtain ⟨t_78, qt_78, H⟩ := H
              go_wp2_with fail
              have hc_ := nt_73.out
              have hv_ : (Value.slice At_29a t_29a.length ct_29a : Value) = Value.slice At_29a lt_73.length ct_29a := by rw [hc_]
              try rw [hv_]
              replace Pt_73 := Lib.hid (own_len hc_ Pt_73.out)
              clear hc_ hv_
              go_wp2_with fail
              go_at_call 41
              refine (Go.Proofs.Ytkinlkmmelkdnaa.GlHeldRateS.C (lt_73) (1) At_29a ct_29a _   (Lib.hid (own_cells Pt_73.out)) (Lib.hid (own_max Pt_73.out)) qt_78).mono ?_
              rintro e_t_78 wt_78 ⟨rfl, bt_78⟩
              have HBwt_78 := Lib.hid (Below.step HBwt_73.out bt_78)
              replace Ot_10 := Lib.hid (own_below Ot_10.out bt_78)
              replace Ot_15a := Lib.hid (own_below Ot_15a.out bt_78)
              replace Pt_54 := Lib.hid (own_below Pt_54.out bt_78)
              replace Pt_73 := Lib.hid (own_below Pt_73.out bt_78)
              replace Ot_47 := Lib.hid (own_below Ot_47.out bt_78)
              clear bt_78
              replace H := let_hid H
              obtain ⟨t_81, ht_81, H⟩ := H
              cases t_81 with
              | false =>
                replace H := ite_f H
                replace H := let_hid H
                obtain ⟨t_85, ht_85, H⟩ := H
                cases t_85 with
                | false =>
                  replace H := ite_f H
                  replace H := bind_hid H
                  obtain ⟨t_88, qt_88, H⟩ := H
                  go_wp2_with fail
                  go_at_call 19
                  refine (Go.Proofs.Ytkinlkmmelkdnaa.GlToRateS.C (aList) A0 c0 _   (Lib.hid (Cells.below M0.out HBwt_78.out)) N0 qt_88).mono ?_
                  rintro e_t_88 wt_88 ⟨At_88, ct_88, rfl, ot_88, bt_88⟩
                  have Dt_88_t_10 := Lib.hid (apart_call ot_88 Ot_10.out)
                  have Dt_88_t_15a := Lib.hid (apart_call ot_88 Ot_15a.out)
                  have Dt_88_t_22 := Lib.hid (apart_call ot_88 Pt_54.out)
                  have Dt_88_t_29a := Lib.hid (apart_call ot_88 Pt_73.out)
                  have Dt_88_t_47 := Lib.hid (apart_call ot_88 Ot_47.out)
                  have Ot_88 := Lib.hid (own_lower ot_88 HBwt_78.out.size)
                  clear ot_88
                  have HBwt_88 := Lib.hid (Below.step HBwt_78.out bt_88)
                  replace Ot_10 := Lib.hid (own_below Ot_10.out bt_88)
                  replace Ot_15a := Lib.hid (own_below Ot_15a.out bt_88)
                  replace Pt_54 := Lib.hid (own_below Pt_54.out bt_88)
                  replace Pt_73 := Lib.hid (own_below Pt_73.out bt_88)
                  replace Ot_47 := Lib.hid (own_below Ot_47.out bt_88)
                  clear bt_88
                  replace H := bind2_hid H
                  obtain ⟨t_93a, t_93b, qt_93, H⟩ := H
                  go_wp2_with fail
                  go_at_call 40
                  refine (Go.Proofs.Ytkinlkmmelkdnaa.GiRaiseRate.C (t_88) (aZone) (aGrams) (aDay) (aCents) At_88 ct_88 _   (Lib.hid (own_cells Ot_88.out)) (Lib.hid (own_max Ot_88.out)) (Lib.hid (own_room Ot_88.out)) qt_93).mono ?_
                  rintro e_t_93 wt_93 ⟨At_93a, ct_93a, rfl, ot_93a, bt_93⟩
                  have Dt_93a_t_10 := Lib.hid (apart_call ot_93a Ot_10.out)
                  have Dt_93a_t_15a := Lib.hid (apart_call ot_93a Ot_15a.out)
                  have Dt_93a_t_22 := Lib.hid (apart_call ot_93a Pt_54.out)
                  have Dt_93a_t_29a := Lib.hid (apart_call ot_93a Pt_73.out)
                  have Dt_93a_t_47 := Lib.hid (apart_call ot_93a Ot_47.out)
                  have Dt_93a_t_88 := Lib.hid (apart_call ot_93a Ot_88.out)
                  have Ot_93a := Lib.hid (own_lower ot_93a HBwt_88.out.size)
                  clear ot_93a
                  have HBwt_93 := Lib.hid (Below.step HBwt_88.out bt_93)
                  replace Ot_10 := Lib.hid (own_below Ot_10.out bt_93)
                  replace Ot_15a := Lib.hid (own_below Ot_15a.out bt_93)
                  replace Pt_54 := Lib.hid (own_below Pt_54.out bt_93)
                  replace Pt_73 := Lib.hid (own_below Pt_73.out bt_93)
                  replace Ot_47 := Lib.hid (own_below Ot_47.out bt_93)
                  replace Ot_88 := Lib.hid (own_below Ot_88.out bt_93)
                  clear bt_93
                  replace H := bind_hid H
                  obtain ⟨t_101, qt_101, H⟩ := H
                  go_wp2_with fail
                  go_at_call 21
                  refine (Go.Proofs.Ytkinlkmmelkdnaa.GlEqRateS.C (t_93a) (t_15a) At_93a ct_93a At_15a ct_15a _   (Lib.hid (own_cells Ot_93a.out)) (Lib.hid (own_max Ot_93a.out)) (Lib.hid (own_cells Ot_15a.out)) (Lib.hid (own_max Ot_15a.out)) qt_101).mono ?_
                  rintro e_t_101 wt_101 ⟨rfl, bt_101⟩
                  have HBwt_101 := Lib.hid (Below.step HBwt_93.out bt_101)
                  replace Ot_10 := Lib.hid (own_below Ot_10.out bt_101)
                  replace Ot_15a := Lib.hid (own_below Ot_15a.out bt_101)
                  replace Pt_54 := Lib.hid (own_below Pt_54.out bt_101)
                  replace Pt_73 := Lib.hid (own_below Pt_73.out bt_101)
                  replace Ot_47 := Lib.hid (own_below Ot_47.out bt_101)
                  replace Ot_88 := Lib.hid (own_below Ot_88.out bt_101)
                  replace Ot_93a := Lib.hid (own_below Ot_93a.out bt_101)
                  clear bt_101
                  cases t_101 with
                  | false =>
                    replace H := let_hid H
                    obtain ⟨t_102, ht_102, H⟩ := H
                    obtain rfl : t_102 = true := ht_102.symm
                    replace H := join_hid H
                    replace H := ite_t H
                    replace H := app_hid H
                    replace H := ite_t H
                    obtain rfl := ret_hid H
                    go_wp2_with fail
                    go_ret
                    exact ⟨rfl, HBwt_101.out⟩
                  | true =>
                    replace H := let_hid H
                    obtain ⟨t_102, ht_102, H⟩ := H
                    obtain rfl : t_102 = false := ht_102.symm
                    replace H := join_hid H
                    replace H := ite_f H
                    replace H := let_hid H
                    obtain ⟨t_106, ht_106, H⟩ := H
                    replace H := app_hid H
                    cases t_106 with
                    | false =>
                      replace H := ite_f H
                      replace H := bind_hid H
                      obtain ⟨t_112, qt_112, H⟩ := H
                      go_wp2_with fail
                      go_at_call 41
                      refine (Go.Proofs.Ytkinlkmmelkdnaa.GlHeldRateS.C (lt_73) (1) At_29a ct_29a _   (Lib.hid (own_cells Pt_73.out)) (Lib.hid (own_max Pt_73.out)) qt_112).mono ?_
                      rintro e_t_112 wt_112 ⟨rfl, bt_112⟩
                      have HBwt_112 := Lib.hid (Below.step HBwt_101.out bt_112)
                      replace Ot_10 := Lib.hid (own_below Ot_10.out bt_112)
                      replace Ot_15a := Lib.hid (own_below Ot_15a.out bt_112)
                      replace Pt_54 := Lib.hid (own_below Pt_54.out bt_112)
                      replace Pt_73 := Lib.hid (own_below Pt_73.out bt_112)
                      replace Ot_47 := Lib.hid (own_below Ot_47.out bt_112)
                      replace Ot_88 := Lib.hid (own_below Ot_88.out bt_112)
                      replace Ot_93a := Lib.hid (own_below Ot_93a.out bt_112)
                      clear bt_112
                      replace H := let_hid H
                      obtain ⟨t_115, ht_115, H⟩ := H
                      cases t_115 with
                      | false =>
                        replace H := ite_f H
                        replace H := let_hid H
                        obtain ⟨t_119, ht_119, H⟩ := H
                        cases t_119 with
                        | false =>
                          replace H := ite_f H
                          obtain rfl := ret_hid H
                          go_wp2_with fail
                          go_ret
                          exact ⟨rfl, HBwt_112.out⟩
                        | true =>
                          replace H := ite_t H
                          obtain rfl := ret_hid H
                          go_wp2_with fail
                          go_ret
                          exact ⟨rfl, HBwt_112.out⟩
                      | true =>
                        replace H := ite_t H
                        obtain rfl := ret_hid H
                        go_wp2_with fail
                        go_ret
                        exact ⟨rfl, HBwt_112.out⟩
                    | true =>
                      replace H := ite_t H
                      obtain rfl := ret_hid H
                      go_wp2_with fail
                      go_ret
                      exact ⟨rfl, HBwt_101.out⟩
                | true =>
                  replace H := ite_t H
                  obtain rfl := ret_hid H
                  go_wp2_with fail
                  go_ret
                  exact ⟨rfl, HBwt_78.out⟩
              | true =>
                replace H := ite_t H
                obtain rfl := ret_hid H
                go_wp2_with fail
                go_ret
                exact ⟨rfl, HBwt_78.out⟩
          | true =>
            replace H := ite_t H
            replace H := app_hid H
            replace H := join_hid H
            replace H := ite_t H
            replace H := app_hid H
            replace H := ite_t H
            obtain rfl := ret_hid H
            go_wp2_with fail
            go_ret
            exact ⟨rfl, HBwt_54.out⟩
      | true =>
        replace H := ite_t H
        obtain rfl := ret_hid H
        go_wp2_with fail
        go_ret
        exact ⟨rfl, HBwt_37.out⟩
  | true =>
    replace H := ite_t H
    obtain rfl := ret_hid H
    go_wp2_with fail
    go_ret
    exact ⟨rfl, HBwt_4.out⟩
end Go.Proofs.Ytkinlkmmelkdnaa.GlFnExactRaiseRate

/- Plain words on stamps: what a stamp is, when one is valid, when a list of them is; the cells of a list of records. No condition. -/
namespace Go.Proofs.Ytkinlkmmelkdnaa.PlainStamp
set_option linter.unusedVariables false

/-- a number lies in a..b -/
def inB (x a b : Int) : Bool := decide (a ≤ x ∧ x ≤ b)
theorem inB_yes {x a b : Int} (h1 : a ≤ x) (h2 : x ≤ b) : inB x a b = true := by unfold inB; exact decide_eq_true ⟨h1, h2⟩
theorem inB_of {x a b : Int} (h : inB x a b = true) : a ≤ x ∧ x ≤ b := by unfold inB at h; exact of_decide_eq_true h
theorem inB_no {x a b : Int} (h : x < a ∨ b < x) : inB x a b = false := by unfold inB; exact decide_eq_false (by omega)

structure St where
  id : Int
  face : Int
  color : Int
  year : Int
deriving DecidableEq

def St.cells (s : St) : List Value := [.int .i64 s.id, .int .i64 s.face, .int .i64 s.color, .int .i64 s.year]
def St.val (s : St) : Value := .agg #[.int .i64 s.id, .int .i64 s.face, .int .i64 s.color, .int .i64 s.year]
/-- each field fits an int -/
def St.fits (s : St) : Prop := (Lit.int .i64 s.id).wf = true ∧ (Lit.int .i64 s.face).wf = true ∧ (Lit.int .i64 s.color).wf = true ∧ (Lit.int .i64 s.year).wf = true

def okSt (s : St) : Bool := inB s.id 1 999 && inB s.face 0 9999 && inB s.color 0 99 && inB s.year 1840 2100
theorem okSt_yes {s : St} (h : okSt s = true) : (1 ≤ s.id ∧ s.id ≤ 999) ∧ (0 ≤ s.face ∧ s.face ≤ 9999) ∧ (0 ≤ s.color ∧ s.color ≤ 99) ∧ (1840 ≤ s.year ∧ s.year ≤ 2100) := by
  unfold okSt at h
  simp only [Bool.and_eq_true] at h
  exact ⟨inB_of h.1.1.1, inB_of h.1.1.2, inB_of h.1.2, inB_of h.2⟩

/-- the stamp at k is valid, and its id is above the one ahead of it -/
def okAt (l : List St) (k : Nat) : Bool :=
  match l[k]? with
  | none => true
  | some s => okSt s && (decide (k = 0) || (match l[k-1]? with | none => true | some r => decide (r.id < s.id)))
def okUp (l : List St) (k : Nat) : Bool := (List.range k).all (okAt l)
theorem okUp_zero (l : List St) : okUp l 0 = true := by simp [okUp]
theorem okUp_succ (l : List St) (k : Nat) : okUp l (k + 1) = (okUp l k && okAt l k) := by simp [okUp, List.range_succ, List.all_append]
theorem okUp_not {l : List St} {k n : Nat} (h : okAt l k = false) (hk : k < n) : okUp l n = false := by
  unfold okUp
  rw [Bool.eq_false_iff]
  intro hall
  have := List.all_eq_true.1 hall k (List.mem_range.2 hk)
  rw [h] at this; exact absurd this (by simp)
/-- a list of at most twelve valid stamps with rising ids -/
def okSts (l : List St) : Bool := decide (l.length ≤ 12) && okUp l l.length
theorem okAt_of {l : List St} {k : Nat} {s : St} (hs : l[k]? = some s) (h : okAt l k = true) : okSt s = true ∧ ∀ r, 0 < k → l[k-1]? = some r → r.id < s.id := by
  unfold okAt at h
  rw [hs] at h
  simp only [Bool.and_eq_true, Bool.or_eq_true, decide_eq_true_eq] at h
  refine ⟨h.1, fun r hk hr => ?_⟩
  rcases h.2 with h0 | h0
  · omega
  · rw [hr] at h0; simpa using h0
theorem okSts_len {l : List St} (h : okSts l = true) : l.length ≤ 12 := by unfold okSts at h; simp only [Bool.and_eq_true, decide_eq_true_eq] at h; exact h.1
theorem okSts_at {l : List St} (h : okSts l = true) {k : Nat} {s : St} (hs : l[k]? = some s) : okSt s = true ∧ ∀ r, 0 < k → l[k-1]? = some r → r.id < s.id := by
  unfold okSts at h
  simp only [Bool.and_eq_true, decide_eq_true_eq] at h
  exact okAt_of hs (List.all_eq_true.1 h.2 k (List.mem_range.2 (List.getElem?_eq_some_iff.1 hs).1))
theorem okSts_mem {l : List St} (h : okSts l = true) {s : St} (hs : s ∈ l) : okSt s = true := by
  obtain ⟨k, hk⟩ := List.getElem?_of_mem hs
  exact (okSts_at h hk).1

/-- the cells of a list of stamps, one after the other -/
def flat (l : List St) : List Value := l.flatMap St.cells
theorem flat_nil : flat [] = [] := rfl
theorem flat_cons (s : St) (l : List St) : flat (s :: l) = s.cells ++ flat l := by simp [flat]
theorem flat_len (l : List St) : (flat l).length = l.length * 4 := by
  induction l with
  | nil => rfl
  | cons s l ih => rw [flat_cons, List.length_append, ih]; simp [St.cells]; omega
theorem flat_at : ∀ (l : List St) (k : Nat) (s : St), l[k]? = some s → ∀ j, j < 4 → (flat l)[k * 4 + j]? = s.cells[j]?
  | [], k, s, h, _, _ => by simp at h
  | r :: l, 0, s, h, j, hj => by
    obtain rfl : r = s := by simpa using h
    rw [flat_cons, List.getElem?_append_left (by simp [St.cells]; omega)]; simp
  | r :: l, k + 1, s, h, j, hj => by
    rw [flat_cons, List.getElem?_append_right (by simp [St.cells]; omega), show (k + 1) * 4 + j - r.cells.length = k * 4 + j by simp [St.cells]; omega]
    exact flat_at l k s (by simpa using h) j hj
end Go.Proofs.Ytkinlkmmelkdnaa.PlainStamp

/- Words for reckoning with plain functions; within and l1In. No condition. -/
namespace Go.Proofs.Ytkinlkmmelkdnaa.QBase
set_option linter.unusedVariables false
set_option linter.unusedSimpArgs false
open Go.RowKit
open Go.Proofs.Ytkinlkmmelkdnaa.GoP Go.Proofs.Ytkinlkmmelkdnaa.PlainStamp

theorem iteK_if {ρ : Type} (c : Bool) (a b : Option ρ) : iteK c a b = if c = true then a else b := by cases c <;> rfl
theorem bind2_some {α β ρ : Type} (a : α) (b : β) (f : α → β → Option ρ) : bind2 (some (a, b)) f = f a b := rfl
theorem bind3_some {α β γ ρ : Type} (a : α) (b : β) (c : γ) (f : α → β → γ → Option ρ) : bind3 (some (a, b, c)) f = f a b c := rfl
theorem unp2_mk {α β ρ : Type} (a : α) (b : β) (f : α → β → Option ρ) : unp2 (a, b) f = f a b := rfl
theorem unp3_mk {α β γ ρ : Type} (a : α) (b : β) (c : γ) (f : α → β → γ → Option ρ) : unp3 (a, b, c) f = f a b c := rfl
theorem guardK_pos {ρ : Type} {p : Prop} [Decidable p] {a : Option ρ} (h : p) : guardK p a = a := if_pos h
theorem cut2 {α β : Type} {x : Option (α × β)} {p : α × β} (h : x = some p) : x = some (p.1, p.2) := h
theorem cut3 {α β γ : Type} {x : Option (α × β × γ)} {p : α × β × γ} (h : x = some p) : x = some (p.1, p.2.1, p.2.2) := h
theorem within_eq (n a b : Int) : GiWithin.P n a b = some (inB n a b) := by
  simp only [GiWithin.P, letK, joinK, appK, iteK_if, inB]
  by_cases h1 : a ≤ n <;> by_cases h2 : n ≤ b <;> simp [h1, h2]
theorem l1In_eq (n a b : Int) : GsL1In.P n a b = some (inB n a b) := by
  simp only [GsL1In.P, letK, joinK, appK, iteK_if, inB]
  by_cases h1 : a ≤ n <;> by_cases h2 : n ≤ b <;> simp [h1, h2]
end Go.Proofs.Ytkinlkmmelkdnaa.QBase

/- Reckoning with the loops of plain functions; lists of valid records with rising ids. No condition. -/
namespace Go.Proofs.Ytkinlkmmelkdnaa.QLoop
set_option linter.unusedVariables false
open Go.RowKit
open Go.Proofs.Ytkinlkmmelkdnaa.GoP Go.Proofs.Ytkinlkmmelkdnaa.QBase

theorem cnt_ex {σ ρ : Type} {f : Nat → σ → (σ → Option ρ) → (σ → Option ρ) → Option ρ} {fin : σ → Option ρ} {Q : ρ → Prop} {n : Nat} (I : Nat → σ → Prop)
    (step : ∀ k s nx, k < n → I k s → (∀ s', I (k + 1) s' → ∃ r, nx s' = some r ∧ Q r) → ∃ r, f k s nx fin = some r ∧ Q r) (done : ∀ s, I n s → ∃ r, fin s = some r ∧ Q r) :
    ∀ m k s, k + m = n → I k s → ∃ r, cntK f m k s fin = some r ∧ Q r := by
  intro m
  induction m with
  | zero => intro k s hk hI; obtain rfl : k = n := by omega
            exact done s hI
  | succ m ih => intro k s hk hI; exact step k s _ (by omega) hI (fun s' h' => ih (k + 1) s' (by omega) h')
theorem cnt_is {σ ρ : Type} {f : Nat → σ → (σ → Option ρ) → (σ → Option ρ) → Option ρ} {fin : σ → Option ρ} {n : Nat} (r : ρ) (I : Nat → σ → Prop)
    (step : ∀ k s nx, k < n → I k s → (∀ s', I (k + 1) s' → nx s' = some r) → f k s nx fin = some r) (done : ∀ s, I n s → fin s = some r) (s : σ) (h0 : I 0 s) : cntK f n 0 s fin = some r := by
  obtain ⟨r', h, rfl⟩ := cnt_ex (Q := fun x => x = r) I (fun k s nx hk hI hn => ⟨r, step k s nx hk hI (fun s' h' => by obtain ⟨_, h, rfl⟩ := hn s' h'; exact h), rfl⟩) (fun s h => ⟨r, done s h, rfl⟩) n 0 s (by omega) h0
  exact h
theorem at_lt {α : Type} {l : List α} {k : Nat} (h : k < l.length) : ∃ x, l[k]? = some x ∧ idx l (k : Int) = some x := ⟨l[k], List.getElem?_eq_getElem h, by rw [idx_nat, List.getElem?_eq_getElem h]⟩
theorem idx_pred {α : Type} {l : List α} {k : Nat} {x : α} (hk : 0 < k) (hb : k ≤ 9223372036854775807) (h : l[k - 1]? = some x) : idx l (IntKind.i64.wrap ((k : Int) - 1)) = some x := by
  rw [IntWalk.i64_in _ (by omega), show ((k : Int) - 1) = ((k - 1 : Nat) : Int) by omega, idx_nat, h]
theorem take_next {α : Type} {l : List α} {k : Nat} {x : α} (h : l[k]? = some x) : l.take (k + 1) = l.take k ++ [x] := by
  obtain ⟨hk, e⟩ := List.getElem?_eq_some_iff.1 h
  rw [List.take_succ_eq_append_getElem hk, e]
theorem all_next {α : Type} {p : α → Bool} {l : List α} {k : Nat} {x : α} (h : l[k]? = some x) : (l.take (k + 1)).all p = ((l.take k).all p && p x) := by
  rw [take_next h]; simp
theorem not_all {α : Type} {p : α → Bool} {l : List α} {k : Nat} {x : α} (h : l[k]? = some x) (hp : p x = false) : l.all p = false := by
  rw [Bool.eq_false_iff]
  intro ha
  have := List.all_eq_true.1 ha x (List.mem_of_getElem? h)
  rw [hp] at this; exact absurd this (by simp)
theorem wrap_in {x : Int} (h1 : -9223372036854775808 ≤ x) (h2 : x ≤ 9223372036854775807) : IntKind.i64.wrap x = x := IntWalk.i64_in _ (by omega)

/-- valid, and above the one ahead of it -/
def upAt {α : Type} (ok : α → Bool) (id : α → Int) (l : List α) (k : Nat) : Bool :=
  match l[k]? with
  | none => true
  | some s => ok s && (decide (k = 0) || (match l[k-1]? with | none => true | some r => decide (id r < id s)))
def upTo {α : Type} (ok : α → Bool) (id : α → Int) (l : List α) (k : Nat) : Bool := (List.range k).all (upAt ok id l)
theorem upTo_zero {α : Type} (ok : α → Bool) (id : α → Int) (l : List α) : upTo ok id l 0 = true := rfl
theorem upTo_succ {α : Type} (ok : α → Bool) (id : α → Int) (l : List α) (k : Nat) : upTo ok id l (k + 1) = (upTo ok id l k && upAt ok id l k) := by simp [upTo, List.range_succ, List.all_append]
theorem upTo_not {α : Type} {ok : α → Bool} {id : α → Int} {l : List α} {k n : Nat} (h : upAt ok id l k = false) (hk : k < n) : upTo ok id l n = false := by
  unfold upTo
  rw [Bool.eq_false_iff]
  intro ha
  have := List.all_eq_true.1 ha k (List.mem_range.2 hk)
  rw [h] at this; exact absurd this (by simp)
/-- a list of at most m valid records with rising ids -/
def upL {α : Type} (m : Nat) (ok : α → Bool) (id : α → Int) (l : List α) : Bool := decide (l.length ≤ m) && upTo ok id l l.length
theorem upAt_bad {α : Type} {ok : α → Bool} {id : α → Int} {l : List α} {k : Nat} {s : α} (hs : l[k]? = some s) (h : ok s = false) : upAt ok id l k = false := by unfold upAt; rw [hs]; simp [h]
theorem upAt_first {α : Type} {ok : α → Bool} {id : α → Int} {l : List α} {s : α} (hs : l[0]? = some s) (h : ok s = true) : upAt ok id l 0 = true := by unfold upAt; rw [hs]; simp [h]
theorem upAt_next {α : Type} {ok : α → Bool} {id : α → Int} {l : List α} {k : Nat} {s r : α} (hs : l[k]? = some s) (hr : l[k-1]? = some r) (hk : 0 < k) (h : ok s = true) : upAt ok id l k = decide (id r < id s) := by
  unfold upAt; rw [hs]; simp only [hr, h, Bool.true_and, decide_eq_false (show ¬ k = 0 by omega), Bool.false_or]
theorem upL_len {α : Type} {m : Nat} {ok : α → Bool} {id : α → Int} {l : List α} (h : upL m ok id l = true) : l.length ≤ m := by unfold upL at h; simp only [Bool.and_eq_true, decide_eq_true_eq] at h; exact h.1
theorem upL_ok {α : Type} {m : Nat} {ok : α → Bool} {id : α → Int} {l : List α} (h : upL m ok id l = true) {k : Nat} {s : α} (hs : l[k]? = some s) : ok s = true := by
  unfold upL at h
  simp only [Bool.and_eq_true, decide_eq_true_eq] at h
  have := List.all_eq_true.1 h.2 k (List.mem_range.2 (List.getElem?_eq_some_iff.1 hs).1)
  unfold upAt at this
  rw [hs] at this
  simp only [Bool.and_eq_true] at this
  exact this.1
theorem upL_mem {α : Type} {m : Nat} {ok : α → Bool} {id : α → Int} {l : List α} (h : upL m ok id l = true) {s : α} (hs : s ∈ l) : ok s = true := by
  obtain ⟨k, hk⟩ := List.getElem?_of_mem hs
  exact upL_ok h hk
/-- a loop that goes through a list of records and stops with 'false' at the first that is bad -/
theorem up_loop {α : Type} {ok : α → Bool} {id : α → Int} {l : List α} {R : Type} {no : R} {f : Nat → Unit → (Unit → Option R) → (Unit → Option R) → Option R} {fin : Unit → Option R}
    (step : ∀ k nx s, l[k]? = some s → (ok s = false → f k () nx fin = some no) ∧ (ok s = true → (k = 0 → f k () nx fin = nx ()) ∧ (0 < k → ∀ r, l[k-1]? = some r → (id r < id s → f k () nx fin = nx ()) ∧ (id s ≤ id r → f k () nx fin = some no)))) :
    cntK f l.length 0 () fin = if upTo ok id l l.length then fin () else some no := by
  have key : ∀ m k, k + m = l.length → upTo ok id l k = true → cntK f m k () fin = if upTo ok id l l.length then fin () else some no := by
    intro m
    induction m with
    | zero => intro k hk hu; obtain rfl : k = l.length := by omega
              rw [hu]; rfl
    | succ m ih =>
      intro k hk hu
      have hlt : k < l.length := by omega
      obtain ⟨s, hs, _⟩ := at_lt hlt
      obtain ⟨h1, h2⟩ := step k (fun s' => cntK f m (k + 1) s' fin) s hs
      show f k () _ fin = _
      cases hok : ok s with
      | false => rw [h1 hok, upTo_not (upAt_bad hs hok) hlt]; rfl
      | true =>
        obtain ⟨h3, h4⟩ := h2 hok
        by_cases hk0 : k = 0
        · rw [h3 hk0]
          subst hk0
          exact ih 1 (by omega) (by rw [upTo_succ, hu, upAt_first hs hok]; rfl)
        · obtain ⟨r, hr, _⟩ := at_lt (l := l) (k := k - 1) (by omega)
          obtain ⟨h5, h6⟩ := h4 (by omega) r hr
          by_cases hlt2 : id r < id s
          · rw [h5 hlt2]
            exact ih (k + 1) (by omega) (by rw [upTo_succ, hu, upAt_next hs hr (by omega) hok]; simpa using hlt2)
          · rw [h6 (by omega), upTo_not (by rw [upAt_next hs hr (by omega) hok]; simpa using hlt2) hlt]; rfl
  exact key l.length 0 (by omega) (upTo_zero ok id l)
end Go.Proofs.Ytkinlkmmelkdnaa.QLoop

/- Loops that count, that search, and that gather behind what is there already: the plain loops' answers. (QCount) No condition but those of each theorem. -/
namespace Go.Proofs.Ytkinlkmmelkdnaa.QCount
set_option linter.unusedVariables false
set_option linter.unusedSimpArgs false
open Go.RowKit
open Go.Proofs.Ytkinlkmmelkdnaa.GoP Go.Proofs.Ytkinlkmmelkdnaa.PlainStamp Go.Proofs.Ytkinlkmmelkdnaa.QBase Go.Proofs.Ytkinlkmmelkdnaa.QLoop

theorem count_list {α R : Type} {l : List α} {p : α → Bool} {f : Nat → Int → (Int → Option R) → (Int → Option R) → Option R} {fin : Int → Option R}
    (step : ∀ k nx x (s : Nat), l[k]? = some x → s ≤ k → f k (s : Int) nx fin = nx ((if p x = true then s + 1 else s : Nat) : Int)) : cntK f l.length 0 0 fin = fin ((l.filter p).length : Int) := by
  have key : ∀ m k, k + m = l.length → cntK f m k (((l.take k).filter p).length : Int) fin = fin ((l.filter p).length : Int) := by
    intro m
    induction m with
    | zero => intro k hk; obtain rfl : k = l.length := by omega
              rw [List.take_of_length_le (Nat.le_refl _)]; rfl
    | succ m ih =>
      intro k hk
      obtain ⟨x, hx, _⟩ := at_lt (l := l) (k := k) (by omega)
      show f k _ _ fin = _
      have hle : ((l.take k).filter p).length ≤ k := by
        have := List.length_filter_le p (l.take k)
        rw [List.length_take] at this
        omega
      rw [step k _ x _ hx hle, ← ih (k + 1) (by omega), take_next hx, List.filter_append, List.length_append]
      cases hp : p x <;> simp [List.filter, hp]
  exact key l.length 0 (by omega)
theorem count_up {R : Type} {n : Nat} {p : Nat → Bool} {f : Nat → Int → (Int → Option R) → (Int → Option R) → Option R} {fin : Int → Option R}
    (step : ∀ k nx (s : Nat), k < n → s ≤ k → f k (s : Int) nx fin = nx ((if p k = true then s + 1 else s : Nat) : Int)) : cntK f n 0 0 fin = fin (((List.range n).filter p).length : Int) := by
  have h := count_list (l := List.range n) (p := p) (f := f) (fin := fin) (fun k nx x s hx hs => by
    obtain ⟨hk, rfl⟩ := List.getElem?_eq_some_iff.1 hx
    rw [List.length_range] at hk
    rw [List.getElem_range]
    exact step k nx s hk hs)
  rw [List.length_range] at h
  exact h
theorem filter_zero {α : Type} (l : List α) (p : α → Bool) : (((l.filter p).length : Int) == 0) = !(l.any p) := by
  rw [Bool.eq_iff_iff]
  simp only [beq_iff_eq, Bool.not_eq_true', List.any_eq_false]
  constructor
  · intro h x hx hp
    have : x ∈ l.filter p := List.mem_filter.2 ⟨hx, hp⟩
    have := List.length_pos_of_mem this
    omega
  · intro h
    have : l.filter p = [] := List.filter_eq_nil_iff.2 h
    rw [this]; rfl
/-- the first place at which the test holds -/
def firstI {α : Type} (p : α → Bool) (l : List α) : Int := match l.findIdx? p with | some i => (i : Int) | none => -1
theorem find_loop {α R : Type} {l : List α} {p : α → Bool} {f : Nat → Unit → (Unit → Option R) → (Unit → Option R) → Option R} {fin : Unit → Option R} {yes : Nat → Option R}
    (step : ∀ k nx x, l[k]? = some x → f k () nx fin = if p x = true then yes k else nx ()) : cntK f l.length 0 () fin = match l.findIdx? p with | some i => yes i | none => fin () := by
  have key : ∀ m k, k + m = l.length → (∀ i x, i < k → l[i]? = some x → p x = false) → cntK f m k () fin = match l.findIdx? p with | some i => yes i | none => fin () := by
    intro m
    induction m with
    | zero =>
      intro k hk hu; obtain rfl : k = l.length := by omega
      have : l.findIdx? p = none := by
        rw [List.findIdx?_eq_none_iff]
        intro x hx
        obtain ⟨i, hi⟩ := List.getElem?_of_mem hx
        exact hu i x (List.getElem?_eq_some_iff.1 hi).1 hi
      rw [this]; rfl
    | succ m ih =>
      intro k hk hu
      obtain ⟨x, hx, _⟩ := at_lt (l := l) (k := k) (by omega)
      show f k () _ fin = _
      rw [step k _ x hx]
      cases hp : p x with
      | true =>
        have : l.findIdx? p = some k := by
          rw [List.findIdx?_eq_some_iff_getElem]
          obtain ⟨hlt, e⟩ := List.getElem?_eq_some_iff.1 hx
          refine ⟨hlt, by rw [e]; exact hp, fun j hj => ?_⟩
          rw [hu j l[j] hj (List.getElem?_eq_getElem (by omega))]; simp
        rw [this, if_pos rfl]
      | false =>
        rw [if_neg (by simp)]
        refine ih (k + 1) (by omega) (fun i y hi hy => ?_)
        by_cases he : i = k
        · subst he; rw [hx] at hy; obtain rfl := Option.some.inj hy; exact hp
        · exact hu i y (by omega) hy
  exact key l.length 0 (by omega) (fun i x hi _ => by omega)
theorem any_find {α : Type} (p : α → Bool) (l : List α) : decide (0 ≤ firstI p l) = l.any p := by
  unfold firstI
  cases h : l.findIdx? p with
  | none =>
    rw [List.findIdx?_eq_none_iff] at h
    have : l.any p = false := by rw [List.any_eq_false]; intro x hx; rw [h x hx]; simp
    rw [this]; rfl
  | some i =>
    rw [List.findIdx?_eq_some_iff_getElem] at h
    obtain ⟨hi, hp, _⟩ := h
    have : l.any p = true := List.any_eq_true.2 ⟨l[i], List.getElem_mem hi, hp⟩
    rw [this]; simp
theorem gatherA {α β R : Type} {l : List α} {p : α → Bool} {g : α → β} {acc : List β} {f : Nat → List β → (List β → Option R) → (List β → Option R) → Option R} {fin : List β → Option R} (hl : acc.length + l.length ≤ 1099511627776)
    (step : ∀ k nx x s, l[k]? = some x → s.length ≤ 1099511627776 → f k s nx fin = nx (if p x = true then s ++ [g x] else s)) : cntK f l.length 0 acc fin = fin (acc ++ (l.filter p).map g) := by
  have key : ∀ m k, k + m = l.length → cntK f m k (acc ++ ((l.take k).filter p).map g) fin = fin (acc ++ (l.filter p).map g) := by
    intro m
    induction m with
    | zero => intro k hk; obtain rfl : k = l.length := by omega
              rw [List.take_of_length_le (Nat.le_refl _)]; rfl
    | succ m ih =>
      intro k hk
      obtain ⟨x, hx, _⟩ := at_lt (l := l) (k := k) (by omega)
      show f k _ _ fin = _
      have hle : (acc ++ ((l.take k).filter p).map g).length ≤ 1099511627776 := by
        rw [List.length_append, List.length_map]
        have := List.length_filter_le p (l.take k)
        rw [List.length_take] at this
        omega
      rw [step k _ x _ hx hle, ← ih (k + 1) (by omega), take_next hx, List.filter_append, List.map_append]
      cases hp : p x <;> simp [List.filter, hp]
  have h0 := key l.length 0 (by omega)
  simpa using h0
/-- a loop with fuel over what stands from k on -/
theorem gatherL {α β R : Type} {l : List α} {p : α → Bool} {g : α → β} {f : List β × Int → (List β × Int → Option R) → (List β × Int → Option R) → Option R} {fin : List β × Int → Option R}
    (step : ∀ (k : Nat) nx x s, l[k]? = some x → s.length ≤ 1099511627776 → f (s, (k : Int)) nx fin = nx (if p x = true then s ++ [g x] else s, ((k + 1 : Nat) : Int)))
    (stop : ∀ s nx, f (s, (l.length : Int)) nx fin = fin (s, (l.length : Int))) : ∀ (fuel k : Nat) (acc : List β), k ≤ l.length → l.length - k < fuel → acc.length + l.length ≤ 1099511627776 + k → loopK f fuel (acc, (k : Int)) fin = fin (acc ++ ((l.drop k).filter p).map g, (l.length : Int)) := by
  intro fuel
  induction fuel with
  | zero => intro k acc hk hf; omega
  | succ m ih =>
    intro k acc hk hf ha
    show f (acc, (k : Int)) _ fin = _
    by_cases he : k = l.length
    · subst he; rw [stop, List.drop_of_length_le (Nat.le_refl _)]; simp
    · obtain ⟨x, hx, _⟩ := at_lt (l := l) (k := k) (by omega)
      rw [step k _ x acc hx (by omega), ih (k + 1) _ (by omega) (by omega) (by
        split
        · rw [List.length_append, List.length_singleton]; omega
        · omega)]
      obtain ⟨hlt, e⟩ := List.getElem?_eq_some_iff.1 hx
      rw [List.drop_eq_getElem_cons hlt, e]
      cases hp : p x <;> simp [List.filter, hp]
end Go.Proofs.Ytkinlkmmelkdnaa.QCount

/- Chapter 8: rates: the plain functions of the program and of the reference agree, and the laws answer true. (QFold) No condition but those of each theorem. -/
namespace Go.Proofs.Ytkinlkmmelkdnaa.QFold
set_option linter.unusedVariables false
set_option linter.unusedSimpArgs false
open Go.RowKit
open Go.Proofs.Ytkinlkmmelkdnaa.GoP Go.Proofs.Ytkinlkmmelkdnaa.PlainStamp Go.Proofs.Ytkinlkmmelkdnaa.QBase Go.Proofs.Ytkinlkmmelkdnaa.QLoop

theorem fold_loop {α σ R : Type} {l : List α} {g : σ → α → σ} {f : Nat → σ → (σ → Option R) → (σ → Option R) → Option R} {fin : σ → Option R} (s0 : σ)
    (step : ∀ k nx x s, l[k]? = some x → f k s nx fin = nx (g s x)) : cntK f l.length 0 s0 fin = fin (l.foldl g s0) := by
  have key : ∀ m k s, k + m = l.length → cntK f m k s fin = fin ((l.drop k).foldl g s) := by
    intro m
    induction m with
    | zero => intro k s hk; rw [List.drop_of_length_le (by omega)]; rfl
    | succ m ih =>
      intro k s hk
      obtain ⟨x, hx, _⟩ := at_lt (l := l) (k := k) (by omega)
      obtain ⟨hlt, e⟩ := List.getElem?_eq_some_iff.1 hx
      show f k s _ fin = _
      rw [step k _ x s hx, ih (k + 1) _ (by omega), List.drop_eq_getElem_cons hlt, e]; rfl
  exact key l.length 0 s0 (by omega)
theorem find_val {α R : Type} {l : List α} {p : α → Bool} {f : Nat → Unit → (Unit → Option R) → (Unit → Option R) → Option R} {fin : Unit → Option R} {yes : α → Option R}
    (step : ∀ k nx x, l[k]? = some x → f k () nx fin = if p x = true then yes x else nx ()) : cntK f l.length 0 () fin = match l.find? p with | some x => yes x | none => fin () := by
  have key : ∀ m k, k + m = l.length → cntK f m k () fin = match (l.drop k).find? p with | some x => yes x | none => fin () := by
    intro m
    induction m with
    | zero => intro k hk; rw [List.drop_of_length_le (by omega)]; rfl
    | succ m ih =>
      intro k hk
      obtain ⟨x, hx, _⟩ := at_lt (l := l) (k := k) (by omega)
      obtain ⟨hlt, e⟩ := List.getElem?_eq_some_iff.1 hx
      show f k () _ fin = _
      rw [step k _ x hx, List.drop_eq_getElem_cons hlt, e, List.find?_cons]
      cases hp : p x with
      | true => simp
      | false => simp only [Bool.false_eq_true, if_false]; exact ih (k + 1) (by omega)
  exact key l.length 0 (by omega)
theorem find_congr {α : Type} {l : List α} {p q : α → Bool} (h : ∀ x ∈ l, p x = q x) : l.find? p = l.find? q := by
  induction l with
  | nil => rfl
  | cons x l ih => rw [List.find?_cons, List.find?_cons, h x (by simp), ih (fun y hy => h y (by simp [hy]))]
end Go.Proofs.Ytkinlkmmelkdnaa.QFold

/- Chapter 8: a raised rate: the plain functions of the program and of the reference agree, and the law answers true. (Q8Concat) No condition but those of each theorem. -/
namespace Go.Proofs.Ytkinlkmmelkdnaa.Q8Concat
set_option linter.unusedVariables false
set_option linter.unusedSimpArgs false
open Go.RowKit
open Go.Proofs.Ytkinlkmmelkdnaa.GoP Go.Proofs.Ytkinlkmmelkdnaa.PlainStamp Go.Proofs.Ytkinlkmmelkdnaa.QBase Go.Proofs.Ytkinlkmmelkdnaa.QLoop Go.Proofs.Ytkinlkmmelkdnaa.PRate

theorem concat_eq (L : List (List Rate)) (hL : L.length ≤ 10) (hr : ∀ x ∈ L, x.length ≤ 1000) : GxSlicesConcatLoopExampleG01062ImplRateLoopExampleG01062ImplRate.P L = some L.flatten := by
  simp only [GxSlicesConcatLoopExampleG01062ImplRateLoopExampleG01062ImplRate.P]
  refine cnt_is _ (fun k (s : Int) => 0 ≤ s ∧ s ≤ 1000 * (k : Int)) ?_ ?_ 0 (by simp)
  · intro k s nx hk ⟨h0, h1⟩ hn
    obtain ⟨x, hx, hi⟩ := at_lt (l := L) (k := k) hk
    have hxl := hr x (List.mem_of_getElem? hx)
    simp only [GxSlicesConcatLoopExampleG01062ImplRateLoopExampleG01062ImplRate.l0, letK, hi, Option.bind_some, iteK_if, appK]
    rw [wrap_in (by omega) (by omega), if_neg (by simp; omega)]
    exact hn _ ⟨by omega, by omega⟩
  · intro s ⟨h0, h1⟩
    have hg : GxSlicesGrowLoopExampleG01062ImplRateLoopExampleG01062ImplRate.P [] s = some [] := by
      unfold GxSlicesGrowLoopExampleG01062ImplRateLoopExampleG01062ImplRate.P
      rw [if_pos ⟨rfl, h0, by omega⟩]
    simp only [GxSlicesConcatLoopExampleG01062ImplRateLoopExampleG01062ImplRate.e0, letK, hg, Option.bind_some]
    refine cnt_is _ (fun k (s : List Rate) => s = (L.take k).flatten ∧ s.length ≤ 1000 * k) ?_ ?_ [] (by simp)
    · intro k s nx hk ⟨g0, g1⟩ hn
      obtain ⟨x, hx, hi⟩ := at_lt (l := L) (k := k) hk
      have hxl := hr x (List.mem_of_getElem? hx)
      simp only [GxSlicesConcatLoopExampleG01062ImplRateLoopExampleG01062ImplRate.l1, letK, hi, Option.bind_some, appK]
      rw [guardK_pos (by omega)]
      refine hn _ ⟨?_, by rw [List.length_append]; omega⟩
      rw [take_next hx, List.flatten_append, g0]; simp
    · intro s ⟨g0, _⟩
      rw [List.take_of_length_le (Nat.le_refl _)] at g0
      simp only [GxSlicesConcatLoopExampleG01062ImplRateLoopExampleG01062ImplRate.e1, letK]
      rw [g0]
end Go.Proofs.Ytkinlkmmelkdnaa.Q8Concat

/- Lists of valid records in strictly rising order of any kind; texts in the order of their bytes. (QOrd) No condition but those of each theorem. -/
namespace Go.Proofs.Ytkinlkmmelkdnaa.QOrd
set_option linter.unusedVariables false
set_option linter.unusedSimpArgs false
open Go.RowKit
open Go.Proofs.Ytkinlkmmelkdnaa.GoP Go.Proofs.Ytkinlkmmelkdnaa.PlainStamp Go.Proofs.Ytkinlkmmelkdnaa.QBase Go.Proofs.Ytkinlkmmelkdnaa.QLoop

/-- texts in the order of their bytes -/
def bl (a b : ByteArray) : Bool := Op.bytesLess a.toList b.toList
theorem bl_self' : ∀ x, Op.bytesLess x x = false
  | [] => rfl
  | a :: x => by
    have h1 : ¬ a < a := fun k => by rw [UInt8.lt_iff_toNat_lt] at k; omega
    simp [Op.bytesLess, h1, bl_self' x]
theorem bl_total' : ∀ x y, x ≠ y → Op.bytesLess x y = !(Op.bytesLess y x)
  | [], [], h => absurd rfl h
  | [], b :: y, _ => by simp [Op.bytesLess]
  | a :: x, [], _ => by simp [Op.bytesLess]
  | a :: x, b :: y, h => by
    by_cases hab : a = b
    · subst hab
      have h1 : ¬ a < a := fun k => by rw [UInt8.lt_iff_toNat_lt] at k; omega
      have := bl_total' x y (fun e => h (by rw [e]))
      simp [Op.bytesLess, h1, this]
    · have hne : a.toNat ≠ b.toNat := fun e => hab (UInt8.toNat_inj.1 e)
      by_cases hlt : a < b
      · have h2 : ¬ b < a := fun k => by rw [UInt8.lt_iff_toNat_lt] at k hlt; omega
        simp [Op.bytesLess, hlt, h2, Ne.symm hab]
      · have h2 : b < a := by rw [UInt8.lt_iff_toNat_lt] at hlt ⊢; omega
        simp [Op.bytesLess, hlt, h2, hab]
theorem bl_trans' : ∀ x y z, Op.bytesLess x y = true → Op.bytesLess y z = true → Op.bytesLess x z = true
  | [], _, [], h1, h2 => by rename_i y; cases y <;> simp [Op.bytesLess] at h1 h2
  | [], _, c :: z, _, _ => by simp [Op.bytesLess]
  | a :: x, [], _, h1, _ => by simp [Op.bytesLess] at h1
  | a :: x, b :: y, [], _, h2 => by simp [Op.bytesLess] at h2
  | a :: x, b :: y, c :: z, h1, h2 => by
    simp only [Op.bytesLess, Bool.or_eq_true, decide_eq_true_eq, Bool.and_eq_true, beq_iff_eq] at h1 h2 ⊢
    rcases h1 with h1 | ⟨rfl, h1⟩
    · rcases h2 with h2 | ⟨rfl, h2⟩
      · left; rw [UInt8.lt_iff_toNat_lt] at h1 h2 ⊢; omega
      · left; exact h1
    · rcases h2 with h2 | ⟨rfl, h2⟩
      · left; exact h2
      · right; exact ⟨rfl, bl_trans' x y z h1 h2⟩
theorem list_inj {a b : ByteArray} (h : a.toList = b.toList) : a = b := by
  rw [Lib.toList_data, Lib.toList_data] at h
  cases a; cases b; congr 1; exact Array.toList_inj.1 h
theorem bl_self (a : ByteArray) : bl a a = false := bl_self' _
theorem bl_total {a b : ByteArray} (h : a ≠ b) : bl a b = !(bl b a) := bl_total' _ _ (fun e => h (list_inj e))
theorem bl_trans {a b c : ByteArray} (h1 : bl a b = true) (h2 : bl b c = true) : bl a c = true := bl_trans' _ _ _ h1 h2
theorem bl_asymm {a b : ByteArray} (h : bl a b = true) : bl b a = false := by
  by_cases e : a = b
  · rw [e]; exact bl_self b
  · rw [bl_total e] at h; simpa using h
theorem bl_ne {a b : ByteArray} (h : bl a b = true) : a ≠ b := fun e => by rw [e, bl_self] at h; exact absurd h (by simp)
/-- 'not above', as the program asks it -/
theorem bl_le (a b : ByteArray) : (Op.bytesLess a.toList b.toList || a.toList == b.toList) = !(bl b a) := by
  by_cases e : a = b
  · subst e; rw [bl_self]; simp
  · have h1 : (a.toList == b.toList) = false := by rw [beq_eq_false_iff_ne]; exact fun h => e (list_inj h)
    rw [h1, Bool.or_false]; exact bl_total e
theorem bl_lt (a b : ByteArray) : Op.bytesLess a.toList b.toList = bl a b := rfl
theorem eq_list (a b : ByteArray) : (a.toList == b.toList) = decide (a = b) := by
  by_cases e : a = b
  · subst e; simp
  · rw [decide_eq_false e, beq_eq_false_iff_ne]; exact fun h => e (list_inj h)

/-- valid, and behind the one ahead of it -/
def riseAt {α : Type} (ok : α → Bool) (lt : α → α → Bool) (l : List α) (k : Nat) : Bool :=
  match l[k]? with
  | none => true
  | some s => ok s && (decide (k = 0) || (match l[k-1]? with | none => true | some r => lt r s))
def riseTo {α : Type} (ok : α → Bool) (lt : α → α → Bool) (l : List α) (k : Nat) : Bool := (List.range k).all (riseAt ok lt l)
theorem riseTo_zero {α : Type} (ok : α → Bool) (lt : α → α → Bool) (l : List α) : riseTo ok lt l 0 = true := rfl
theorem riseTo_succ {α : Type} (ok : α → Bool) (lt : α → α → Bool) (l : List α) (k : Nat) : riseTo ok lt l (k + 1) = (riseTo ok lt l k && riseAt ok lt l k) := by simp [riseTo, List.range_succ, List.all_append]
theorem riseTo_not {α : Type} {ok : α → Bool} {lt : α → α → Bool} {l : List α} {k n : Nat} (h : riseAt ok lt l k = false) (hk : k < n) : riseTo ok lt l n = false := by
  unfold riseTo
  rw [Bool.eq_false_iff]
  intro ha
  have := List.all_eq_true.1 ha k (List.mem_range.2 hk)
  rw [h] at this; exact absurd this (by simp)
def riseL {α : Type} (m : Nat) (ok : α → Bool) (lt : α → α → Bool) (l : List α) : Bool := decide (l.length ≤ m) && riseTo ok lt l l.length
theorem riseAt_bad {α : Type} {ok : α → Bool} {lt : α → α → Bool} {l : List α} {k : Nat} {s : α} (hs : l[k]? = some s) (h : ok s = false) : riseAt ok lt l k = false := by unfold riseAt; rw [hs]; simp [h]
theorem riseAt_first {α : Type} {ok : α → Bool} {lt : α → α → Bool} {l : List α} {s : α} (hs : l[0]? = some s) (h : ok s = true) : riseAt ok lt l 0 = true := by unfold riseAt; rw [hs]; simp [h]
theorem riseAt_next {α : Type} {ok : α → Bool} {lt : α → α → Bool} {l : List α} {k : Nat} {s r : α} (hs : l[k]? = some s) (hr : l[k-1]? = some r) (hk : 0 < k) (h : ok s = true) : riseAt ok lt l k = lt r s := by
  unfold riseAt; rw [hs]; simp only [hr, h, Bool.true_and, decide_eq_false (show ¬ k = 0 by omega), Bool.false_or]
theorem riseL_len {α : Type} {m : Nat} {ok : α → Bool} {lt : α → α → Bool} {l : List α} (h : riseL m ok lt l = true) : l.length ≤ m := by unfold riseL at h; simp only [Bool.and_eq_true, decide_eq_true_eq] at h; exact h.1
theorem riseTo_at {α : Type} {ok : α → Bool} {lt : α → α → Bool} {l : List α} {n : Nat} (h : riseTo ok lt l n = true) {k : Nat} (hk : k < n) : riseAt ok lt l k = true := List.all_eq_true.1 h k (List.mem_range.2 hk)
theorem riseL_ok {α : Type} {m : Nat} {ok : α → Bool} {lt : α → α → Bool} {l : List α} (h : riseL m ok lt l = true) {k : Nat} {s : α} (hs : l[k]? = some s) : ok s = true := by
  unfold riseL at h
  simp only [Bool.and_eq_true, decide_eq_true_eq] at h
  have := riseTo_at h.2 (List.getElem?_eq_some_iff.1 hs).1
  unfold riseAt at this
  rw [hs] at this
  simp only [Bool.and_eq_true] at this
  exact this.1
theorem riseL_mem {α : Type} {m : Nat} {ok : α → Bool} {lt : α → α → Bool} {l : List α} (h : riseL m ok lt l = true) {s : α} (hs : s ∈ l) : ok s = true := by
  obtain ⟨k, hk⟩ := List.getElem?_of_mem hs
  exact riseL_ok h hk
theorem riseL_step {α : Type} {m : Nat} {ok : α → Bool} {lt : α → α → Bool} {l : List α} (h : riseL m ok lt l = true) {k : Nat} {x y : α} (hx : l[k]? = some x) (hy : l[k + 1]? = some y) : lt x y = true := by
  unfold riseL at h
  simp only [Bool.and_eq_true, decide_eq_true_eq] at h
  have := riseTo_at h.2 (List.getElem?_eq_some_iff.1 hy).1
  unfold riseAt at this
  rw [hy] at this
  simp only [Nat.add_sub_cancel, hx, Bool.and_eq_true, Bool.or_eq_true, decide_eq_true_eq] at this
  rcases this.2 with h0 | h0
  · omega
  · exact h0
theorem riseL_lt {α : Type} {m : Nat} {ok : α → Bool} {lt : α → α → Bool} (tr : ∀ a b c, lt a b = true → lt b c = true → lt a c = true) {l : List α} (h : riseL m ok lt l = true) {i j : Nat} {x y : α} (hij : i < j) (hx : l[i]? = some x) (hy : l[j]? = some y) : lt x y = true := by
  obtain ⟨d, rfl⟩ : ∃ d, j = i + d + 1 := ⟨j - i - 1, by omega⟩
  clear hij
  induction d generalizing y with
  | zero => exact riseL_step h hx hy
  | succ d ih =>
    obtain ⟨z, hz, _⟩ := at_lt (l := l) (k := i + d + 1) (by have := (List.getElem?_eq_some_iff.1 hy).1; omega)
    exact tr _ _ _ (ih hz) (riseL_step (k := i + d + 1) h hz (by rw [← hy]; rfl))
/-- a loop that goes through a list of records and stops with 'no' at the first that is bad -/
theorem rise_loop {α : Type} {ok : α → Bool} {lt : α → α → Bool} {l : List α} {R : Type} {no : R} {f : Nat → Unit → (Unit → Option R) → (Unit → Option R) → Option R} {fin : Unit → Option R}
    (step : ∀ k nx s, l[k]? = some s → (ok s = false → f k () nx fin = some no) ∧ (ok s = true → (k = 0 → f k () nx fin = nx ()) ∧ (0 < k → ∀ r, l[k-1]? = some r → (lt r s = true → f k () nx fin = nx ()) ∧ (lt r s = false → f k () nx fin = some no)))) :
    cntK f l.length 0 () fin = if riseTo ok lt l l.length then fin () else some no := by
  have key : ∀ m k, k + m = l.length → riseTo ok lt l k = true → cntK f m k () fin = if riseTo ok lt l l.length then fin () else some no := by
    intro m
    induction m with
    | zero => intro k hk hu; obtain rfl : k = l.length := by omega
              rw [hu]; rfl
    | succ m ih =>
      intro k hk hu
      have hlt : k < l.length := by omega
      obtain ⟨s, hs, _⟩ := at_lt hlt
      obtain ⟨h1, h2⟩ := step k (fun s' => cntK f m (k + 1) s' fin) s hs
      show f k () _ fin = _
      cases hok : ok s with
      | false => rw [h1 hok, riseTo_not (riseAt_bad hs hok) hlt]; rfl
      | true =>
        obtain ⟨h3, h4⟩ := h2 hok
        by_cases hk0 : k = 0
        · rw [h3 hk0]
          subst hk0
          exact ih 1 (by omega) (by rw [riseTo_succ, hu, riseAt_first hs hok]; rfl)
        · obtain ⟨r, hr, _⟩ := at_lt (l := l) (k := k - 1) (by omega)
          obtain ⟨h5, h6⟩ := h4 (by omega) r hr
          cases hl : lt r s with
          | true =>
            rw [h5 hl]
            exact ih (k + 1) (by omega) (by rw [riseTo_succ, hu, riseAt_next hs hr (by omega) hok, hl]; rfl)
          | false => rw [h6 hl, riseTo_not (by rw [riseAt_next hs hr (by omega) hok, hl]) hlt]; rfl
  exact key l.length 0 (by omega) (riseTo_zero ok lt l)
end Go.Proofs.Ytkinlkmmelkdnaa.QOrd

/- Chapter 8: rates: the plain functions of the program and of the reference agree, and the laws answer true. (QRiseL) No condition but those of each theorem. -/
namespace Go.Proofs.Ytkinlkmmelkdnaa.QRiseL
set_option linter.unusedVariables false
set_option linter.unusedSimpArgs false
open Go.RowKit
open Go.Proofs.Ytkinlkmmelkdnaa.GoP Go.Proofs.Ytkinlkmmelkdnaa.PlainStamp Go.Proofs.Ytkinlkmmelkdnaa.QBase Go.Proofs.Ytkinlkmmelkdnaa.QOrd Go.Proofs.Ytkinlkmmelkdnaa.QLoop

/-- the same, for a loop that counts by itself and stops behind m: the list may be longer than m -/
theorem rise_lp {α R : Type} {ok : α → Bool} {lt : α → α → Bool} {l : List α} {m : Nat} {no : R} {yes : Option R} {f : Int → (Int → Option R) → (Int → Option R) → Option R} {fin : Int → Option R}
    (stop : ∀ (k : Nat) nx, (l.length ≤ k ∨ m < k) → k ≤ l.length → k ≤ m + 1 → f (k : Int) nx fin = fin (k : Int))
    (end_ : ∀ k : Int, fin k = if l.length ≤ m then yes else some no)
    (step : ∀ (k : Nat) nx s, k ≤ m → l[k]? = some s → (ok s = false → f (k : Int) nx fin = some no) ∧ (ok s = true → (k = 0 → f (k : Int) nx fin = nx ((k + 1 : Nat) : Int)) ∧ (0 < k → ∀ r, l[k-1]? = some r → ok r = true → (lt r s = true → f (k : Int) nx fin = nx ((k + 1 : Nat) : Int)) ∧ (lt r s = false → f (k : Int) nx fin = some no)))) :
    ∀ fuel k, m + 1 - k < fuel → k ≤ l.length → k ≤ m + 1 → riseTo ok lt l k = true → loopK f fuel (k : Int) fin = if riseL m ok lt l = true then yes else some no := by
  intro fuel
  induction fuel with
  | zero => intro k h; omega
  | succ n ih =>
    intro k hf hk hm hu
    show f (k : Int) (fun s' => loopK f n s' fin) fin = _
    by_cases hs : l.length ≤ k ∨ m < k
    · rw [stop k _ hs hk hm, end_]
      by_cases hl : l.length ≤ m
      · obtain rfl : k = l.length := by omega
        rw [if_pos hl, if_pos (by unfold riseL; simp [hl, hu])]
      · rw [if_neg hl, if_neg (by unfold riseL; simp [hl])]
    · have hlt : k < l.length := by omega
      obtain ⟨s, hs', _⟩ := at_lt hlt
      obtain ⟨h1, h2⟩ := step k (fun s' => loopK f n s' fin) s (by omega) hs'
      have bad : riseAt ok lt l k = false → riseL m ok lt l = false := by
        intro h; unfold riseL; rw [riseTo_not h hlt, Bool.and_false]
      cases hok : ok s with
      | false => rw [h1 hok, bad (riseAt_bad hs' hok)]; rfl
      | true =>
        obtain ⟨h3, h4⟩ := h2 hok
        by_cases hk0 : k = 0
        · rw [h3 hk0]
          subst hk0
          exact ih 1 (by omega) (by omega) (by omega) (by rw [riseTo_succ, hu, riseAt_first hs' hok]; rfl)
        · obtain ⟨r, hr, _⟩ := at_lt (l := l) (k := k - 1) (by omega)
          have hokr : ok r = true := by
            have := riseTo_at hu (k := k - 1) (by omega)
            unfold riseAt at this; rw [hr] at this
            simp only [Bool.and_eq_true] at this; exact this.1
          obtain ⟨h5, h6⟩ := h4 (by omega) r hr hokr
          cases hl : lt r s with
          | true =>
            rw [h5 hl]
            exact ih (k + 1) (by omega) (by omega) (by omega) (by rw [riseTo_succ, hu, riseAt_next hs' hr (by omega) hok, hl]; rfl)
          | false => rw [h6 hl, bad (by rw [riseAt_next hs' hr (by omega) hok, hl])]; rfl
/-- what each step gives holds between any two -/
theorem riseL_rel {α : Type} {m : Nat} {ok : α → Bool} {lt : α → α → Bool} (rel : α → α → Prop) (st : ∀ a b, ok a = true → ok b = true → lt a b = true → rel a b) (tr : ∀ a b c, rel a b → rel b c → rel a c) {l : List α} (h : riseL m ok lt l = true) {i j : Nat} {x y : α} (hij : i < j) (hx : l[i]? = some x) (hy : l[j]? = some y) : rel x y := by
  obtain ⟨d, rfl⟩ : ∃ d, j = i + d + 1 := ⟨j - i - 1, by omega⟩
  clear hij
  induction d generalizing y with
  | zero => exact st _ _ (riseL_ok h hx) (riseL_ok h hy) (riseL_step h hx hy)
  | succ d ih =>
    obtain ⟨z, hz, _⟩ := at_lt (l := l) (k := i + d + 1) (by have := (List.getElem?_eq_some_iff.1 hy).1; omega)
    exact tr _ _ _ (ih hz) (st _ _ (riseL_ok h hz) (riseL_ok h hy) (riseL_step (k := i + d + 1) h hz (by rw [← hy]; rfl)))
end Go.Proofs.Ytkinlkmmelkdnaa.QRiseL

/- Chapter 8: rates: the plain functions of the program and of the reference agree, and the laws answer true. (Q8Rate) No condition but those of each theorem. -/
namespace Go.Proofs.Ytkinlkmmelkdnaa.Q8Rate
set_option linter.unusedVariables false
set_option linter.unusedSimpArgs false
open Go.RowKit
open Go.Proofs.Ytkinlkmmelkdnaa.GoP Go.Proofs.Ytkinlkmmelkdnaa.PlainStamp Go.Proofs.Ytkinlkmmelkdnaa.QBase Go.Proofs.Ytkinlkmmelkdnaa.QLoop Go.Proofs.Ytkinlkmmelkdnaa.PRate Go.Proofs.Ytkinlkmmelkdnaa.PrateClass

theorem isZone_eq (n : Int) : GiIsZone.P n = some (inB n 0 9) := by simp only [GiIsZone.P, within_eq, Option.bind_some]
theorem isWeight_eq (n : Int) : GiIsWeight.P n = some (inB n 1 2000) := by simp only [GiIsWeight.P, within_eq, Option.bind_some]
theorem isRateCents_eq (n : Int) : GiIsRateCents.P n = some (inB n 1 9999) := by simp only [GiIsRateCents.P, within_eq, Option.bind_some]
theorem isDay_eq (n : Int) : GiIsDay.P n = some (inB n 0 4000) := by simp only [GiIsDay.P, within_eq, Option.bind_some]
theorem l8Zone_eq (n : Int) : GsL8Zone.P n = some (inB n 0 9) := by simp only [GsL8Zone.P, l1In_eq, Option.bind_some]
theorem l8Grams_eq (n : Int) : GsL8Grams.P n = some (inB n 1 2000) := by simp only [GsL8Grams.P, l1In_eq, Option.bind_some]
theorem l8Cents_eq (n : Int) : GsL8Cents.P n = some (inB n 1 9999) := by simp only [GsL8Cents.P, l1In_eq, Option.bind_some]
theorem l2Day_eq (n : Int) : GsL2Day.P n = some (inB n 0 4000) := by simp only [GsL2Day.P, l1In_eq, Option.bind_some]
def okR (x : Rate) : Bool := inB x.zone 0 9 && inB x.grams 1 2000 && inB x.cents 1 9999 && inB x.from_ 0 4000 && inB x.until_ 0 4000 && decide (x.from_ ≤ x.until_)
theorem isRate_eq (x : Rate) : GiIsRate.P x = some (okR x) := by
  obtain ⟨a, b, c, d, e⟩ := x
  simp only [GiIsRate.P, unRate, isZone_eq, isWeight_eq, isRateCents_eq, isDay_eq, Option.bind_some, letK, joinK, appK, iteK_if, okR]
  cases inB a 0 9 <;> cases inB b 1 2000 <;> cases inB e 1 9999 <;> cases inB c 0 4000 <;> cases inB d 0 4000 <;> simp
theorem l8One_eq (x : Rate) : GsL8One.P x = some (okR x) := by
  obtain ⟨a, b, c, d, e⟩ := x
  have hx : (inB d 0 4000 && inB c 0 d) = (inB c 0 4000 && inB d 0 4000 && decide (c ≤ d)) := by unfold inB; rw [Bool.eq_iff_iff]; simp; omega
  have hy : okR ⟨a, b, c, d, e⟩ = (inB a 0 9 && inB b 1 2000 && (inB d 0 4000 && inB c 0 d) && inB e 1 9999) := by
    rw [hx]; unfold okR
    cases inB a 0 9 <;> cases inB b 1 2000 <;> cases inB e 1 9999 <;> simp
  rw [hy]
  simp only [GsL8One.P, unRate, l8Zone_eq, l8Grams_eq, l8Cents_eq, l2Day_eq, l1In_eq, Option.bind_some, letK, joinK, appK, iteK_if]
  cases inB a 0 9 <;> cases inB b 1 2000 <;> cases inB d 0 4000 <;> cases inB c 0 d <;> simp
theorem okR_of {x : Rate} (h : okR x = true) : (0 ≤ x.zone ∧ x.zone ≤ 9) ∧ (1 ≤ x.grams ∧ x.grams ≤ 2000) ∧ (1 ≤ x.cents ∧ x.cents ≤ 9999) ∧ (0 ≤ x.from_ ∧ x.from_ ≤ x.until_ ∧ x.until_ ≤ 4000) := by
  unfold okR at h
  simp only [Bool.and_eq_true, decide_eq_true_eq] at h
  have h1 := inB_of h.1.1.1.1.1
  have h2 := inB_of h.1.1.1.1.2
  have h3 := inB_of h.1.1.1.2
  have h4 := inB_of h.1.1.2
  have h5 := inB_of h.1.2
  omega
def linkR (a b : Rate) : Bool := if a.zone = b.zone ∧ a.grams = b.grams then decide (a.until_ < b.from_) else decide (a.zone < b.zone ∨ a.zone = b.zone ∧ a.grams < b.grams)
theorem compare_eq (x y : Int) : GxCmpCompareInt.P x y = some (if x < y then -1 else if y < x then 1 else 0) := by
  simp only [GxCmpCompareInt.P, GxCmpIsNaNInt.P, Option.bind_some, letK, iteK_if]
  by_cases h : x < y <;> by_cases h2 : y < x <;> simp [h, h2]
theorem or_eq (a b : Int) : GxCmpOrInt.P [a, b] = some (if a = 0 then b else a) := by
  have h0 : idx [a, b] ((0 : Nat) : Int) = some a := rfl
  have h1 : idx [a, b] ((1 : Nat) : Int) = some b := rfl
  show cntK (GxCmpOrInt.l0 [a, b]) 2 0 () GxCmpOrInt.e0 = _
  simp only [cntK, GxCmpOrInt.l0, h0, h1, Option.bind_some, letK, iteK_if, appK, GxCmpOrInt.e0, Nat.zero_add]
  by_cases ha : a = 0 <;> by_cases hb : b = 0 <;> simp [ha, hb]
theorem canFollow_eq (b a : Rate) : GiCanFollow.P b a = some (linkR a b) := by
  obtain ⟨z, g, f, u, c⟩ := b
  obtain ⟨z2, g2, f2, u2, c2⟩ := a
  simp only [GiCanFollow.P, unRate, unrateClass, GiClassOf.P, Option.bind_some, letK, iteK_if, compare_eq, or_eq, linkR]
  by_cases h1 : z = z2
  · subst h1
    by_cases h2 : g = g2
    · subst h2; simp
    · have h3 : ¬ g2 = g := fun h => h2 h.symm
      by_cases h4 : g2 < g
      · simp [h2, h3, h4]
      · by_cases h5 : g < g2
        · simp [h2, h3, h4, h5]
        · omega
  · have h3 : ¬ z2 = z := fun h => h1 h.symm
    by_cases h4 : z2 < z
    · simp [h1, h3, h4]
    · by_cases h5 : z < z2
      · simp [h1, h3, h4, h5]
      · omega
def codeR (x : Rate) : Int := (10000 * x.zone + x.grams) * 10000 + x.from_
theorem l8Code_eq {x : Rate} (h : okR x = true) : GsL8Code.P x = some (codeR x) := by
  have h1 := okR_of h
  obtain ⟨a, b, c, d, e⟩ := x
  dsimp only at h1
  simp only [GsL8Code.P, unRate, letK, codeR]
  rw [wrap_in (x := 10000 * a) (by omega) (by omega), wrap_in (x := 10000 * a + b) (by omega) (by omega), wrap_in (x := (10000 * a + b) * 10000) (by omega) (by omega), wrap_in (by omega) (by omega)]
theorem link_code {a b : Rate} (ha : okR a = true) (hb : okR b = true) : linkR a b = (decide (codeR a < codeR b) && !(decide (a.zone = b.zone) && decide (a.grams = b.grams) && decide (b.from_ ≤ a.until_))) := by
  have h1 := okR_of ha
  have h2 := okR_of hb
  unfold linkR codeR
  rw [Bool.eq_iff_iff]
  split
  · simp; omega
  · simp; omega
end Go.Proofs.Ytkinlkmmelkdnaa.Q8Rate

/- Chapter 8: rates: the plain functions of the program and of the reference agree, and the laws answer true. (Q8List) No condition but those of each theorem. -/
namespace Go.Proofs.Ytkinlkmmelkdnaa.Q8List
set_option linter.unusedVariables false
set_option linter.unusedSimpArgs false
open Go.RowKit
open Go.Proofs.Ytkinlkmmelkdnaa.GoP Go.Proofs.Ytkinlkmmelkdnaa.PlainStamp Go.Proofs.Ytkinlkmmelkdnaa.QBase Go.Proofs.Ytkinlkmmelkdnaa.QRiseL Go.Proofs.Ytkinlkmmelkdnaa.QOrd Go.Proofs.Ytkinlkmmelkdnaa.Q8Rate Go.Proofs.Ytkinlkmmelkdnaa.QLoop Go.Proofs.Ytkinlkmmelkdnaa.PRate

def okRs (l : List Rate) : Bool := riseL 16 okR linkR l
theorem areRates_eq (l : List Rate) (hl : l.length ≤ 9223372036854775807) : GiAreRates.P l = some (okRs l) := by
  simp only [GiAreRates.P, letK, iteK_if]
  by_cases h12 : l.length ≤ 16
  · rw [if_neg (by simp; omega), rise_loop (ok := okR) (lt := linkR) (no := false)]
    · unfold okRs riseL; cases riseTo okR linkR l l.length <;> simp [h12, GiAreRates.e0]
    · intro k nx s hs
      have hi : idx l (k : Int) = some s := by rw [idx_nat, hs]
      have hk : k < l.length := (List.getElem?_eq_some_iff.1 hs).1
      simp only [GiAreRates.l0, hi, Option.bind_some, unRate, isRate_eq, letK, joinK, appK, iteK_if]
      refine ⟨fun h => by simp [h], fun h => ⟨fun h0 => by subst h0; simp [h], fun h0 r hr => ?_⟩⟩
      rw [idx_pred h0 (by omega) hr]
      have hk0 : (0 : Int) < (k : Int) := by omega
      have hk1 : ¬ k = 0 := by omega
      exact ⟨fun hlt => by simp [h, hk0, hk1, canFollow_eq, hlt], fun hge => by simp [h, hk0, hk1, canFollow_eq, hge]⟩
  · rw [if_pos (by simp; omega)]; unfold okRs riseL; simp [h12]
theorem l8Good_eq {fuel : Nat} (l : List Rate) (hl : l.length ≤ 9223372036854775807) (hf : 17 < fuel) : GsL8Good.P fuel l = some (okRs l) := by
  simp only [GsL8Good.P]
  have key := rise_lp (ok := okR) (lt := linkR) (l := l) (m := 16) (no := false) (yes := some true) (f := GsL8Good.l0 l) (fin := GsL8Good.e0 l) ?_ ?_ ?_ fuel 0 (by omega) (by omega) (by omega) rfl
  · rw [show ((0 : Nat) : Int) = 0 from rfl] at key
    rw [key]; unfold okRs; cases riseL 16 okR linkR l <;> rfl
  · intro k nx hs h1 h2
    simp only [GsL8Good.l0, letK, joinK, appK, iteK_if]
    by_cases hk : l.length ≤ k
    · have : ¬ ((k : Int) < (l.length : Int)) := by omega
      simp [this]
    · have h3 : ((k : Int) < (l.length : Int)) := by omega
      have h4 : ¬ ((k : Int) ≤ 16) := by omega
      simp [h3, h4]
  · intro k
    simp only [GsL8Good.e0, letK]
    by_cases h : l.length ≤ 16
    · rw [if_pos h]; simp; omega
    · rw [if_neg h]; simp; omega
  · intro k nx s hk16 hs
    have hi : idx l (k : Int) = some s := by rw [idx_nat, hs]
    have hk : k < l.length := (List.getElem?_eq_some_iff.1 hs).1
    have h1 : ((k : Int) < (l.length : Int)) := by omega
    have h2 : (k : Int) ≤ 16 := by omega
    have hw : IntKind.i64.wrap ((k : Int) + 1) = ((k + 1 : Nat) : Int) := by rw [wrap_in (by omega) (by omega)]; omega
    simp only [GsL8Good.l0, letK, joinK, appK, iteK_if, decide_eq_true h1, decide_eq_true h2, if_true, hi, Option.bind_some, unRate, l8One_eq, hw]
    refine ⟨fun h => by simp [h], fun h => ⟨fun h0 => by subst h0; simp [h], fun h0 r hr hokr => ?_⟩⟩
    rw [idx_pred h0 (by omega) hr]
    have hk0 : (0 : Int) < (k : Int) := by omega
    have hk1 : ¬ k = 0 := by omega
    simp only [Option.bind_some, l8Code_eq h, l8Code_eq hokr, link_code hokr h]
    have he : ∀ x : Rate, Rate.mk x.zone x.grams x.from_ x.until_ x.cents = x := fun x => rfl
    simp only [h, decide_eq_true hk0, Bool.not_true, Bool.false_eq_true, if_false, if_true]
    constructor
    · intro hlt
      simp only [Bool.and_eq_true, decide_eq_true_eq, Bool.not_eq_true'] at hlt
      obtain ⟨c1, c2⟩ := hlt
      have : ¬ (codeR s ≤ codeR r) := by omega
      by_cases e1 : r.zone = s.zone
      · by_cases e2 : r.grams = s.grams
        · have e3 : ¬ (s.from_ ≤ r.until_) := by simpa [e1, e2] using c2
          simp [this, e1, e2, e3]
        · simp [this, e1, e2]
      · simp [this, e1]
    · intro hge
      by_cases c1 : codeR r < codeR s
      · have : ¬ (codeR s ≤ codeR r) := by omega
        simp only [decide_eq_true c1, Bool.true_and, Bool.not_eq_false', Bool.and_eq_true, decide_eq_true_eq] at hge
        simp [this, hge.1.1, hge.1.2, hge.2]
      · have : codeR s ≤ codeR r := by omega
        simp [this]
theorem rs_mem {l : List Rate} (h : okRs l = true) {x : Rate} (hx : x ∈ l) : okR x = true := riseL_mem h hx
end Go.Proofs.Ytkinlkmmelkdnaa.Q8List

