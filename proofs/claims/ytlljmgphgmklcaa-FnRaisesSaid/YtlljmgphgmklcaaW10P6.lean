/- Texts on which the proofs of several laws stand, one behind the other (6 of 13). No condition of their own. -/
import Derived.Test.YtlljmgphgmklcaaChecked
import Derived.Test.YtlljmgphgmklcaaW10P1
import Derived.Test.YtlljmgphgmklcaaW10P4
import Derived.Test.YtlljmgphgmklcaaW10P5
import Derived.WalkKit
import Derived.WalkSpells
import Derived.WalkLawsBesides
import Derived.BigQuiet
import Derived.OwnWalk
import Derived.Deep.LoopGhost
import Derived.Deep.QuietTactic
import Derived.IntWalk
import Derived.Lib.QuietBelow
import Derived.Deep.RegionHeld3
/- loop.example/g01062/impl.RaiseRate as a plain function, and the contract of the program's: where the plain one has an answer, the program has it. Conditions: slices read as lists. -/
namespace Go.Proofs.Ytlljmgphgmklcaa.GiRaiseRate
set_option linter.unusedVariables false
set_option linter.unusedSimpArgs false
open Go.RowKit
open Go.Proofs.Ytlljmgphgmklcaa.Rowed Go.Proofs.Ytlljmgphgmklcaa.Turn Go.Proofs.Ytlljmgphgmklcaa.Aid Go.Proofs.Ytlljmgphgmklcaa.GoP Go.Proofs.Ytlljmgphgmklcaa.GoM

def P (list : (List Go.Proofs.Ytlljmgphgmklcaa.PRate.Rate)) (zone : Int) (grams : Int) (day : Int) (cents : Int) : Option ((List Go.Proofs.Ytlljmgphgmklcaa.PRate.Rate) × Bool) :=
  Option.bind (Go.Proofs.Ytlljmgphgmklcaa.GiCanSend.P list zone grams) fun (t_6 : Bool) =>
  letK (!t_6) fun (t_7 : Bool) =>
  joinK (fun (t_12 : Bool) =>
  joinK (fun (t_17 : Bool) =>
  iteK t_17
  (some (([] : List Go.Proofs.Ytlljmgphgmklcaa.PRate.Rate), false))
  (Option.bind (Go.Proofs.Ytlljmgphgmklcaa.GxSlicesIndexFuncLoopExampleG01062ImplRateLoopExampleG01062ImplRateiRaiseRate1.P list zone grams day) fun (t_28 : Int) =>
  letK (decide (t_28 < 0)) fun (t_31 : Bool) =>
  joinK (fun (t_40 : Bool) =>
  iteK t_40
  (some (([] : List Go.Proofs.Ytlljmgphgmklcaa.PRate.Rate), false))
  (Option.bind (idx list t_28) fun (yt_46 : Go.Proofs.Ytlljmgphgmklcaa.PRate.Rate) =>
  unRate yt_46 fun (t_46_zone : Int) (t_46_grams : Int) (t_46_from_ : Int) (t_46_until_ : Int) (t_46_cents : Int) =>
  Option.bind (idx list t_28) fun (yt_50 : Go.Proofs.Ytlljmgphgmklcaa.PRate.Rate) =>
  unRate yt_50 fun (t_50_zone : Int) (t_50_grams : Int) (t_50_from_ : Int) (t_50_until_ : Int) (t_50_cents : Int) =>
  letK (IntKind.i64.wrap (day - 1)) fun (t_57 : Int) =>
  guardK ((0 : Int) ≤ t_28 ∧ (t_28 : Int) ≤ (list.length : Int)) <|
  letK (List.take (Int.toNat t_28) list) fun (t_68 : (List Go.Proofs.Ytlljmgphgmklcaa.PRate.Rate)) =>
  letK ([(Go.Proofs.Ytlljmgphgmklcaa.PRate.Rate.mk t_46_zone t_46_grams t_46_from_ t_57 t_46_cents), (Go.Proofs.Ytlljmgphgmklcaa.PRate.Rate.mk t_50_zone t_50_grams day t_50_until_ cents)]) fun (t_71 : (List Go.Proofs.Ytlljmgphgmklcaa.PRate.Rate)) =>
  letK (IntKind.i64.wrap (t_28 + 1)) fun (t_74 : Int) =>
  guardK ((0 : Int) ≤ t_74 ∧ (t_74 : Int) ≤ (list.length : Int)) <|
  letK (List.drop (Int.toNat t_74) list) fun (t_75 : (List Go.Proofs.Ytlljmgphgmklcaa.PRate.Rate)) =>
  letK ([t_68, t_71, t_75]) fun (t_76 : (List (List Go.Proofs.Ytlljmgphgmklcaa.PRate.Rate))) =>
  Option.bind (Go.Proofs.Ytlljmgphgmklcaa.GxSlicesConcatLoopExampleG01062ImplRateLoopExampleG01062ImplRate.P t_76) fun (t_77 : (List Go.Proofs.Ytlljmgphgmklcaa.PRate.Rate)) =>
  Option.bind (Go.Proofs.Ytlljmgphgmklcaa.GiAreRates.P t_77) fun (t_80 : Bool) =>
  letK (!t_80) fun (t_81 : Bool) =>
  iteK t_81
  (some (([] : List Go.Proofs.Ytlljmgphgmklcaa.PRate.Rate), false))
  (some (t_77, true)))) fun jt_40 => iteK t_31 (appK jt_40 true) (Option.bind (idx list t_28) fun (yt_35 : Go.Proofs.Ytlljmgphgmklcaa.PRate.Rate) =>
  unRate yt_35 fun (t_35_zone : Int) (t_35_grams : Int) (t_35_from_ : Int) (t_35_until_ : Int) (t_35_cents : Int) =>
  letK (t_35_cents == cents) fun (t_39 : Bool) =>
  appK jt_40 t_39))) fun jt_17 => iteK t_12 (appK jt_17 true) (Option.bind (Go.Proofs.Ytlljmgphgmklcaa.GiIsRateCents.P cents) fun (t_15 : Bool) =>
  letK (!t_15) fun (t_16 : Bool) =>
  appK jt_17 t_16)) fun jt_12 => iteK t_7 (appK jt_12 true) (Option.bind (Go.Proofs.Ytlljmgphgmklcaa.GiIsDay.P day) fun (t_10 : Bool) =>
  letK (!t_10) fun (t_11 : Bool) =>
  appK jt_12 t_11)

set_option maxRecDepth 100000 in
set_option maxHeartbeats 2000000 in
theorem C (list : (List Go.Proofs.Ytlljmgphgmklcaa.PRate.Rate)) (zone : Int) (grams : Int) (day : Int) (cents : Int) (A0 : Option Addr) (c0 : Nat)  (w : World) (M0 : Hid (Cells w 5 A0 list.length (Go.Proofs.Ytlljmgphgmklcaa.PRate.flat list))) (N0 : Hid (list.length ≤ 9223372036854775807)) (Q0 : Hid (Room A0 list.length c0))  {r0 : (List Go.Proofs.Ytlljmgphgmklcaa.PRate.Rate)} {r1 : Bool} (H : Hid (P list zone grams day cents = some (r0, r1))) :
    Calls Try.prog 63 #[.slice A0 list.length c0, .int .i64 zone, .int .i64 grams, .int .i64 day, .int .i64 cents] w (fun e w' => ∃ A_r0 c_r0, e = .returned (.tuple #[.slice A_r0 r0.length c_r0, .bool r1]) ∧ w'.ownsRow w.heap.size 104 5 (.slice A_r0 r0.length c_r0) r0.length (Go.Proofs.Ytlljmgphgmklcaa.PRate.flat r0) ∧ Below w.heap.size w w') := by
  have HB := Lib.hid (Below.refl w.heap.size w)
  unfold P at H
  have N0o := N0.out
  obtain ⟨i0_104, hi_104, hz0_104, hz1_104, hz2_104⟩ := Aid.info_parts (P := Try.prog) (T := 104) (z := .agg #[.int .i64 0, .int .i64 0, .int .i64 0, .int .i64 0, .int .i64 0]) (s := 5) (b := 40) (by kernel_rfl)
  go_enter Try.func63, Try.ntmps63
  obtain ⟨w_day_0, hw_day_0⟩ : ∃ x, w.alloc (.cells #[.int .i64 day] 3) = x := ⟨_, rfl⟩
  have bw_day_0 : Below w.heap.size w w_day_0 := by rw [← hw_day_0]; exact (Below.refl _ _).alloc (Nat.le_refl _) _
  have HBw_day_0 := Lib.hid (Below.step HB.out bw_day_0)
  clear bw_day_0
  have kday_0_0 : w_day_0.cell? ⟨w.heap.size, 0, none⟩ = some (.int .i64 day) := by rw [← hw_day_0]; exact box_new _ _ _ 0 _ rfl
  replace H := bind_hid H
  obtain ⟨t_6, qt_6, H⟩ := H
  go_wp2_with fail
  go_at_call 124
  refine (Go.Proofs.Ytlljmgphgmklcaa.GiCanSend.C (list) (zone) (grams) A0 c0 _   (Lib.hid (Cells.below M0.out HBw_day_0.out)) N0 qt_6).mono ?_
  rintro e_t_6 wt_6 ⟨rfl, bt_6⟩
  have HBwt_6 := Lib.hid (Below.step HBw_day_0.out bt_6)
  replace kday_0_0 := cell_below bt_6 kday_0_0
  clear bt_6
  cases t_6 with
  | false =>
    replace H := let_hid H
    obtain ⟨t_7, ht_7, H⟩ := H
    obtain rfl : t_7 = true := ht_7.symm
    replace H := join_hid H
    replace H := ite_t H
    replace H := app_hid H
    replace H := join_hid H
    replace H := ite_t H
    replace H := app_hid H
    replace H := ite_t H
    obtain ⟨w_t_18, hw_t_18⟩ : ∃ x, wt_6.alloc (.cells #[] 104) = x := ⟨_, rfl⟩
    have bw_t_18 : Below wt_6.heap.size wt_6 w_t_18 := by rw [← hw_t_18]; exact (Below.refl _ _).alloc (Nat.le_refl _) _
    have Ot_18 : Hid (w_t_18.ownsRow w.heap.size 104 5 (.slice (some ⟨wt_6.heap.size, 0, none⟩) 0 0) 0 []) := Lib.hid (by rw [← hw_t_18]; exact own_empty HBwt_6.out.size)
    have Dt_18_day_0 := Lib.hid (apart_box kday_0_0)
    have HBw_t_18 := Lib.hid (Below.step HBwt_6.out bw_t_18)
    have kday_0_0__155 := cell_below bw_t_18 kday_0_0
    clear bw_t_18
    cases ret_hid H
    go_wp2_with fail
    go_ret2
    exact ⟨(some ⟨wt_6.heap.size, 0, none⟩), 0, rfl, Ot_18.out, HBw_t_18.out⟩
  | true =>
    replace H := let_hid H
    obtain ⟨t_7, ht_7, H⟩ := H
    obtain rfl : t_7 = false := ht_7.symm
    replace H := join_hid H
    replace H := ite_f H
    replace H := bind_hid H
    obtain ⟨t_10, qt_10, H⟩ := H
    go_wp2_with fail
    go_at_call 79
    refine (Go.Proofs.Ytlljmgphgmklcaa.GiIsDay.C (day)  _    qt_10).mono ?_
    rintro e_t_10 wt_10 ⟨rfl, bt_10⟩
    have HBwt_10 := Lib.hid (Below.step HBwt_6.out bt_10)
    replace kday_0_0 := cell_below bt_10 kday_0_0
    clear bt_10
    cases t_10 with
    | false =>
      replace H := let_hid H
      obtain ⟨t_11, ht_11, H⟩ := H
      obtain rfl : t_11 = true := ht_11.symm
      replace H := app_hid H
      replace H := join_hid H
      replace H := ite_t H
      replace H := app_hid H
      replace H := ite_t H
      obtain ⟨w_t_18, hw_t_18⟩ : ∃ x, wt_10.alloc (.cells #[] 104) = x := ⟨_, rfl⟩
      have bw_t_18 : Below wt_10.heap.size wt_10 w_t_18 := by rw [← hw_t_18]; exact (Below.refl _ _).alloc (Nat.le_refl _) _
      have Ot_18 : Hid (w_t_18.ownsRow w.heap.size 104 5 (.slice (some ⟨wt_10.heap.size, 0, none⟩) 0 0) 0 []) := Lib.hid (by rw [← hw_t_18]; exact own_empty HBwt_10.out.size)
      have Dt_18_day_0 := Lib.hid (apart_box kday_0_0)
      have HBw_t_18 := Lib.hid (Below.step HBwt_10.out bw_t_18)
      have kday_0_0__156 := cell_below bw_t_18 kday_0_0
      clear bw_t_18
      cases ret_hid H
      go_wp2_with fail
      go_ret2
      exact ⟨(some ⟨wt_10.heap.size, 0, none⟩), 0, rfl, Ot_18.out, HBw_t_18.out⟩
    | true =>
      replace H := let_hid H
      obtain ⟨t_11, ht_11, H⟩ := H
      obtain rfl : t_11 = false := ht_11.symm
      replace H := app_hid H
      replace H := join_hid H
      replace H := ite_f H
      replace H := bind_hid H
      obtain ⟨t_15, qt_15, H⟩ := H
      go_wp2_with fail
      go_at_call 82
      refine (Go.Proofs.Ytlljmgphgmklcaa.GiIsRateCents.C (cents)  _    qt_15).mono ?_
      rintro e_t_15 wt_15 ⟨rfl, bt_15⟩
      have HBwt_15 := Lib.hid (Below.step HBwt_10.out bt_15)
      replace kday_0_0 := cell_below bt_15 kday_0_0
      clear bt_15
      cases t_15 with
      | false =>
        replace H := let_hid H
        obtain ⟨t_16, ht_16, H⟩ := H
        obtain rfl : t_16 = true := ht_16.symm
        replace H := app_hid H
        replace H := ite_t H
        obtain ⟨w_t_18, hw_t_18⟩ : ∃ x, wt_15.alloc (.cells #[] 104) = x := ⟨_, rfl⟩
        have bw_t_18 : Below wt_15.heap.size wt_15 w_t_18 := by rw [← hw_t_18]; exact (Below.refl _ _).alloc (Nat.le_refl _) _
        have Ot_18 : Hid (w_t_18.ownsRow w.heap.size 104 5 (.slice (some ⟨wt_15.heap.size, 0, none⟩) 0 0) 0 []) := Lib.hid (by rw [← hw_t_18]; exact own_empty HBwt_15.out.size)
        have Dt_18_day_0 := Lib.hid (apart_box kday_0_0)
        have HBw_t_18 := Lib.hid (Below.step HBwt_15.out bw_t_18)
        have kday_0_0__157 := cell_below bw_t_18 kday_0_0
        clear bw_t_18
        cases ret_hid H
        go_wp2_with fail
        go_ret2
        exact ⟨(some ⟨wt_15.heap.size, 0, none⟩), 0, rfl, Ot_18.out, HBw_t_18.out⟩
      | true =>
        replace H := let_hid H
        obtain ⟨t_16, ht_16, H⟩ := H
        obtain rfl : t_16 = false := ht_16.symm
        replace H := app_hid H
        replace H := ite_f H
        obtain ⟨w_class_24, hw_class_24⟩ : ∃ x, wt_15.alloc (.cells #[.int .i64 zone, .int .i64 grams] 141) = x := ⟨_, rfl⟩
        have bw_class_24 : Below wt_15.heap.size wt_15 w_class_24 := by rw [← hw_class_24]; exact (Below.refl _ _).alloc (Nat.le_refl _) _
        have HBw_class_24 := Lib.hid (Below.step HBwt_15.out bw_class_24)
        have kday_0_0__158 := cell_below bw_class_24 kday_0_0
        clear bw_class_24
        have kclass_24_0 : w_class_24.cell? ⟨wt_15.heap.size, 0, none⟩ = some (.int .i64 zone) := by rw [← hw_class_24]; exact box_new _ _ _ 0 _ rfl
        have kclass_24_1 : w_class_24.cell? ⟨wt_15.heap.size, 1, none⟩ = some (.int .i64 grams) := by rw [← hw_class_24]; exact box_new _ _ _ 1 _ rfl
        replace H := bind_hid H
        obtain ⟨t_28, qt_28, H⟩ := H
        go_wp2_with fail
        clear kday_0_0
        go_at_call 125
        refine (Go.Proofs.Ytlljmgphgmklcaa.GxSlicesIndexFuncLoopExampleG01062ImplRateLoopExampleG01062ImplRateiRaiseRate1.C (list) (zone) (grams) (day) A0 c0 (wt_15.heap.size) (w.heap.size) _   (Lib.hid (Cells.below M0.out HBw_class_24.out)) N0 (Lib.hid kclass_24_0) (Lib.hid kclass_24_1) (Lib.hid kday_0_0__158) qt_28).mono ?_
        rintro e_t_28 wt_28 ⟨rfl, bt_28⟩
        have HBwt_28 := Lib.hid (Below.step HBw_class_24.out bt_28)
        replace kday_0_0__158 := cell_below bt_28 kday_0_0__158
        replace kclass_24_0 := cell_below bt_28 kclass_24_0
        replace kclass_24_1 := cell_below bt_28 kclass_24_1
        clear bt_28
        replace H := let_hid H
        obtain ⟨t_31, ht_31, H⟩ := H
        replace H := join_hid H
        cases t_31 with
        | false =>
          replace H := ite_f H
          replace H := idx_hid H
          obtain ⟨nt_35, yt_35, et_35, lt_35, gt_35, H⟩ := H
          subst et_35
          have nc_159 : ¬ (nt_35 < 0) := by have := of_decide_eq_false ht_31; omega
          obtain ⟨t_35_zone, t_35_grams, t_35_from_, t_35_until_, t_35_cents⟩ := yt_35
          replace H := unRate_hid H
          obtain ⟨ab_t_35, ao_t_35, zt_35, At_35, z_t_35, ct_35_0, ct_35_1, ct_35_2, ct_35_3, ct_35_4⟩ := Go.Proofs.Ytlljmgphgmklcaa.ORate.at_ M0.out lt_35
          obtain rfl := Option.some.inj (gt_35.out.symm.trans z_t_35)
          subst At_35
          have ltt_35 := cell_lt ct_35_0
          replace ct_35_0 := cell_below HBwt_28.out ct_35_0
          replace ct_35_1 := cell_below HBwt_28.out ct_35_1
          replace ct_35_2 := cell_below HBwt_28.out ct_35_2
          replace ct_35_3 := cell_below HBwt_28.out ct_35_3
          replace ct_35_4 := cell_below HBwt_28.out ct_35_4
          clear z_t_35
          have b0t_35 : (0 : Int) ≤ (nt_35 : Int) := by omega
          have b1t_35 : (nt_35 : Int) < ((list.length : Nat) : Int) := by omega
          have b2t_35 : ((nt_35 : Int)).toNat = nt_35 := by omega
          replace H := let_hid H
          obtain ⟨t_39, ht_39, H⟩ := H
          replace H := app_hid H
          cases t_39 with
          | false =>
            replace H := ite_f H
            go_wp2_with fail
            have bd7 : Below wt_28.heap.size wt_28 wt_28.drew := (Below.refl _ _).drew
            have HBwt_28.drew := Lib.hid (Below.step HBwt_28.out bd7)
            replace kday_0_0__158 := cell_below bd7 kday_0_0__158
            replace kclass_24_0 := cell_below bd7 kclass_24_0
            replace kclass_24_1 := cell_below bd7 kclass_24_1
            replace ct_35_0 := cell_below bd7 ct_35_0
            replace ct_35_1 := cell_below bd7 ct_35_1
            replace ct_35_2 := cell_below bd7 ct_35_2
            replace ct_35_3 := cell_below bd7 ct_35_3
            replace ct_35_4 := cell_below bd7 ct_35_4
            clear bd7
            replace H := idx_hid H
            obtain ⟨nt_46, yt_46, et_46, lt_46, gt_46, H⟩ := H
            obtain rfl : nt_35 = nt_46 := by omega
            clear et_46
            obtain rfl := Option.some.inj (gt_35.out.symm.trans gt_46.out)
            clear gt_46 lt_46
            replace H := unRate_hid H
            replace H := idx_hid H
            obtain ⟨nt_50, yt_50, et_50, lt_50, gt_50, H⟩ := H
            obtain rfl : nt_35 = nt_50 := by omega
            clear et_50
            obtain rfl := Option.some.inj (gt_35.out.symm.trans gt_50.out)
            clear gt_50 lt_50
            replace H := unRate_hid H
            obtain ⟨w_earlier_52_p225, hw_earlier_52_p225⟩ : ∃ x, wt_28.drew.alloc (.cells #[.int .i64 0, .int .i64 0, .int .i64 0, .int .i64 0, .int .i64 0] 104) = x := ⟨_, rfl⟩
            have bw_earlier_52_p225 : Below wt_28.drew.heap.size wt_28.drew w_earlier_52_p225 := by rw [← hw_earlier_52_p225]; exact (Below.refl _ _).alloc (Nat.le_refl _) _
            have Dearlier_52_day_0_p225 := Lib.hid (apart_box kday_0_0__158)
            have Dearlier_52_class_24_p225 := Lib.hid (apart_box kclass_24_0)
            have HBw_earlier_52_p225 := Lib.hid (Below.step HBwt_28.drew.out bw_earlier_52_p225)
            have kday_0_0__217_p225 := cell_below bw_earlier_52_p225 kday_0_0__158
            have kclass_24_0__218_p225 := cell_below bw_earlier_52_p225 kclass_24_0
            have kclass_24_1__219_p225 := cell_below bw_earlier_52_p225 kclass_24_1
            have ct_35_0__220_p225 := cell_below bw_earlier_52_p225 ct_35_0
            have ct_35_1__221_p225 := cell_below bw_earlier_52_p225 ct_35_1
            have ct_35_2__222_p225 := cell_below bw_earlier_52_p225 ct_35_2
            have ct_35_3__223_p225 := cell_below bw_earlier_52_p225 ct_35_3
            have ct_35_4__224_p225 := cell_below bw_earlier_52_p225 ct_35_4
            have kearlier_52_0_p225 : w_earlier_52_p225.cell? ⟨wt_28.heap.size, 0, none⟩ = some (.int .i64 0) := by rw [← hw_earlier_52_p225]; exact box_new _ _ _ 0 _ rfl
            have kearlier_52_1_p225 : w_earlier_52_p225.cell? ⟨wt_28.heap.size, 1, none⟩ = some (.int .i64 0) := by rw [← hw_earlier_52_p225]; exact box_new _ _ _ 1 _ rfl
            have kearlier_52_2_p225 : w_earlier_52_p225.cell? ⟨wt_28.heap.size, 2, none⟩ = some (.int .i64 0) := by rw [← hw_earlier_52_p225]; exact box_new _ _ _ 2 _ rfl
            have kearlier_52_3_p225 : w_earlier_52_p225.cell? ⟨wt_28.heap.size, 3, none⟩ = some (.int .i64 0) := by rw [← hw_earlier_52_p225]; exact box_new _ _ _ 3 _ rfl
            have kearlier_52_4_p225 : w_earlier_52_p225.cell? ⟨wt_28.heap.size, 4, none⟩ = some (.int .i64 0) := by rw [← hw_earlier_52_p225]; exact box_new _ _ _ 4 _ rfl
            have Oearlier_52_p225 : Hid (w_earlier_52_p225.ownsRow w.heap.size 104 5 (.slice (some ⟨wt_28.heap.size, 0, none⟩) 1 1) 1 [.int .i64 0, .int .i64 0, .int .i64 0, .int .i64 0, .int .i64 0]) := Lib.hid (by rw [← hw_earlier_52_p225]; exact own_laid (n := 1) HBwt_28.drew.out.size rfl rfl (by unfold maxLen; omega))
            obtain ⟨w_later_53_p239, hw_later_53_p239⟩ : ∃ x, w_earlier_52_p225.alloc (.cells #[.int .i64 0, .int .i64 0, .int .i64 0, .int .i64 0, .int .i64 0] 104) = x := ⟨_, rfl⟩
            have bw_later_53_p239 : Below w_earlier_52_p225.heap.size w_earlier_52_p225 w_later_53_p239 := by rw [← hw_later_53_p239]; exact (Below.refl _ _).alloc (Nat.le_refl _) _
            have Dlater_53_day_0_p239 := Lib.hid (apart_box kday_0_0__217_p225)
            have Dlater_53_class_24_p239 := Lib.hid (apart_box kclass_24_0__218_p225)
            have Dlater_53_earlier_52_p239 := Lib.hid (apart_box kearlier_52_0_p225)
            have HBw_later_53_p239 := Lib.hid (Below.step HBw_earlier_52_p225.out bw_later_53_p239)
            have kday_0_0__226_p239 := cell_below bw_later_53_p239 kday_0_0__217_p225
            have kclass_24_0__227_p239 := cell_below bw_later_53_p239 kclass_24_0__218_p225
            have kclass_24_1__228_p239 := cell_below bw_later_53_p239 kclass_24_1__219_p225
            have ct_35_0__229_p239 := cell_below bw_later_53_p239 ct_35_0__220_p225
            have ct_35_1__230_p239 := cell_below bw_later_53_p239 ct_35_1__221_p225
            have ct_35_2__231_p239 := cell_below bw_later_53_p239 ct_35_2__222_p225
            have ct_35_3__232_p239 := cell_below bw_later_53_p239 ct_35_3__223_p225
            have ct_35_4__233_p239 := cell_below bw_later_53_p239 ct_35_4__224_p225
            have kearlier_52_0_p225__234_p239 := cell_below bw_later_53_p239 kearlier_52_0_p225
            have kearlier_52_1_p225__235_p239 := cell_below bw_later_53_p239 kearlier_52_1_p225
            have kearlier_52_2_p225__236_p239 := cell_below bw_later_53_p239 kearlier_52_2_p225
            have kearlier_52_3_p225__237_p239 := cell_below bw_later_53_p239 kearlier_52_3_p225
            have kearlier_52_4_p225__238_p239 := cell_below bw_later_53_p239 kearlier_52_4_p225
            have Oearlier_52_p225_p239 := Lib.hid (own_below Oearlier_52_p225.out bw_later_53_p239)
            have klater_53_0_p239 : w_later_53_p239.cell? ⟨w_earlier_52_p225.heap.size, 0, none⟩ = some (.int .i64 0) := by rw [← hw_later_53_p239]; exact box_new _ _ _ 0 _ rfl
            have klater_53_1_p239 : w_later_53_p239.cell? ⟨w_earlier_52_p225.heap.size, 1, none⟩ = some (.int .i64 0) := by rw [← hw_later_53_p239]; exact box_new _ _ _ 1 _ rfl
            have klater_53_2_p239 : w_later_53_p239.cell? ⟨w_earlier_52_p225.heap.size, 2, none⟩ = some (.int .i64 0) := by rw [← hw_later_53_p239]; exact box_new _ _ _ 2 _ rfl
            have klater_53_3_p239 : w_later_53_p239.cell? ⟨w_earlier_52_p225.heap.size, 3, none⟩ = some (.int .i64 0) := by rw [← hw_later_53_p239]; exact box_new _ _ _ 3 _ rfl
            have klater_53_4_p239 : w_later_53_p239.cell? ⟨w_earlier_52_p225.heap.size, 4, none⟩ = some (.int .i64 0) := by rw [← hw_later_53_p239]; exact box_new _ _ _ 4 _ rfl
            have Olater_53_p239 : Hid (w_later_53_p239.ownsRow w.heap.size 104 5 (.slice (some ⟨w_earlier_52_p225.heap.size, 0, none⟩) 1 1) 1 [.int .i64 0, .int .i64 0, .int .i64 0, .int .i64 0, .int .i64 0]) := Lib.hid (by rw [← hw_later_53_p239]; exact own_laid (n := 1) HBw_earlier_52_p225.out.size rfl rfl (by unfold maxLen; omega))
            obtain ⟨wb54_54_p258, hwb54_54_p258⟩ : ∃ x, (((((w_later_53_p239).setCell ⟨wt_28.heap.size, 0, none⟩ (.int .i64 t_35_zone)).setCell ⟨wt_28.heap.size, 1, none⟩ (.int .i64 t_35_grams)).setCell ⟨wt_28.heap.size, 2, none⟩ (.int .i64 t_35_from_)).setCell ⟨wt_28.heap.size, 3, none⟩ (.int .i64 t_35_until_)).setCell ⟨wt_28.heap.size, 4, none⟩ (.int .i64 t_35_cents) = x := ⟨_, rfl⟩
            have z0b54_54_p258 := Oearlier_52_p225_p239.out.frozenAt 0
            have z1b54_54_p258 := Oearlier_52_p225_p239.out.frozenAt 1
            have z2b54_54_p258 := Oearlier_52_p225_p239.out.frozenAt 2
            have z3b54_54_p258 := Oearlier_52_p225_p239.out.frozenAt 3
            have z4b54_54_p258 := Oearlier_52_p225_p239.out.frozenAt 4
            have Sb54_54_p258 := Lib.hid (own_stores [(0, .int .i64 t_35_zone), (1, .int .i64 t_35_grams), (2, .int .i64 t_35_from_), (3, .int .i64 t_35_until_), (4, .int .i64 t_35_cents)] Oearlier_52_p225_p239.out)
            have Pb54_54_p258 : Hid (wb54_54_p258.ownsRow w.heap.size 104 5 (.slice (some ⟨wt_28.heap.size, 0, none⟩) 1 1) 1 [.int .i64 t_35_zone, .int .i64 t_35_grams, .int .i64 t_35_from_, .int .i64 t_35_until_, .int .i64 t_35_cents]) := Lib.hid (by rw [← hwb54_54_p258]; exact Sb54_54_p258.out.1)
            have Gb54_54_p258 : Hid (w_later_53_p239.grownBy wb54_54_p258 (Value.slice (some ⟨wt_28.heap.size, 0, none⟩) 1 1).ownBlock) := Lib.hid (by rw [← hwb54_54_p258]; exact Sb54_54_p258.out.2)
            have HBwb54_54_p258 := Lib.hid (HBw_later_53_p239.out.grown Gb54_54_p258.out HBw_later_53_p239.out.size (fun q hq => (Oearlier_52_p225_p239.out.lt q hq).1))
            have kday_0_0__240_p258 := cell_other kday_0_0__226_p239 Gb54_54_p258.out Dearlier_52_day_0_p225.out
            have kclass_24_0__241_p258 := cell_other kclass_24_0__227_p239 Gb54_54_p258.out Dearlier_52_class_24_p225.out
            have kclass_24_1__242_p258 := cell_other kclass_24_1__228_p239 Gb54_54_p258.out Dearlier_52_class_24_p225.out
            have ct_35_0__243_p258 := cell_other ct_35_0__229_p239 Gb54_54_p258.out (apart_old Oearlier_52_p225_p239.out ltt_35)
            have ct_35_1__244_p258 := cell_other ct_35_1__230_p239 Gb54_54_p258.out (apart_old Oearlier_52_p225_p239.out ltt_35)
            have ct_35_2__245_p258 := cell_other ct_35_2__231_p239 Gb54_54_p258.out (apart_old Oearlier_52_p225_p239.out ltt_35)
            have ct_35_3__246_p258 := cell_other ct_35_3__232_p239 Gb54_54_p258.out (apart_old Oearlier_52_p225_p239.out ltt_35)
            have ct_35_4__247_p258 := cell_other ct_35_4__233_p239 Gb54_54_p258.out (apart_old Oearlier_52_p225_p239.out ltt_35)
            have klater_53_0_p239__248_p258 := cell_other klater_53_0_p239 Gb54_54_p258.out (Apart.symm Dlater_53_earlier_52_p239.out)
            have klater_53_1_p239__249_p258 := cell_other klater_53_1_p239 Gb54_54_p258.out (Apart.symm Dlater_53_earlier_52_p239.out)
            have klater_53_2_p239__250_p258 := cell_other klater_53_2_p239 Gb54_54_p258.out (Apart.symm Dlater_53_earlier_52_p239.out)
            have klater_53_3_p239__251_p258 := cell_other klater_53_3_p239 Gb54_54_p258.out (Apart.symm Dlater_53_earlier_52_p239.out)
            have klater_53_4_p239__252_p258 := cell_other klater_53_4_p239 Gb54_54_p258.out (Apart.symm Dlater_53_earlier_52_p239.out)
            have Olater_53_p239_p258 := Lib.hid (own_other Olater_53_p239.out Gb54_54_p258.out (Apart.symm Dlater_53_earlier_52_p239.out))
            have kearlier_52_0_p225__253_p258 : wb54_54_p258.cell? ⟨wt_28.heap.size, 0, none⟩ = some (.int .i64 t_35_zone) := Pb54_54_p258.out.cells rfl 0 _ rfl
            have kearlier_52_1_p225__254_p258 : wb54_54_p258.cell? ⟨wt_28.heap.size, 1, none⟩ = some (.int .i64 t_35_grams) := Pb54_54_p258.out.cells rfl 1 _ rfl
            have kearlier_52_2_p225__255_p258 : wb54_54_p258.cell? ⟨wt_28.heap.size, 2, none⟩ = some (.int .i64 t_35_from_) := Pb54_54_p258.out.cells rfl 2 _ rfl
            have kearlier_52_3_p225__256_p258 : wb54_54_p258.cell? ⟨wt_28.heap.size, 3, none⟩ = some (.int .i64 t_35_until_) := Pb54_54_p258.out.cells rfl 3 _ rfl
            have kearlier_52_4_p225__257_p258 : wb54_54_p258.cell? ⟨wt_28.heap.size, 4, none⟩ = some (.int .i64 t_35_cents) := Pb54_54_p258.out.cells rfl 4 _ rfl
            obtain ⟨wb55_55_p277, hwb55_55_p277⟩ : ∃ x, (((((wb54_54_p258).setCell ⟨w_earlier_52_p225.heap.size, 0, none⟩ (.int .i64 t_35_zone)).setCell ⟨w_earlier_52_p225.heap.size, 1, none⟩ (.int .i64 t_35_grams)).setCell ⟨w_earlier_52_p225.heap.size, 2, none⟩ (.int .i64 t_35_from_)).setCell ⟨w_earlier_52_p225.heap.size, 3, none⟩ (.int .i64 t_35_until_)).setCell ⟨w_earlier_52_p225.heap.size, 4, none⟩ (.int .i64 t_35_cents) = x := ⟨_, rfl⟩
            have z0b55_55_p277 := Olater_53_p239_p258.out.frozenAt 0
            have z1b55_55_p277 := Olater_53_p239_p258.out.frozenAt 1
            have z2b55_55_p277 := Olater_53_p239_p258.out.frozenAt 2
            have z3b55_55_p277 := Olater_53_p239_p258.out.frozenAt 3
            have z4b55_55_p277 := Olater_53_p239_p258.out.frozenAt 4
            have Sb55_55_p277 := Lib.hid (own_stores [(0, .int .i64 t_35_zone), (1, .int .i64 t_35_grams), (2, .int .i64 t_35_from_), (3, .int .i64 t_35_until_), (4, .int .i64 t_35_cents)] Olater_53_p239_p258.out)
            have Pb55_55_p277 : Hid (wb55_55_p277.ownsRow w.heap.size 104 5 (.slice (some ⟨w_earlier_52_p225.heap.size, 0, none⟩) 1 1) 1 [.int .i64 t_35_zone, .int .i64 t_35_grams, .int .i64 t_35_from_, .int .i64 t_35_until_, .int .i64 t_35_cents]) := Lib.hid (by rw [← hwb55_55_p277]; exact Sb55_55_p277.out.1)
            have Gb55_55_p277 : Hid (wb54_54_p258.grownBy wb55_55_p277 (Value.slice (some ⟨w_earlier_52_p225.heap.size, 0, none⟩) 1 1).ownBlock) := Lib.hid (by rw [← hwb55_55_p277]; exact Sb55_55_p277.out.2)
            have HBwb55_55_p277 := Lib.hid (HBwb54_54_p258.out.grown Gb55_55_p277.out HBwb54_54_p258.out.size (fun q hq => (Olater_53_p239_p258.out.lt q hq).1))
            have kday_0_0__259_p277 := cell_other kday_0_0__240_p258 Gb55_55_p277.out Dlater_53_day_0_p239.out
            have kclass_24_0__260_p277 := cell_other kclass_24_0__241_p258 Gb55_55_p277.out Dlater_53_class_24_p239.out
            have kclass_24_1__261_p277 := cell_other kclass_24_1__242_p258 Gb55_55_p277.out Dlater_53_class_24_p239.out
            have ct_35_0__262_p277 := cell_other ct_35_0__243_p258 Gb55_55_p277.out (apart_old Olater_53_p239_p258.out ltt_35)
            have ct_35_1__263_p277 := cell_other ct_35_1__244_p258 Gb55_55_p277.out (apart_old Olater_53_p239_p258.out ltt_35)
            have ct_35_2__264_p277 := cell_other ct_35_2__245_p258 Gb55_55_p277.out (apart_old Olater_53_p239_p258.out ltt_35)
            have ct_35_3__265_p277 := cell_other ct_35_3__246_p258 Gb55_55_p277.out (apart_old Olater_53_p239_p258.out ltt_35)
            have ct_35_4__266_p277 := cell_other ct_35_4__247_p258 Gb55_55_p277.out (apart_old Olater_53_p239_p258.out ltt_35)
            have kearlier_52_0_p225__267_p277 := cell_other kearlier_52_0_p225__253_p258 Gb55_55_p277.out Dlater_53_earlier_52_p239.out
            have kearlier_52_1_p225__268_p277 := cell_other kearlier_52_1_p225__254_p258 Gb55_55_p277.out Dlater_53_earlier_52_p239.out
            have kearlier_52_2_p225__269_p277 := cell_other kearlier_52_2_p225__255_p258 Gb55_55_p277.out Dlater_53_earlier_52_p239.out
            have kearlier_52_3_p225__270_p277 := cell_other kearlier_52_3_p225__256_p258 Gb55_55_p277.out Dlater_53_earlier_52_p239.out
            have kearlier_52_4_p225__271_p277 := cell_other kearlier_52_4_p225__257_p258 Gb55_55_p277.out Dlater_53_earlier_52_p239.out
            have Pb54_54_p258_p277 := Lib.hid (own_other Pb54_54_p258.out Gb55_55_p277.out Dlater_53_earlier_52_p239.out)
            have klater_53_0_p239__272_p277 : wb55_55_p277.cell? ⟨w_earlier_52_p225.heap.size, 0, none⟩ = some (.int .i64 t_35_zone) := Pb55_55_p277.out.cells rfl 0 _ rfl
            have klater_53_1_p239__273_p277 : wb55_55_p277.cell? ⟨w_earlier_52_p225.heap.size, 1, none⟩ = some (.int .i64 t_35_grams) := Pb55_55_p277.out.cells rfl 1 _ rfl
            have klater_53_2_p239__274_p277 : wb55_55_p277.cell? ⟨w_earlier_52_p225.heap.size, 2, none⟩ = some (.int .i64 t_35_from_) := Pb55_55_p277.out.cells rfl 2 _ rfl
            have klater_53_3_p239__275_p277 : wb55_55_p277.cell? ⟨w_earlier_52_p225.heap.size, 3, none⟩ = some (.int .i64 t_35_until_) := Pb55_55_p277.out.cells rfl 3 _ rfl
            have klater_53_4_p239__276_p277 : wb55_55_p277.cell? ⟨w_earlier_52_p225.heap.size, 4, none⟩ = some (.int .i64 t_35_cents) := Pb55_55_p277.out.cells rfl 4 _ rfl
            have bw_later_53_p286 : Below wt_28.drew.heap.size wt_28.drew w_earlier_52_p225 := by rw [← hw_earlier_52_p225]; exact (Below.refl _ _).alloc (Nat.le_refl _) _
            have Dlater_53_day_0_p286 := Lib.hid (apart_box kday_0_0__158)
            have Dlater_53_class_24_p286 := Lib.hid (apart_box kclass_24_0)
            have HBw_later_53_p286 := Lib.hid (Below.step HBwt_28.drew.out bw_later_53_p286)
            have kday_0_0__278_p286 := cell_below bw_later_53_p286 kday_0_0__158
            have kclass_24_0__279_p286 := cell_below bw_later_53_p286 kclass_24_0
            have kclass_24_1__280_p286 := cell_below bw_later_53_p286 kclass_24_1
            have ct_35_0__281_p286 := cell_below bw_later_53_p286 ct_35_0
            have ct_35_1__282_p286 := cell_below bw_later_53_p286 ct_35_1
            have ct_35_2__283_p286 := cell_below bw_later_53_p286 ct_35_2
            have ct_35_3__284_p286 := cell_below bw_later_53_p286 ct_35_3
            have ct_35_4__285_p286 := cell_below bw_later_53_p286 ct_35_4
            have klater_53_0_p286 : w_earlier_52_p225.cell? ⟨wt_28.heap.size, 0, none⟩ = some (.int .i64 0) := by rw [← hw_earlier_52_p225]; exact box_new _ _ _ 0 _ rfl
            have klater_53_1_p286 : w_earlier_52_p225.cell? ⟨wt_28.heap.size, 1, none⟩ = some (.int .i64 0) := by rw [← hw_earlier_52_p225]; exact box_new _ _ _ 1 _ rfl
            have klater_53_2_p286 : w_earlier_52_p225.cell? ⟨wt_28.heap.size, 2, none⟩ = some (.int .i64 0) := by rw [← hw_earlier_52_p225]; exact box_new _ _ _ 2 _ rfl
            have klater_53_3_p286 : w_earlier_52_p225.cell? ⟨wt_28.heap.size, 3, none⟩ = some (.int .i64 0) := by rw [← hw_earlier_52_p225]; exact box_new _ _ _ 3 _ rfl
            have klater_53_4_p286 : w_earlier_52_p225.cell? ⟨wt_28.heap.size, 4, none⟩ = some (.int .i64 0) := by rw [← hw_earlier_52_p225]; exact box_new _ _ _ 4 _ rfl
            have Olater_53_p286 : Hid (w_earlier_52_p225.ownsRow w.heap.size 104 5 (.slice (some ⟨wt_28.heap.size, 0, none⟩) 1 1) 1 [.int .i64 0, .int .i64 0, .int .i64 0, .int .i64 0, .int .i64 0]) := Lib.hid (by rw [← hw_earlier_52_p225]; exact own_laid (n := 1) HBwt_28.drew.out.size rfl rfl (by unfold maxLen; omega))
            have bw_earlier_52_p300 : Below w_earlier_52_p225.heap.size w_earlier_52_p225 w_later_53_p239 := by rw [← hw_later_53_p239]; exact (Below.refl _ _).alloc (Nat.le_refl _) _
            have Dearlier_52_day_0_p300 := Lib.hid (apart_box kday_0_0__278_p286)
            have Dearlier_52_class_24_p300 := Lib.hid (apart_box kclass_24_0__279_p286)
            have Dearlier_52_later_53_p300 := Lib.hid (apart_box klater_53_0_p286)
            have HBw_earlier_52_p300 := Lib.hid (Below.step HBw_later_53_p286.out bw_earlier_52_p300)
            have kday_0_0__287_p300 := cell_below bw_earlier_52_p300 kday_0_0__278_p286
            have kclass_24_0__288_p300 := cell_below bw_earlier_52_p300 kclass_24_0__279_p286
            have kclass_24_1__289_p300 := cell_below bw_earlier_52_p300 kclass_24_1__280_p286
            have ct_35_0__290_p300 := cell_below bw_earlier_52_p300 ct_35_0__281_p286
            have ct_35_1__291_p300 := cell_below bw_earlier_52_p300 ct_35_1__282_p286
            have ct_35_2__292_p300 := cell_below bw_earlier_52_p300 ct_35_2__283_p286
            have ct_35_3__293_p300 := cell_below bw_earlier_52_p300 ct_35_3__284_p286
            have ct_35_4__294_p300 := cell_below bw_earlier_52_p300 ct_35_4__285_p286
            have klater_53_0_p286__295_p300 := cell_below bw_earlier_52_p300 klater_53_0_p286
            have klater_53_1_p286__296_p300 := cell_below bw_earlier_52_p300 klater_53_1_p286
            have klater_53_2_p286__297_p300 := cell_below bw_earlier_52_p300 klater_53_2_p286
            have klater_53_3_p286__298_p300 := cell_below bw_earlier_52_p300 klater_53_3_p286
            have klater_53_4_p286__299_p300 := cell_below bw_earlier_52_p300 klater_53_4_p286
            have Olater_53_p286_p300 := Lib.hid (own_below Olater_53_p286.out bw_earlier_52_p300)
            have kearlier_52_0_p300 : w_later_53_p239.cell? ⟨w_earlier_52_p225.heap.size, 0, none⟩ = some (.int .i64 0) := by rw [← hw_later_53_p239]; exact box_new _ _ _ 0 _ rfl
            have kearlier_52_1_p300 : w_later_53_p239.cell? ⟨w_earlier_52_p225.heap.size, 1, none⟩ = some (.int .i64 0) := by rw [← hw_later_53_p239]; exact box_new _ _ _ 1 _ rfl
            have kearlier_52_2_p300 : w_later_53_p239.cell? ⟨w_earlier_52_p225.heap.size, 2, none⟩ = some (.int .i64 0) := by rw [← hw_later_53_p239]; exact box_new _ _ _ 2 _ rfl
            have kearlier_52_3_p300 : w_later_53_p239.cell? ⟨w_earlier_52_p225.heap.size, 3, none⟩ = some (.int .i64 0) := by rw [← hw_later_53_p239]; exact box_new _ _ _ 3 _ rfl
            have kearlier_52_4_p300 : w_later_53_p239.cell? ⟨w_earlier_52_p225.heap.size, 4, none⟩ = some (.int .i64 0) := by rw [← hw_later_53_p239]; exact box_new _ _ _ 4 _ rfl
            have Oearlier_52_p300 : Hid (w_later_53_p239.ownsRow w.heap.size 104 5 (.slice (some ⟨w_earlier_52_p225.heap.size, 0, none⟩) 1 1) 1 [.int .i64 0, .int .i64 0, .int .i64 0, .int .i64 0, .int .i64 0]) := Lib.hid (by rw [← hw_later_53_p239]; exact own_laid (n := 1) HBw_later_53_p286.out.size rfl rfl (by unfold maxLen; omega))
            obtain ⟨wb54_54_p319, hwb54_54_p319⟩ : ∃ x, (((((w_later_53_p239).setCell ⟨w_earlier_52_p225.heap.size, 0, none⟩ (.int .i64 t_35_zone)).setCell ⟨w_earlier_52_p225.heap.size, 1, none⟩ (.int .i64 t_35_grams)).setCell ⟨w_earlier_52_p225.heap.size, 2, none⟩ (.int .i64 t_35_from_)).setCell ⟨w_earlier_52_p225.heap.size, 3, none⟩ (.int .i64 t_35_until_)).setCell ⟨w_earlier_52_p225.heap.size, 4, none⟩ (.int .i64 t_35_cents) = x := ⟨_, rfl⟩
            have z0b54_54_p319 := Oearlier_52_p300.out.frozenAt 0
            have z1b54_54_p319 := Oearlier_52_p300.out.frozenAt 1
            have z2b54_54_p319 := Oearlier_52_p300.out.frozenAt 2
            have z3b54_54_p319 := Oearlier_52_p300.out.frozenAt 3
            have z4b54_54_p319 := Oearlier_52_p300.out.frozenAt 4
            have Sb54_54_p319 := Lib.hid (own_stores [(0, .int .i64 t_35_zone), (1, .int .i64 t_35_grams), (2, .int .i64 t_35_from_), (3, .int .i64 t_35_until_), (4, .int .i64 t_35_cents)] Oearlier_52_p300.out)
            have Pb54_54_p319 : Hid (wb54_54_p319.ownsRow w.heap.size 104 5 (.slice (some ⟨w_earlier_52_p225.heap.size, 0, none⟩) 1 1) 1 [.int .i64 t_35_zone, .int .i64 t_35_grams, .int .i64 t_35_from_, .int .i64 t_35_until_, .int .i64 t_35_cents]) := Lib.hid (by rw [← hwb54_54_p319]; exact Sb54_54_p319.out.1)
            have Gb54_54_p319 : Hid (w_later_53_p239.grownBy wb54_54_p319 (Value.slice (some ⟨w_earlier_52_p225.heap.size, 0, none⟩) 1 1).ownBlock) := Lib.hid (by rw [← hwb54_54_p319]; exact Sb54_54_p319.out.2)
            have HBwb54_54_p319 := Lib.hid (HBw_earlier_52_p300.out.grown Gb54_54_p319.out HBw_earlier_52_p300.out.size (fun q hq => (Oearlier_52_p300.out.lt q hq).1))
            have kday_0_0__301_p319 := cell_other kday_0_0__287_p300 Gb54_54_p319.out Dearlier_52_day_0_p300.out
            have kclass_24_0__302_p319 := cell_other kclass_24_0__288_p300 Gb54_54_p319.out Dearlier_52_class_24_p300.out
            have kclass_24_1__303_p319 := cell_other kclass_24_1__289_p300 Gb54_54_p319.out Dearlier_52_class_24_p300.out
            have ct_35_0__304_p319 := cell_other ct_35_0__290_p300 Gb54_54_p319.out (apart_old Oearlier_52_p300.out ltt_35)
            have ct_35_1__305_p319 := cell_other ct_35_1__291_p300 Gb54_54_p319.out (apart_old Oearlier_52_p300.out ltt_35)
            have ct_35_2__306_p319 := cell_other ct_35_2__292_p300 Gb54_54_p319.out (apart_old Oearlier_52_p300.out ltt_35)
            have ct_35_3__307_p319 := cell_other ct_35_3__293_p300 Gb54_54_p319.out (apart_old Oearlier_52_p300.out ltt_35)
            have ct_35_4__308_p319 := cell_other ct_35_4__294_p300 Gb54_54_p319.out (apart_old Oearlier_52_p300.out ltt_35)
            have klater_53_0_p286__309_p319 := cell_other klater_53_0_p286__295_p300 Gb54_54_p319.out Dearlier_52_later_53_p300.out
            have klater_53_1_p286__310_p319 := cell_other klater_53_1_p286__296_p300 Gb54_54_p319.out Dearlier_52_later_53_p300.out
            have klater_53_2_p286__311_p319 := cell_other klater_53_2_p286__297_p300 Gb54_54_p319.out Dearlier_52_later_53_p300.out
            have klater_53_3_p286__312_p319 := cell_other klater_53_3_p286__298_p300 Gb54_54_p319.out Dearlier_52_later_53_p300.out
            have klater_53_4_p286__313_p319 := cell_other klater_53_4_p286__299_p300 Gb54_54_p319.out Dearlier_52_later_53_p300.out
            have Olater_53_p286_p300_p319 := Lib.hid (own_other Olater_53_p286_p300.out Gb54_54_p319.out Dearlier_52_later_53_p300.out)
            have kearlier_52_0_p300__314_p319 : wb54_54_p319.cell? ⟨w_earlier_52_p225.heap.size, 0, none⟩ = some (.int .i64 t_35_zone) := Pb54_54_p319.out.cells rfl 0 _ rfl
            have kearlier_52_1_p300__315_p319 : wb54_54_p319.cell? ⟨w_earlier_52_p225.heap.size, 1, none⟩ = some (.int .i64 t_35_grams) := Pb54_54_p319.out.cells rfl 1 _ rfl
            have kearlier_52_2_p300__316_p319 : wb54_54_p319.cell? ⟨w_earlier_52_p225.heap.size, 2, none⟩ = some (.int .i64 t_35_from_) := Pb54_54_p319.out.cells rfl 2 _ rfl
            have kearlier_52_3_p300__317_p319 : wb54_54_p319.cell? ⟨w_earlier_52_p225.heap.size, 3, none⟩ = some (.int .i64 t_35_until_) := Pb54_54_p319.out.cells rfl 3 _ rfl
            have kearlier_52_4_p300__318_p319 : wb54_54_p319.cell? ⟨w_earlier_52_p225.heap.size, 4, none⟩ = some (.int .i64 t_35_cents) := Pb54_54_p319.out.cells rfl 4 _ rfl
            obtain ⟨wb55_55_p338, hwb55_55_p338⟩ : ∃ x, (((((wb54_54_p319).setCell ⟨wt_28.heap.size, 0, none⟩ (.int .i64 t_35_zone)).setCell ⟨wt_28.heap.size, 1, none⟩ (.int .i64 t_35_grams)).setCell ⟨wt_28.heap.size, 2, none⟩ (.int .i64 t_35_from_)).setCell ⟨wt_28.heap.size, 3, none⟩ (.int .i64 t_35_until_)).setCell ⟨wt_28.heap.size, 4, none⟩ (.int .i64 t_35_cents) = x := ⟨_, rfl⟩
            have z0b55_55_p338 := Olater_53_p286_p300_p319.out.frozenAt 0
            have z1b55_55_p338 := Olater_53_p286_p300_p319.out.frozenAt 1
            have z2b55_55_p338 := Olater_53_p286_p300_p319.out.frozenAt 2
            have z3b55_55_p338 := Olater_53_p286_p300_p319.out.frozenAt 3
            have z4b55_55_p338 := Olater_53_p286_p300_p319.out.frozenAt 4
            have Sb55_55_p338 := Lib.hid (own_stores [(0, .int .i64 t_35_zone), (1, .int .i64 t_35_grams), (2, .int .i64 t_35_from_), (3, .int .i64 t_35_until_), (4, .int .i64 t_35_cents)] Olater_53_p286_p300_p319.out)
            have Pb55_55_p338 : Hid (wb55_55_p338.ownsRow w.heap.size 104 5 (.slice (some ⟨wt_28.heap.size, 0, none⟩) 1 1) 1 [.int .i64 t_35_zone, .int .i64 t_35_grams, .int .i64 t_35_from_, .int .i64 t_35_until_, .int .i64 t_35_cents]) := Lib.hid (by rw [← hwb55_55_p338]; exact Sb55_55_p338.out.1)
            have Gb55_55_p338 : Hid (wb54_54_p319.grownBy wb55_55_p338 (Value.slice (some ⟨wt_28.heap.size, 0, none⟩) 1 1).ownBlock) := Lib.hid (by rw [← hwb55_55_p338]; exact Sb55_55_p338.out.2)
            have HBwb55_55_p338 := Lib.hid (HBwb54_54_p319.out.grown Gb55_55_p338.out HBwb54_54_p319.out.size (fun q hq => (Olater_53_p286_p300_p319.out.lt q hq).1))
            have kday_0_0__320_p338 := cell_other kday_0_0__301_p319 Gb55_55_p338.out Dlater_53_day_0_p286.out
            have kclass_24_0__321_p338 := cell_other kclass_24_0__302_p319 Gb55_55_p338.out Dlater_53_class_24_p286.out
            have kclass_24_1__322_p338 := cell_other kclass_24_1__303_p319 Gb55_55_p338.out Dlater_53_class_24_p286.out
            have ct_35_0__323_p338 := cell_other ct_35_0__304_p319 Gb55_55_p338.out (apart_old Olater_53_p286_p300_p319.out ltt_35)
            have ct_35_1__324_p338 := cell_other ct_35_1__305_p319 Gb55_55_p338.out (apart_old Olater_53_p286_p300_p319.out ltt_35)
            have ct_35_2__325_p338 := cell_other ct_35_2__306_p319 Gb55_55_p338.out (apart_old Olater_53_p286_p300_p319.out ltt_35)
            have ct_35_3__326_p338 := cell_other ct_35_3__307_p319 Gb55_55_p338.out (apart_old Olater_53_p286_p300_p319.out ltt_35)
            have ct_35_4__327_p338 := cell_other ct_35_4__308_p319 Gb55_55_p338.out (apart_old Olater_53_p286_p300_p319.out ltt_35)
            have kearlier_52_0_p300__328_p338 := cell_other kearlier_52_0_p300__314_p319 Gb55_55_p338.out (Apart.symm Dearlier_52_later_53_p300.out)
            have kearlier_52_1_p300__329_p338 := cell_other kearlier_52_1_p300__315_p319 Gb55_55_p338.out (Apart.symm Dearlier_52_later_53_p300.out)
            have kearlier_52_2_p300__330_p338 := cell_other kearlier_52_2_p300__316_p319 Gb55_55_p338.out (Apart.symm Dearlier_52_later_53_p300.out)
            have kearlier_52_3_p300__331_p338 := cell_other kearlier_52_3_p300__317_p319 Gb55_55_p338.out (Apart.symm Dearlier_52_later_53_p300.out)
            have kearlier_52_4_p300__332_p338 := cell_other kearlier_52_4_p300__318_p319 Gb55_55_p338.out (Apart.symm Dearlier_52_later_53_p300.out)
            have Pb54_54_p319_p338 := Lib.hid (own_other Pb54_54_p319.out Gb55_55_p338.out (Apart.symm Dearlier_52_later_53_p300.out))
            have klater_53_0_p286__333_p338 : wb55_55_p338.cell? ⟨wt_28.heap.size, 0, none⟩ = some (.int .i64 t_35_zone) := Pb55_55_p338.out.cells rfl 0 _ rfl
            have klater_53_1_p286__334_p338 : wb55_55_p338.cell? ⟨wt_28.heap.size, 1, none⟩ = some (.int .i64 t_35_grams) := Pb55_55_p338.out.cells rfl 1 _ rfl
            have klater_53_2_p286__335_p338 : wb55_55_p338.cell? ⟨wt_28.heap.size, 2, none⟩ = some (.int .i64 t_35_from_) := Pb55_55_p338.out.cells rfl 2 _ rfl
            have klater_53_3_p286__336_p338 : wb55_55_p338.cell? ⟨wt_28.heap.size, 3, none⟩ = some (.int .i64 t_35_until_) := Pb55_55_p338.out.cells rfl 3 _ rfl
            have klater_53_4_p286__337_p338 : wb55_55_p338.cell? ⟨wt_28.heap.size, 4, none⟩ = some (.int .i64 t_35_cents) := Pb55_55_p338.out.cells rfl 4 _ rfl
            go_region_held3 (fun w' => w'.cell? ⟨w.heap.size, 0, none⟩ = some (.int .i64 day) ∧ w'.cell? ⟨wt_15.heap.size, 0, none⟩ = some (.int .i64 zone) ∧ w'.cell? ⟨wt_15.heap.size, 1, none⟩ = some (.int .i64 grams) ∧ w'.cell? ⟨ab_t_35, ao_t_35 + nt_35 * 5, none⟩ = some (.int .i64 t_35_zone) ∧ w'.cell? ⟨ab_t_35, ao_t_35 + nt_35 * 5 + 1, none⟩ = some (.int .i64 t_35_grams) ∧ w'.cell? ⟨ab_t_35, ao_t_35 + nt_35 * 5 + 2, none⟩ = some (.int .i64 t_35_from_) ∧ w'.cell? ⟨ab_t_35, ao_t_35 + nt_35 * 5 + 3, none⟩ = some (.int .i64 t_35_until_) ∧ w'.cell? ⟨ab_t_35, ao_t_35 + nt_35 * 5 + 4, none⟩ = some (.int .i64 t_35_cents)) (first | exact ⟨kday_0_0__158, kclass_24_0, kclass_24_1, ct_35_0, ct_35_1, ct_35_2, ct_35_3, ct_35_4⟩ | exact ⟨kday_0_0__217_p225, kclass_24_0__218_p225, kclass_24_1__219_p225, ct_35_0__220_p225, ct_35_1__221_p225, ct_35_2__222_p225, ct_35_3__223_p225, ct_35_4__224_p225⟩ | exact ⟨kday_0_0__226_p239, kclass_24_0__227_p239, kclass_24_1__228_p239, ct_35_0__229_p239, ct_35_1__230_p239, ct_35_2__231_p239, ct_35_3__232_p239, ct_35_4__233_p239⟩ | exact ⟨kday_0_0__240_p258, kclass_24_0__241_p258, kclass_24_1__242_p258, ct_35_0__243_p258, ct_35_1__244_p258, ct_35_2__245_p258, ct_35_3__246_p258, ct_35_4__247_p258⟩ | exact ⟨kday_0_0__259_p277, kclass_24_0__260_p277, kclass_24_1__261_p277, ct_35_0__262_p277, ct_35_1__263_p277, ct_35_2__264_p277, ct_35_3__265_p277, ct_35_4__266_p277⟩ | exact ⟨kday_0_0__278_p286, kclass_24_0__279_p286, kclass_24_1__280_p286, ct_35_0__281_p286, ct_35_1__282_p286, ct_35_2__283_p286, ct_35_3__284_p286, ct_35_4__285_p286⟩ | exact ⟨kday_0_0__287_p300, kclass_24_0__288_p300, kclass_24_1__289_p300, ct_35_0__290_p300, ct_35_1__291_p300, ct_35_2__292_p300, ct_35_3__293_p300, ct_35_4__294_p300⟩ | exact ⟨kday_0_0__301_p319, kclass_24_0__302_p319, kclass_24_1__303_p319, ct_35_0__304_p319, ct_35_1__305_p319, ct_35_2__306_p319, ct_35_3__307_p319, ct_35_4__308_p319⟩ | exact ⟨kday_0_0__320_p338, kclass_24_0__321_p338, kclass_24_1__322_p338, ct_35_0__323_p338, ct_35_1__324_p338, ct_35_2__325_p338, ct_35_3__326_p338, ct_35_4__327_p338⟩)
                (first
                  | fail)
            · skip
              replace H := let_hid H
              obtain ⟨t_57, ht_57, H⟩ := H
              obtain ⟨wb59_59, hwb59_59⟩ : ∃ x, (wb55_55_p277).setCell ⟨wt_28.heap.size, 3, none⟩ (.int .i64 t_57) = x := ⟨_, rfl⟩
              have z0b59_59 := Pb54_54_p258_p277.out.frozenAt 3
              have Sb59_59 := Lib.hid (own_stores [(3, .int .i64 t_57)] Pb54_54_p258_p277.out)
              have Pb59_59 : Hid (wb59_59.ownsRow w.heap.size 104 5 (.slice (some ⟨wt_28.heap.size, 0, none⟩) 1 1) 1 [.int .i64 t_35_zone, .int .i64 t_35_grams, .int .i64 t_35_from_, .int .i64 t_57, .int .i64 t_35_cents]) := Lib.hid (by rw [← hwb59_59]; exact Sb59_59.out.1)
              have Gb59_59 : Hid (wb55_55_p277.grownBy wb59_59 (Value.slice (some ⟨wt_28.heap.size, 0, none⟩) 1 1).ownBlock) := Lib.hid (by rw [← hwb59_59]; exact Sb59_59.out.2)
              have HBwb59_59 := Lib.hid (HBwb55_55_p277.out.grown Gb59_59.out HBwb55_55_p277.out.size (fun q hq => (Pb54_54_p258_p277.out.lt q hq).1))
              clear Sb59_59
              have kday_0_0__339 := cell_other kday_0_0__259_p277 Gb59_59.out Dearlier_52_day_0_p225.out
              have kclass_24_0__340 := cell_other kclass_24_0__260_p277 Gb59_59.out Dearlier_52_class_24_p225.out
              have kclass_24_1__341 := cell_other kclass_24_1__261_p277 Gb59_59.out Dearlier_52_class_24_p225.out
              have ct_35_0__342 := cell_other ct_35_0__262_p277 Gb59_59.out (apart_old Pb54_54_p258_p277.out ltt_35)
              have ct_35_1__343 := cell_other ct_35_1__263_p277 Gb59_59.out (apart_old Pb54_54_p258_p277.out ltt_35)
              have ct_35_2__344 := cell_other ct_35_2__264_p277 Gb59_59.out (apart_old Pb54_54_p258_p277.out ltt_35)
              have ct_35_3__345 := cell_other ct_35_3__265_p277 Gb59_59.out (apart_old Pb54_54_p258_p277.out ltt_35)
              have ct_35_4__346 := cell_other ct_35_4__266_p277 Gb59_59.out (apart_old Pb54_54_p258_p277.out ltt_35)
              have klater_53_0_p239__347 := cell_other klater_53_0_p239__272_p277 Gb59_59.out (Apart.symm Dlater_53_earlier_52_p239.out)
              have klater_53_1_p239__348 := cell_other klater_53_1_p239__273_p277 Gb59_59.out (Apart.symm Dlater_53_earlier_52_p239.out)
              have klater_53_2_p239__349 := cell_other klater_53_2_p239__274_p277 Gb59_59.out (Apart.symm Dlater_53_earlier_52_p239.out)
              have klater_53_3_p239__350 := cell_other klater_53_3_p239__275_p277 Gb59_59.out (Apart.symm Dlater_53_earlier_52_p239.out)
              have klater_53_4_p239__351 := cell_other klater_53_4_p239__276_p277 Gb59_59.out (Apart.symm Dlater_53_earlier_52_p239.out)
              replace Pb55_55_p277 := Lib.hid (own_other Pb55_55_p277.out Gb59_59.out (Apart.symm Dlater_53_earlier_52_p239.out))
              clear Pb54_54_p258_p277 Gb59_59
              have kearlier_52_0_p225__352 : wb59_59.cell? ⟨wt_28.heap.size, 0, none⟩ = some (.int .i64 t_35_zone) := Pb59_59.out.cells rfl 0 _ rfl
              have kearlier_52_1_p225__353 : wb59_59.cell? ⟨wt_28.heap.size, 1, none⟩ = some (.int .i64 t_35_grams) := Pb59_59.out.cells rfl 1 _ rfl
              have kearlier_52_2_p225__354 : wb59_59.cell? ⟨wt_28.heap.size, 2, none⟩ = some (.int .i64 t_35_from_) := Pb59_59.out.cells rfl 2 _ rfl
              have kearlier_52_3_p225__355 : wb59_59.cell? ⟨wt_28.heap.size, 3, none⟩ = some (.int .i64 t_57) := Pb59_59.out.cells rfl 3 _ rfl
              have kearlier_52_4_p225__356 : wb59_59.cell? ⟨wt_28.heap.size, 4, none⟩ = some (.int .i64 t_35_cents) := Pb59_59.out.cells rfl 4 _ rfl
              obtain ⟨wb62_62, hwb62_62⟩ : ∃ x, (wb59_59).setCell ⟨w_earlier_52_p225.heap.size, 2, none⟩ (.int .i64 day) = x := ⟨_, rfl⟩
              have z0b62_62 := Pb55_55_p277.out.frozenAt 2
              have Sb62_62 := Lib.hid (own_stores [(2, .int .i64 day)] Pb55_55_p277.out)
              have Pb62_62 : Hid (wb62_62.ownsRow w.heap.size 104 5 (.slice (some ⟨w_earlier_52_p225.heap.size, 0, none⟩) 1 1) 1 [.int .i64 t_35_zone, .int .i64 t_35_grams, .int .i64 day, .int .i64 t_35_until_, .int .i64 t_35_cents]) := Lib.hid (by rw [← hwb62_62]; exact Sb62_62.out.1)
              have Gb62_62 : Hid (wb59_59.grownBy wb62_62 (Value.slice (some ⟨w_earlier_52_p225.heap.size, 0, none⟩) 1 1).ownBlock) := Lib.hid (by rw [← hwb62_62]; exact Sb62_62.out.2)
              have HBwb62_62 := Lib.hid (HBwb59_59.out.grown Gb62_62.out HBwb59_59.out.size (fun q hq => (Pb55_55_p277.out.lt q hq).1))
              clear Sb62_62
              have kday_0_0__357 := cell_other kday_0_0__339 Gb62_62.out Dlater_53_day_0_p239.out
              have kclass_24_0__358 := cell_other kclass_24_0__340 Gb62_62.out Dlater_53_class_24_p239.out
              have kclass_24_1__359 := cell_other kclass_24_1__341 Gb62_62.out Dlater_53_class_24_p239.out
              have ct_35_0__360 := cell_other ct_35_0__342 Gb62_62.out (apart_old Pb55_55_p277.out ltt_35)
              have ct_35_1__361 := cell_other ct_35_1__343 Gb62_62.out (apart_old Pb55_55_p277.out ltt_35)
              have ct_35_2__362 := cell_other ct_35_2__344 Gb62_62.out (apart_old Pb55_55_p277.out ltt_35)
              have ct_35_3__363 := cell_other ct_35_3__345 Gb62_62.out (apart_old Pb55_55_p277.out ltt_35)
              have ct_35_4__364 := cell_other ct_35_4__346 Gb62_62.out (apart_old Pb55_55_p277.out ltt_35)
              have kearlier_52_0_p225__365 := cell_other kearlier_52_0_p225__352 Gb62_62.out Dlater_53_earlier_52_p239.out
              have kearlier_52_1_p225__366 := cell_other kearlier_52_1_p225__353 Gb62_62.out Dlater_53_earlier_52_p239.out
              have kearlier_52_2_p225__367 := cell_other kearlier_52_2_p225__354 Gb62_62.out Dlater_53_earlier_52_p239.out
              have kearlier_52_3_p225__368 := cell_other kearlier_52_3_p225__355 Gb62_62.out Dlater_53_earlier_52_p239.out
              have kearlier_52_4_p225__369 := cell_other kearlier_52_4_p225__356 Gb62_62.out Dlater_53_earlier_52_p239.out
              replace Pb59_59 := Lib.hid (own_other Pb59_59.out Gb62_62.out Dlater_53_earlier_52_p239.out)
              clear Pb55_55_p277 Gb62_62
              have klater_53_0_p239__370 : wb62_62.cell? ⟨w_earlier_52_p225.heap.size, 0, none⟩ = some (.int .i64 t_35_zone) := Pb62_62.out.cells rfl 0 _ rfl
              have klater_53_1_p239__371 : wb62_62.cell? ⟨w_earlier_52_p225.heap.size, 1, none⟩ = some (.int .i64 t_35_grams) := Pb62_62.out.cells rfl 1 _ rfl
              have klater_53_2_p239__372 : wb62_62.cell? ⟨w_earlier_52_p225.heap.size, 2, none⟩ = some (.int .i64 day) := Pb62_62.out.cells rfl 2 _ rfl
              have klater_53_3_p239__373 : wb62_62.cell? ⟨w_earlier_52_p225.heap.size, 3, none⟩ = some (.int .i64 t_35_until_) := Pb62_62.out.cells rfl 3 _ rfl
              have klater_53_4_p239__374 : wb62_62.cell? ⟨w_earlier_52_p225.heap.size, 4, none⟩ = some (.int .i64 t_35_cents) := Pb62_62.out.cells rfl 4 _ rfl
              obtain ⟨wb65_65, hwb65_65⟩ : ∃ x, (wb62_62).setCell ⟨w_earlier_52_p225.heap.size, 4, none⟩ (.int .i64 cents) = x := ⟨_, rfl⟩
              have z0b65_65 := Pb62_62.out.frozenAt 4
              have Sb65_65 := Lib.hid (own_stores [(4, .int .i64 cents)] Pb62_62.out)
              have Pb65_65 : Hid (wb65_65.ownsRow w.heap.size 104 5 (.slice (some ⟨w_earlier_52_p225.heap.size, 0, none⟩) 1 1) 1 [.int .i64 t_35_zone, .int .i64 t_35_grams, .int .i64 day, .int .i64 t_35_until_, .int .i64 cents]) := Lib.hid (by rw [← hwb65_65]; exact Sb65_65.out.1)
              have Gb65_65 : Hid (wb62_62.grownBy wb65_65 (Value.slice (some ⟨w_earlier_52_p225.heap.size, 0, none⟩) 1 1).ownBlock) := Lib.hid (by rw [← hwb65_65]; exact Sb65_65.out.2)
              have HBwb65_65 := Lib.hid (HBwb62_62.out.grown Gb65_65.out HBwb62_62.out.size (fun q hq => (Pb62_62.out.lt q hq).1))
              clear Sb65_65
              have kday_0_0__375 := cell_other kday_0_0__357 Gb65_65.out Dlater_53_day_0_p239.out
              have kclass_24_0__376 := cell_other kclass_24_0__358 Gb65_65.out Dlater_53_class_24_p239.out
              have kclass_24_1__377 := cell_other kclass_24_1__359 Gb65_65.out Dlater_53_class_24_p239.out
              have ct_35_0__378 := cell_other ct_35_0__360 Gb65_65.out (apart_old Pb62_62.out ltt_35)
              have ct_35_1__379 := cell_other ct_35_1__361 Gb65_65.out (apart_old Pb62_62.out ltt_35)
              have ct_35_2__380 := cell_other ct_35_2__362 Gb65_65.out (apart_old Pb62_62.out ltt_35)
              have ct_35_3__381 := cell_other ct_35_3__363 Gb65_65.out (apart_old Pb62_62.out ltt_35)
              have ct_35_4__382 := cell_other ct_35_4__364 Gb65_65.out (apart_old Pb62_62.out ltt_35)
              have kearlier_52_0_p225__383 := cell_other kearlier_52_0_p225__365 Gb65_65.out Dlater_53_earlier_52_p239.out
              have kearlier_52_1_p225__384 := cell_other kearlier_52_1_p225__366 Gb65_65.out Dlater_53_earlier_52_p239.out
              have kearlier_52_2_p225__385 := cell_other kearlier_52_2_p225__367 Gb65_65.out Dlater_53_earlier_52_p239.out
              have kearlier_52_3_p225__386 := cell_other kearlier_52_3_p225__368 Gb65_65.out Dlater_53_earlier_52_p239.out
              have kearlier_52_4_p225__387 := cell_other kearlier_52_4_p225__369 Gb65_65.out Dlater_53_earlier_52_p239.out
              replace Pb59_59 := Lib.hid (own_other Pb59_59.out Gb65_65.out Dlater_53_earlier_52_p239.out)
              clear Pb62_62 Gb65_65
              have klater_53_0_p239__388 : wb65_65.cell? ⟨w_earlier_52_p225.heap.size, 0, none⟩ = some (.int .i64 t_35_zone) := Pb65_65.out.cells rfl 0 _ rfl
              have klater_53_1_p239__389 : wb65_65.cell? ⟨w_earlier_52_p225.heap.size, 1, none⟩ = some (.int .i64 t_35_grams) := Pb65_65.out.cells rfl 1 _ rfl
              have klater_53_2_p239__390 : wb65_65.cell? ⟨w_earlier_52_p225.heap.size, 2, none⟩ = some (.int .i64 day) := Pb65_65.out.cells rfl 2 _ rfl
              have klater_53_3_p239__391 : wb65_65.cell? ⟨w_earlier_52_p225.heap.size, 3, none⟩ = some (.int .i64 t_35_until_) := Pb65_65.out.cells rfl 3 _ rfl
              have klater_53_4_p239__392 : wb65_65.cell? ⟨w_earlier_52_p225.heap.size, 4, none⟩ = some (.int .i64 cents) := Pb65_65.out.cells rfl 4 _ rfl
              go_wp2_with fail
              clear z0b59_59 kday_0_0__259_p277 kclass_24_0__260_p277 kclass_24_1__261_p277 ct_35_0__262_p277 ct_35_1__263_p277 ct_35_2__264_p277 ct_35_3__265_p277 ct_35_4__266_p277 klater_53_0_p239__272_p277 klater_53_1_p239__273_p277 klater_53_2_p239__274_p277 klater_53_3_p239__275_p277 klater_53_4_p239__276_p277 kearlier_52_0_p225__267_p277 kearlier_52_1_p225__268_p277 kearlier_52_2_p225__269_p277 kearlier_52_3_p225__270_p277 kearlier_52_4_p225__271_p277 z0b62_62 kday_0_0__339 kclass_24_0__340 kclass_24_1__341 ct_35_0__342 ct_35_1__343 ct_35_2__344 ct_35_3__345 ct_35_4__346 kearlier_52_0_p225__352 kearlier_52_1_p225__353 kearlier_52_2_p225__354 kearlier_52_3_p225__355 kearlier_52_4_p225__356 klater_53_0_p239__347 klater_53_1_p239__348 klater_53_2_p239__349 klater_53_3_p239__350 klater_53_4_p239__351 z0b65_65 kday_0_0__357 kclass_24_0__358 kclass_24_1__359 ct_35_0__360 ct_35_1__361 ct_35_2__362 ct_35_3__363 ct_35_4__364 kearlier_52_0_p225__365 kearlier_52_1_p225__366 kearlier_52_2_p225__367 kearlier_52_3_p225__368 kearlier_52_4_p225__369 klater_53_0_p239__370 klater_53_1_p239__371 klater_53_2_p239__372 klater_53_3_p239__373 klater_53_4_p239__374
              have bd11 : Below wb65_65.heap.size wb65_65 wb65_65.drew := (Below.refl _ _).drew
              have HBwb65_65.drew := Lib.hid (Below.step HBwb65_65.out bd11)
              replace kday_0_0__375 := cell_below bd11 kday_0_0__375
              replace kclass_24_0__376 := cell_below bd11 kclass_24_0__376
              replace kclass_24_1__377 := cell_below bd11 kclass_24_1__377
              replace ct_35_0__378 := cell_below bd11 ct_35_0__378
              replace ct_35_1__379 := cell_below bd11 ct_35_1__379
              replace ct_35_2__380 := cell_below bd11 ct_35_2__380
              replace ct_35_3__381 := cell_below bd11 ct_35_3__381
              replace ct_35_4__382 := cell_below bd11 ct_35_4__382
              replace kearlier_52_0_p225__383 := cell_below bd11 kearlier_52_0_p225__383
              replace kearlier_52_1_p225__384 := cell_below bd11 kearlier_52_1_p225__384
              replace kearlier_52_2_p225__385 := cell_below bd11 kearlier_52_2_p225__385
              replace kearlier_52_3_p225__386 := cell_below bd11 kearlier_52_3_p225__386
              replace kearlier_52_4_p225__387 := cell_below bd11 kearlier_52_4_p225__387
              replace klater_53_0_p239__388 := cell_below bd11 klater_53_0_p239__388
              replace klater_53_1_p239__389 := cell_below bd11 klater_53_1_p239__389
              replace klater_53_2_p239__390 := cell_below bd11 klater_53_2_p239__390
              replace klater_53_3_p239__391 := cell_below bd11 klater_53_3_p239__391
              replace klater_53_4_p239__392 := cell_below bd11 klater_53_4_p239__392
              replace Pb59_59 := Lib.hid (own_below Pb59_59.out bd11)
              replace Pb65_65 := Lib.hid (own_below Pb65_65.out bd11)
              clear bd11
              replace H := guard_hid H
              obtain ⟨hl_t_68, H⟩ := H
              replace H := let_hid H
              obtain ⟨t_68, ht_68, H⟩ := H
              have dt_68 : ((Go.Proofs.Ytlljmgphgmklcaa.PRate.flat list)).take (Int.toNat (nt_35 : Int) * 5) = (Go.Proofs.Ytlljmgphgmklcaa.PRate.flat t_68) := by
                rw [← ht_68]
                exact flat_take Go.Proofs.Ytlljmgphgmklcaa.PRate.Rate.cells 5 (fun _ => rfl) _ _
              have nt_68 : Int.toNat (nt_35 : Int) = t_68.length := by rw [← ht_68, List.length_take]; omega
              obtain ⟨rt_68, Mt_68, Qt_68⟩ := slice_headB (P := Try.prog) (t := 41) (e := 104) (k := .i64) (by kernel_rfl) (by kernel_rfl) hi_104 hz1_104 M0.out Q0.out hl_t_68 nt_68 dt_68
              have Nt_68 : Hid (t_68.length ≤ 9223372036854775807) := Lib.hid (by have := N0.out; omega)
              replace Mt_68 := Lib.hid Mt_68
              replace Qt_68 := Lib.hid Qt_68
              clear dt_68 nt_68 hl_t_68
              have hht_68 := Lib.hid ht_68
              clear ht_68
              replace H := let_hid H
              obtain ⟨t_71, ht_71, H⟩ := H
              obtain ⟨w_t_71, hw_t_71⟩ : ∃ x, wb65_65.drew.alloc (.cells #[.int .i64 t_35_zone, .int .i64 t_35_grams, .int .i64 t_35_from_, .int .i64 t_57, .int .i64 t_35_cents, .int .i64 t_35_zone, .int .i64 t_35_grams, .int .i64 day, .int .i64 t_35_until_, .int .i64 cents] 104) = x := ⟨_, rfl⟩
              have bw_t_71 : Below wb65_65.drew.heap.size wb65_65.drew w_t_71 := by rw [← hw_t_71]; exact (Below.refl _ _).alloc (Nat.le_refl _) _
              have hs_t_71 := HBwb65_65.drew.out.size
              have nt_71 : t_71.length = 2 := by rw [← ht_71]; rfl
              have Ot_71 : Hid (w_t_71.ownsRow w.heap.size 104 5 (.slice (some ⟨wb65_65.heap.size, 0, none⟩) 2 2) 2 (Go.Proofs.Ytlljmgphgmklcaa.PRate.flat t_71)) := by
                rw [← hw_t_71, ← ht_71]
                have e_ : ([.int .i64 t_35_zone, .int .i64 t_35_grams, .int .i64 t_35_from_, .int .i64 t_57, .int .i64 t_35_cents, .int .i64 t_35_zone, .int .i64 t_35_grams, .int .i64 day, .int .i64 t_35_until_, .int .i64 cents] : List Value) = (Go.Proofs.Ytlljmgphgmklcaa.PRate.flat ([(Go.Proofs.Ytlljmgphgmklcaa.PRate.Rate.mk t_35_zone t_35_grams t_35_from_ t_57 t_35_cents), (Go.Proofs.Ytlljmgphgmklcaa.PRate.Rate.mk t_35_zone t_35_grams day t_35_until_ cents)] : List Go.Proofs.Ytlljmgphgmklcaa.PRate.Rate)) := rfl
                exact Lib.hid (own_laid (n := 2) hs_t_71 e_ rfl (by unfold maxLen; omega))
              clear hs_t_71
              have hht_71 := Lib.hid ht_71
              clear ht_71
              replace nt_71 := Lib.hid nt_71
              have Dt_71_day_0 := Lib.hid (apart_box kday_0_0__375)
              have Dt_71_class_24 := Lib.hid (apart_box kclass_24_0__376)
              have Dt_71_earlier_52 := Lib.hid (apart_box kearlier_52_0_p225__383)
              have Dt_71_later_53 := Lib.hid (apart_box klater_53_0_p239__388)
              have HBw_t_71 := Lib.hid (Below.step HBwb65_65.drew.out bw_t_71)
              have kday_0_0__393 := cell_below bw_t_71 kday_0_0__375
              have kclass_24_0__394 := cell_below bw_t_71 kclass_24_0__376
              have kclass_24_1__395 := cell_below bw_t_71 kclass_24_1__377
              have ct_35_0__396 := cell_below bw_t_71 ct_35_0__378
              have ct_35_1__397 := cell_below bw_t_71 ct_35_1__379
              have ct_35_2__398 := cell_below bw_t_71 ct_35_2__380
              have ct_35_3__399 := cell_below bw_t_71 ct_35_3__381
              have ct_35_4__400 := cell_below bw_t_71 ct_35_4__382
              have kearlier_52_0_p225__401 := cell_below bw_t_71 kearlier_52_0_p225__383
              have kearlier_52_1_p225__402 := cell_below bw_t_71 kearlier_52_1_p225__384
              have kearlier_52_2_p225__403 := cell_below bw_t_71 kearlier_52_2_p225__385
              have kearlier_52_3_p225__404 := cell_below bw_t_71 kearlier_52_3_p225__386
              have kearlier_52_4_p225__405 := cell_below bw_t_71 kearlier_52_4_p225__387
              have klater_53_0_p239__406 := cell_below bw_t_71 klater_53_0_p239__388
              have klater_53_1_p239__407 := cell_below bw_t_71 klater_53_1_p239__389
              have klater_53_2_p239__408 := cell_below bw_t_71 klater_53_2_p239__390
              have klater_53_3_p239__409 := cell_below bw_t_71 klater_53_3_p239__391
              have klater_53_4_p239__410 := cell_below bw_t_71 klater_53_4_p239__392
              replace Pb59_59 := Lib.hid (own_below Pb59_59.out bw_t_71)
              replace Pb65_65 := Lib.hid (own_below Pb65_65.out bw_t_71)
              clear bw_t_71
              replace H := let_hid H
              obtain ⟨t_74, ht_74, H⟩ := H
              replace H := guard_hid H
              obtain ⟨hl_t_75, H⟩ := H
              replace H := let_hid H
              obtain ⟨t_75, ht_75, H⟩ := H
              have dt_75 : ((Go.Proofs.Ytlljmgphgmklcaa.PRate.flat list)).drop (Int.toNat t_74 * 5) = (Go.Proofs.Ytlljmgphgmklcaa.PRate.flat t_75) := by
                rw [← ht_75]
                exact flat_drop Go.Proofs.Ytlljmgphgmklcaa.PRate.Rate.cells 5 (fun _ => rfl) _ _
              have nt_75 : list.length - Int.toNat t_74 = t_75.length := by rw [← ht_75, List.length_drop]
              obtain ⟨At_75, ct_75, rt_75, Mt_75, Qt_75⟩ := slice_tail (P := Try.prog) (t := 41) (e := 104) (k := .i64) (by kernel_rfl) (by kernel_rfl) hi_104 hz1_104 M0.out Q0.out hl_t_75 nt_75 dt_75
              have Nt_75 : Hid (t_75.length ≤ 9223372036854775807) := Lib.hid (by have := N0.out; omega)
              replace Mt_75 := Lib.hid Mt_75
              replace Qt_75 := Lib.hid Qt_75
              clear dt_75 nt_75 hl_t_75
              have hht_75 := Lib.hid ht_75
              clear ht_75
              have Not_75 := Nt_75.out
              replace H := let_hid H
              obtain ⟨t_76, ht_76, H⟩ := H
              have hc1_ := nt_71.out
              have Ort_76_1 := Lib.hid (own_len hc1_ Ot_71.out)
              obtain ⟨w_t_76, hw_t_76⟩ : ∃ x, w_t_71.alloc (.cells #[.slice (some ⟨ab_t_35, ao_t_35, none⟩) t_68.length c0, .slice (some ⟨wb65_65.heap.size, 0, none⟩) 2 2, .slice At_75 t_75.length ct_75] 41) = x := ⟨_, rfl⟩
              have bw_t_76 : Below w_t_71.heap.size w_t_71 w_t_76 := by rw [← hw_t_76]; exact (Below.refl _ _).alloc (Nat.le_refl _) _
              have nt_76 : Hid (t_76.length = 3) := Lib.hid (by rw [← ht_76]; rfl)
              have Rt_76 : Hid (Go.Proofs.Ytlljmgphgmklcaa.GoN.ReadNest w_t_76 5 Go.Proofs.Ytlljmgphgmklcaa.PRate.flat (some ⟨w_t_71.heap.size, 0, none⟩) t_76) := Lib.hid (by rw [← hw_t_76, ← ht_76]; exact Go.Proofs.Ytlljmgphgmklcaa.GoN.read_lit3 rfl (by rw [hc1_]) rfl (Cells.below Mt_68.out HBw_t_71.out) Qt_68.out Nt_68.out (own_cells Ort_76_1.out) (own_room Ort_76_1.out) (own_max Ort_76_1.out) (Cells.below Mt_75.out HBw_t_71.out) Qt_75.out Nt_75.out)
              have Nt_76 : Hid (t_76.length ≤ 9223372036854775807) := Lib.hid (by rw [nt_76.out]; omega)
              have Qt_76 : Hid (Room (some ⟨w_t_71.heap.size, 0, none⟩) t_76.length 3) := Lib.hid (by rw [nt_76.out]; exact ⟨Nat.le_refl _, fun h_ => by simp at h_⟩)
              have hht_76 := Lib.hid ht_76
              clear ht_76
              have HBw_t_76 := Lib.hid (Below.step HBw_t_71.out bw_t_76)
              have kday_0_0__411 := cell_below bw_t_76 kday_0_0__393
              have kclass_24_0__412 := cell_below bw_t_76 kclass_24_0__394
              have kclass_24_1__413 := cell_below bw_t_76 kclass_24_1__395
              have ct_35_0__414 := cell_below bw_t_76 ct_35_0__396
              have ct_35_1__415 := cell_below bw_t_76 ct_35_1__397
              have ct_35_2__416 := cell_below bw_t_76 ct_35_2__398
              have ct_35_3__417 := cell_below bw_t_76 ct_35_3__399
              have ct_35_4__418 := cell_below bw_t_76 ct_35_4__400
              have kearlier_52_0_p225__419 := cell_below bw_t_76 kearlier_52_0_p225__401
              have kearlier_52_1_p225__420 := cell_below bw_t_76 kearlier_52_1_p225__402
              have kearlier_52_2_p225__421 := cell_below bw_t_76 kearlier_52_2_p225__403
              have kearlier_52_3_p225__422 := cell_below bw_t_76 kearlier_52_3_p225__404
              have kearlier_52_4_p225__423 := cell_below bw_t_76 kearlier_52_4_p225__405
              have klater_53_0_p239__424 := cell_below bw_t_76 klater_53_0_p239__406
              have klater_53_1_p239__425 := cell_below bw_t_76 klater_53_1_p239__407
              have klater_53_2_p239__426 := cell_below bw_t_76 klater_53_2_p239__408
              have klater_53_3_p239__427 := cell_below bw_t_76 klater_53_3_p239__409
              have klater_53_4_p239__428 := cell_below bw_t_76 klater_53_4_p239__410
              replace Ot_71 := Lib.hid (own_below Ot_71.out bw_t_76)
              replace Pb59_59 := Lib.hid (own_below Pb59_59.out bw_t_76)
              replace Pb65_65 := Lib.hid (own_below Pb65_65.out bw_t_76)
              clear bw_t_76
              replace H := bind_hid H
              obtain ⟨t_77, qt_77, H⟩ := H
              go_region_held3 (fun w' => w'.cell? ⟨w.heap.size, 0, none⟩ = some (.int .i64 day) ∧ w'.cell? ⟨wt_15.heap.size, 0, none⟩ = some (.int .i64 zone) ∧ w'.cell? ⟨wt_15.heap.size, 1, none⟩ = some (.int .i64 grams) ∧ w'.cell? ⟨ab_t_35, ao_t_35 + nt_35 * 5, none⟩ = some (.int .i64 t_35_zone) ∧ w'.cell? ⟨ab_t_35, ao_t_35 + nt_35 * 5 + 1, none⟩ = some (.int .i64 t_35_grams) ∧ w'.cell? ⟨ab_t_35, ao_t_35 + nt_35 * 5 + 2, none⟩ = some (.int .i64 t_35_from_) ∧ w'.cell? ⟨ab_t_35, ao_t_35 + nt_35 * 5 + 3, none⟩ = some (.int .i64 t_35_until_) ∧ w'.cell? ⟨ab_t_35, ao_t_35 + nt_35 * 5 + 4, none⟩ = some (.int .i64 t_35_cents) ∧ w'.cell? ⟨wt_28.heap.size, 0, none⟩ = some (.int .i64 t_35_zone) ∧ w'.cell? ⟨wt_28.heap.size, 1, none⟩ = some (.int .i64 t_35_grams) ∧ w'.cell? ⟨wt_28.heap.size, 2, none⟩ = some (.int .i64 t_35_from_) ∧ w'.cell? ⟨wt_28.heap.size, 3, none⟩ = some (.int .i64 t_57) ∧ w'.cell? ⟨wt_28.heap.size, 4, none⟩ = some (.int .i64 t_35_cents) ∧ w'.cell? ⟨w_earlier_52_p225.heap.size, 0, none⟩ = some (.int .i64 t_35_zone) ∧ w'.cell? ⟨w_earlier_52_p225.heap.size, 1, none⟩ = some (.int .i64 t_35_grams) ∧ w'.cell? ⟨w_earlier_52_p225.heap.size, 2, none⟩ = some (.int .i64 day) ∧ w'.cell? ⟨w_earlier_52_p225.heap.size, 3, none⟩ = some (.int .i64 t_35_until_) ∧ w'.cell? ⟨w_earlier_52_p225.heap.size, 4, none⟩ = some (.int .i64 cents)) (first | exact ⟨kday_0_0__375, kclass_24_0__376, kclass_24_1__377, ct_35_0__378, ct_35_1__379, ct_35_2__380, ct_35_3__381, ct_35_4__382, kearlier_52_0_p225__383, kearlier_52_1_p225__384, kearlier_52_2_p225__385, kearlier_52_3_p225__386, kearlier_52_4_p225__387, klater_53_0_p239__388, klater_53_1_p239__389, klater_53_2_p239__390, klater_53_3_p239__391, klater_53_4_p239__392⟩ | exact ⟨kday_0_0__393, kclass_24_0__394, kclass_24_1__395, ct_35_0__396, ct_35_1__397, ct_35_2__398, ct_35_3__399, ct_35_4__400, kearlier_52_0_p225__401, kearlier_52_1_p225__402, kearlier_52_2_p225__403, kearlier_52_3_p225__404, kearlier_52_4_p225__405, klater_53_0_p239__406, klater_53_1_p239__407, klater_53_2_p239__408, klater_53_3_p239__409, klater_53_4_p239__410⟩ | exact ⟨kday_0_0__411, kclass_24_0__412, kclass_24_1__413, ct_35_0__414, ct_35_1__415, ct_35_2__416, ct_35_3__417, ct_35_4__418, kearlier_52_0_p225__419, kearlier_52_1_p225__420, kearlier_52_2_p225__421, kearlier_52_3_p225__422, kearlier_52_4_p225__423, klater_53_0_p239__424, klater_53_1_p239__425, klater_53_2_p239__426, klater_53_3_p239__427, klater_53_4_p239__428⟩)
                  (first
                    | (have hc0_ := nt_76.out
                       have con_ := Go.Proofs.Ytlljmgphgmklcaa.GxSlicesConcatLoopExampleG01062ImplRateLoopExampleG01062ImplRate.C (t_76) (some ⟨w_t_71.heap.size, 0, none⟩) 3 _   (Lib.hid (Rt_76.out)) Nt_76 Qt_76 qt_77
                       rw [hc0_] at con_
                       clear hc0_
                       go_at_call 128
                       refine con_.mono ?_
                       rintro e_t_77 wt_77 ⟨At_77, ct_77, rfl, ot_77, bt_77⟩
                       have Dt_77_t_71 := Lib.hid (apart_call ot_77 Ot_71.out)
                       have Dt_77_day_0 := Lib.hid (apart_callbox ot_77 kday_0_0__411)
                       have Dt_77_class_24 := Lib.hid (apart_callbox ot_77 kclass_24_0__412)
                       have Dt_77_earlier_52 := Lib.hid (apart_callbox ot_77 kearlier_52_0_p225__419)
                       have Dt_77_later_53 := Lib.hid (apart_callbox ot_77 klater_53_0_p239__424)
                       have Ot_77 := Lib.hid (own_lower ot_77 HBw_t_76.out.size)
                       clear ot_77
                       have HBwt_77 := Lib.hid (Below.step HBw_t_76.out bt_77)
                       replace kday_0_0__411 := cell_below bt_77 kday_0_0__411
                       replace kclass_24_0__412 := cell_below bt_77 kclass_24_0__412
                       replace kclass_24_1__413 := cell_below bt_77 kclass_24_1__413
                       replace ct_35_0__414 := cell_below bt_77 ct_35_0__414
                       replace ct_35_1__415 := cell_below bt_77 ct_35_1__415
                       replace ct_35_2__416 := cell_below bt_77 ct_35_2__416
                       replace ct_35_3__417 := cell_below bt_77 ct_35_3__417
                       replace ct_35_4__418 := cell_below bt_77 ct_35_4__418
                       replace kearlier_52_0_p225__419 := cell_below bt_77 kearlier_52_0_p225__419
                       replace kearlier_52_1_p225__420 := cell_below bt_77 kearlier_52_1_p225__420
                       replace kearlier_52_2_p225__421 := cell_below bt_77 kearlier_52_2_p225__421
                       replace kearlier_52_3_p225__422 := cell_below bt_77 kearlier_52_3_p225__422
                       replace kearlier_52_4_p225__423 := cell_below bt_77 kearlier_52_4_p225__423
                       replace klater_53_0_p239__424 := cell_below bt_77 klater_53_0_p239__424
                       replace klater_53_1_p239__425 := cell_below bt_77 klater_53_1_p239__425
                       replace klater_53_2_p239__426 := cell_below bt_77 klater_53_2_p239__426
                       replace klater_53_3_p239__427 := cell_below bt_77 klater_53_3_p239__427
                       replace klater_53_4_p239__428 := cell_below bt_77 klater_53_4_p239__428
                       replace Ot_71 := Lib.hid (own_below Ot_71.out bt_77)
                       replace Pb59_59 := Lib.hid (own_below Pb59_59.out bt_77)
                       replace Pb65_65 := Lib.hid (own_below Pb65_65.out bt_77)
                       clear bt_77
                       clear qt_77))
              try clear kday_0_0__375
              try clear kclass_24_0__376
              try clear kclass_24_1__377
              try clear ct_35_0__378
              try clear ct_35_1__379
              try clear ct_35_2__380
              try clear ct_35_3__381
              try clear ct_35_4__382
              try clear kearlier_52_0_p225__383
              try clear kearlier_52_1_p225__384
              try clear kearlier_52_2_p225__385
              try clear kearlier_52_3_p225__386
              try clear kearlier_52_4_p225__387
              try clear klater_53_0_p239__388
              try clear klater_53_1_p239__389
              try clear klater_53_2_p239__390
              try clear klater_53_3_p239__391
              try clear klater_53_4_p239__392
              try clear kday_0_0__393
              try clear kclass_24_0__394
              try clear kclass_24_1__395
              try clear ct_35_0__396
              try clear ct_35_1__397
              try clear ct_35_2__398
              try clear ct_35_3__399
              try clear ct_35_4__400
              try clear kearlier_52_0_p225__401
              try clear kearlier_52_1_p225__402
              try clear kearlier_52_2_p225__403
              try clear kearlier_52_3_p225__404
              try clear kearlier_52_4_p225__405
              try clear klater_53_0_p239__406
              try clear klater_53_1_p239__407
              try clear klater_53_2_p239__408
              try clear klater_53_3_p239__409
              try clear klater_53_4_p239__410
              replace H := bind_hid H
              obtain ⟨t_80, qt_80, H⟩ := H
              go_wp2_with fail
              go_at_call 67
              refine (Go.Proofs.Ytlljmgphgmklcaa.GiAreRates.C (t_77) At_77 ct_77 _   (Lib.hid (own_cells Ot_77.out)) (Lib.hid (own_max Ot_77.out)) qt_80).mono ?_
              rintro e_t_80 wt_80 ⟨rfl, bt_80⟩
              have HBwt_80 := Lib.hid (Below.step HBwt_77.out bt_80)
              replace kday_0_0__411 := cell_below bt_80 kday_0_0__411
              replace kclass_24_0__412 := cell_below bt_80 kclass_24_0__412
              replace kclass_24_1__413 := cell_below bt_80 kclass_24_1__413
              replace ct_35_0__414 := cell_below bt_80 ct_35_0__414
              replace ct_35_1__415 := cell_below bt_80 ct_35_1__415
              replace ct_35_2__416 := cell_below bt_80 ct_35_2__416
              replace ct_35_3__417 := cell_below bt_80 ct_35_3__417
              replace ct_35_4__418 := cell_below bt_80 ct_35_4__418
              replace kearlier_52_0_p225__419 := cell_below bt_80 kearlier_52_0_p225__419
              replace kearlier_52_1_p225__420 := cell_below bt_80 kearlier_52_1_p225__420
              replace kearlier_52_2_p225__421 := cell_below bt_80 kearlier_52_2_p225__421
              replace kearlier_52_3_p225__422 := cell_below bt_80 kearlier_52_3_p225__422
              replace kearlier_52_4_p225__423 := cell_below bt_80 kearlier_52_4_p225__423
              replace klater_53_0_p239__424 := cell_below bt_80 klater_53_0_p239__424
              replace klater_53_1_p239__425 := cell_below bt_80 klater_53_1_p239__425
              replace klater_53_2_p239__426 := cell_below bt_80 klater_53_2_p239__426
              replace klater_53_3_p239__427 := cell_below bt_80 klater_53_3_p239__427
              replace klater_53_4_p239__428 := cell_below bt_80 klater_53_4_p239__428
              replace Ot_71 := Lib.hid (own_below Ot_71.out bt_80)
              replace Ot_77 := Lib.hid (own_below Ot_77.out bt_80)
              replace Pb59_59 := Lib.hid (own_below Pb59_59.out bt_80)
              replace Pb65_65 := Lib.hid (own_below Pb65_65.out bt_80)
              clear bt_80
              cases t_80 with
              | false =>
                replace H := let_hid H
                obtain ⟨t_81, ht_81, H⟩ := H
                obtain rfl : t_81 = true := ht_81.symm
                replace H := ite_t H
                obtain ⟨w_t_82, hw_t_82⟩ : ∃ x, wt_80.alloc (.cells #[] 104) = x := ⟨_, rfl⟩
                have bw_t_82 : Below wt_80.heap.size wt_80 w_t_82 := by rw [← hw_t_82]; exact (Below.refl _ _).alloc (Nat.le_refl _) _
                have Ot_82 : Hid (w_t_82.ownsRow w.heap.size 104 5 (.slice (some ⟨wt_80.heap.size, 0, none⟩) 0 0) 0 []) := Lib.hid (by rw [← hw_t_82]; exact own_empty HBwt_80.out.size)
                have Dt_82_t_71 := Lib.hid (apart_fresh Ot_71.out)
                have Dt_82_t_77 := Lib.hid (apart_fresh Ot_77.out)
                have Dt_82_day_0 := Lib.hid (apart_box kday_0_0__411)
                have Dt_82_class_24 := Lib.hid (apart_box kclass_24_0__412)
                have Dt_82_earlier_52 := Lib.hid (apart_box kearlier_52_0_p225__419)
                have Dt_82_later_53 := Lib.hid (apart_box klater_53_0_p239__424)
                have HBw_t_82 := Lib.hid (Below.step HBwt_80.out bw_t_82)
                have kday_0_0__429 := cell_below bw_t_82 kday_0_0__411
                have kclass_24_0__430 := cell_below bw_t_82 kclass_24_0__412
                have kclass_24_1__431 := cell_below bw_t_82 kclass_24_1__413
                have ct_35_0__432 := cell_below bw_t_82 ct_35_0__414
                have ct_35_1__433 := cell_below bw_t_82 ct_35_1__415
                have ct_35_2__434 := cell_below bw_t_82 ct_35_2__416
                have ct_35_3__435 := cell_below bw_t_82 ct_35_3__417
                have ct_35_4__436 := cell_below bw_t_82 ct_35_4__418
                have kearlier_52_0_p225__437 := cell_below bw_t_82 kearlier_52_0_p225__419
                have kearlier_52_1_p225__438 := cell_below bw_t_82 kearlier_52_1_p225__420
                have kearlier_52_2_p225__439 := cell_below bw_t_82 kearlier_52_2_p225__421
                have kearlier_52_3_p225__440 := cell_below bw_t_82 kearlier_52_3_p225__422
                have kearlier_52_4_p225__441 := cell_below bw_t_82 kearlier_52_4_p225__423
                have klater_53_0_p239__442 := cell_below bw_t_82 klater_53_0_p239__424
                have klater_53_1_p239__443 := cell_below bw_t_82 klater_53_1_p239__425
                have klater_53_2_p239__444 := cell_below bw_t_82 klater_53_2_p239__426
                have klater_53_3_p239__445 := cell_below bw_t_82 klater_53_3_p239__427
                have klater_53_4_p239__446 := cell_below bw_t_82 klater_53_4_p239__428
                replace Ot_71 := Lib.hid (own_below Ot_71.out bw_t_82)
                replace Ot_77 := Lib.hid (own_below Ot_77.out bw_t_82)
                replace Pb59_59 := Lib.hid (own_below Pb59_59.out bw_t_82)
                replace Pb65_65 := Lib.hid (own_below Pb65_65.out bw_t_82)
                clear bw_t_82
                cases ret_hid H
                go_wp2_with fail
                go_ret2
                exact ⟨(some ⟨wt_80.heap.size, 0, none⟩), 0, rfl, Ot_82.out, HBw_t_82.out⟩
              | true =>
                replace H := let_hid H
                obtain ⟨t_81, ht_81, H⟩ := H
                obtain rfl : t_81 = false := ht_81.symm
                replace H := ite_f H
                cases ret_hid H
                go_wp2_with fail
                go_ret2
                exact ⟨At_77, ct_77, rfl, Ot_77.out, HBwt_80.out⟩
            · skip
              replace H := let_hid H
              obtain ⟨t_57, ht_57, H⟩ := H
              obtain ⟨wb59_59, hwb59_59⟩ : ∃ x, (wb55_55_p338).setCell ⟨w_earlier_52_p225.heap.size, 3, none⟩ (.int .i64 t_57) = x := ⟨_, rfl⟩
              have z0b59_59 := Pb54_54_p319_p338.out.frozenAt 3
              have Sb59_59 := Lib.hid (own_stores [(3, .int .i64 t_57)] Pb54_54_p319_p338.out)
              have Pb59_59 : Hid (wb59_59.ownsRow w.heap.size 104 5 (.slice (some ⟨w_earlier_52_p225.heap.size, 0, none⟩) 1 1) 1 [.int .i64 t_35_zone, .int .i64 t_35_grams, .int .i64 t_35_from_, .int .i64 t_57, .int .i64 t_35_cents]) := Lib.hid (by rw [← hwb59_59]; exact Sb59_59.out.1)
              have Gb59_59 : Hid (wb55_55_p338.grownBy wb59_59 (Value.slice (some ⟨w_earlier_52_p225.heap.size, 0, none⟩) 1 1).ownBlock) := Lib.hid (by rw [← hwb59_59]; exact Sb59_59.out.2)
              have HBwb59_59 := Lib.hid (HBwb55_55_p338.out.grown Gb59_59.out HBwb55_55_p338.out.size (fun q hq => (Pb54_54_p319_p338.out.lt q hq).1))
              clear Sb59_59
              have kday_0_0__447 := cell_other kday_0_0__320_p338 Gb59_59.out Dearlier_52_day_0_p300.out
              have kclass_24_0__448 := cell_other kclass_24_0__321_p338 Gb59_59.out Dearlier_52_class_24_p300.out
              have kclass_24_1__449 := cell_other kclass_24_1__322_p338 Gb59_59.out Dearlier_52_class_24_p300.out
              have ct_35_0__450 := cell_other ct_35_0__323_p338 Gb59_59.out (apart_old Pb54_54_p319_p338.out ltt_35)
              have ct_35_1__451 := cell_other ct_35_1__324_p338 Gb59_59.out (apart_old Pb54_54_p319_p338.out ltt_35)
              have ct_35_2__452 := cell_other ct_35_2__325_p338 Gb59_59.out (apart_old Pb54_54_p319_p338.out ltt_35)
              have ct_35_3__453 := cell_other ct_35_3__326_p338 Gb59_59.out (apart_old Pb54_54_p319_p338.out ltt_35)
              have ct_35_4__454 := cell_other ct_35_4__327_p338 Gb59_59.out (apart_old Pb54_54_p319_p338.out ltt_35)
              have klater_53_0_p286__455 := cell_other klater_53_0_p286__333_p338 Gb59_59.out Dearlier_52_later_53_p300.out
              have klater_53_1_p286__456 := cell_other klater_53_1_p286__334_p338 Gb59_59.out Dearlier_52_later_53_p300.out
              have klater_53_2_p286__457 := cell_other klater_53_2_p286__335_p338 Gb59_59.out Dearlier_52_later_53_p300.out
              have klater_53_3_p286__458 := cell_other klater_53_3_p286__336_p338 Gb59_59.out Dearlier_52_later_53_p300.out
              have klater_53_4_p286__459 := cell_other klater_53_4_p286__337_p338 Gb59_59.out Dearlier_52_later_53_p300.out
              replace Pb55_55_p338 := Lib.hid (own_other Pb55_55_p338.out Gb59_59.out Dearlier_52_later_53_p300.out)
              clear Pb54_54_p319_p338 Gb59_59
              have kearlier_52_0_p300__460 : wb59_59.cell? ⟨w_earlier_52_p225.heap.size, 0, none⟩ = some (.int .i64 t_35_zone) := Pb59_59.out.cells rfl 0 _ rfl
              have kearlier_52_1_p300__461 : wb59_59.cell? ⟨w_earlier_52_p225.heap.size, 1, none⟩ = some (.int .i64 t_35_grams) := Pb59_59.out.cells rfl 1 _ rfl
              have kearlier_52_2_p300__462 : wb59_59.cell? ⟨w_earlier_52_p225.heap.size, 2, none⟩ = some (.int .i64 t_35_from_) := Pb59_59.out.cells rfl 2 _ rfl
              have kearlier_52_3_p300__463 : wb59_59.cell? ⟨w_earlier_52_p225.heap.size, 3, none⟩ = some (.int .i64 t_57) := Pb59_59.out.cells rfl 3 _ rfl
              have kearlier_52_4_p300__464 : wb59_59.cell? ⟨w_earlier_52_p225.heap.size, 4, none⟩ = some (.int .i64 t_35_cents) := Pb59_59.out.cells rfl 4 _ rfl
              obtain ⟨wb62_62, hwb62_62⟩ : ∃ x, (wb59_59).setCell ⟨wt_28.heap.size, 2, none⟩ (.int .i64 day) = x := ⟨_, rfl⟩
              have z0b62_62 := Pb55_55_p338.out.frozenAt 2
              have Sb62_62 := Lib.hid (own_stores [(2, .int .i64 day)] Pb55_55_p338.out)
              have Pb62_62 : Hid (wb62_62.ownsRow w.heap.size 104 5 (.slice (some ⟨wt_28.heap.size, 0, none⟩) 1 1) 1 [.int .i64 t_35_zone, .int .i64 t_35_grams, .int .i64 day, .int .i64 t_35_until_, .int .i64 t_35_cents]) := Lib.hid (by rw [← hwb62_62]; exact Sb62_62.out.1)
              have Gb62_62 : Hid (wb59_59.grownBy wb62_62 (Value.slice (some ⟨wt_28.heap.size, 0, none⟩) 1 1).ownBlock) := Lib.hid (by rw [← hwb62_62]; exact Sb62_62.out.2)
              have HBwb62_62 := Lib.hid (HBwb59_59.out.grown Gb62_62.out HBwb59_59.out.size (fun q hq => (Pb55_55_p338.out.lt q hq).1))
              clear Sb62_62
              have kday_0_0__465 := cell_other kday_0_0__447 Gb62_62.out Dlater_53_day_0_p286.out
              have kclass_24_0__466 := cell_other kclass_24_0__448 Gb62_62.out Dlater_53_class_24_p286.out
              have kclass_24_1__467 := cell_other kclass_24_1__449 Gb62_62.out Dlater_53_class_24_p286.out
              have ct_35_0__468 := cell_other ct_35_0__450 Gb62_62.out (apart_old Pb55_55_p338.out ltt_35)
              have ct_35_1__469 := cell_other ct_35_1__451 Gb62_62.out (apart_old Pb55_55_p338.out ltt_35)
              have ct_35_2__470 := cell_other ct_35_2__452 Gb62_62.out (apart_old Pb55_55_p338.out ltt_35)
              have ct_35_3__471 := cell_other ct_35_3__453 Gb62_62.out (apart_old Pb55_55_p338.out ltt_35)
              have ct_35_4__472 := cell_other ct_35_4__454 Gb62_62.out (apart_old Pb55_55_p338.out ltt_35)
              have kearlier_52_0_p300__473 := cell_other kearlier_52_0_p300__460 Gb62_62.out (Apart.symm Dearlier_52_later_53_p300.out)
              have kearlier_52_1_p300__474 := cell_other kearlier_52_1_p300__461 Gb62_62.out (Apart.symm Dearlier_52_later_53_p300.out)
              have kearlier_52_2_p300__475 := cell_other kearlier_52_2_p300__462 Gb62_62.out (Apart.symm Dearlier_52_later_53_p300.out)
              have kearlier_52_3_p300__476 := cell_other kearlier_52_3_p300__463 Gb62_62.out (Apart.symm Dearlier_52_later_53_p300.out)
              have kearlier_52_4_p300__477 := cell_other kearlier_52_4_p300__464 Gb62_62.out (Apart.symm Dearlier_52_later_53_p300.out)
              replace Pb59_59 := Lib.hid (own_other Pb59_59.out Gb62_62.out (Apart.symm Dearlier_52_later_53_p300.out))
              clear Pb55_55_p338 Gb62_62
              have klater_53_0_p286__478 : wb62_62.cell? ⟨wt_28.heap.size, 0, none⟩ = some (.int .i64 t_35_zone) := Pb62_62.out.cells rfl 0 _ rfl
              have klater_53_1_p286__479 : wb62_62.cell? ⟨wt_28.heap.size, 1, none⟩ = some (.int .i64 t_35_grams) := Pb62_62.out.cells rfl 1 _ rfl
              have klater_53_2_p286__480 : wb62_62.cell? ⟨wt_28.heap.size, 2, none⟩ = some (.int .i64 day) := Pb62_62.out.cells rfl 2 _ rfl
              have klater_53_3_p286__481 : wb62_62.cell? ⟨wt_28.heap.size, 3, none⟩ = some (.int .i64 t_35_until_) := Pb62_62.out.cells rfl 3 _ rfl
              have klater_53_4_p286__482 : wb62_62.cell? ⟨wt_28.heap.size, 4, none⟩ = some (.int .i64 t_35_cents) := Pb62_62.out.cells rfl 4 _ rfl
              obtain ⟨wb65_65, hwb65_65⟩ : ∃ x, (wb62_62).setCell ⟨wt_28.heap.size, 4, none⟩ (.int .i64 cents) = x := ⟨_, rfl⟩
              have z0b65_65 := Pb62_62.out.frozenAt 4
              have Sb65_65 := Lib.hid (own_stores [(4, .int .i64 cents)] Pb62_62.out)
              have Pb65_65 : Hid (wb65_65.ownsRow w.heap.size 104 5 (.slice (some ⟨wt_28.heap.size, 0, none⟩) 1 1) 1 [.int .i64 t_35_zone, .int .i64 t_35_grams, .int .i64 day, .int .i64 t_35_until_, .int .i64 cents]) := Lib.hid (by rw [← hwb65_65]; exact Sb65_65.out.1)
              have Gb65_65 : Hid (wb62_62.grownBy wb65_65 (Value.slice (some ⟨wt_28.heap.size, 0, none⟩) 1 1).ownBlock) := Lib.hid (by rw [← hwb65_65]; exact Sb65_65.out.2)
              have HBwb65_65 := Lib.hid (HBwb62_62.out.grown Gb65_65.out HBwb62_62.out.size (fun q hq => (Pb62_62.out.lt q hq).1))
              clear Sb65_65
              have kday_0_0__483 := cell_other kday_0_0__465 Gb65_65.out Dlater_53_day_0_p286.out
              have kclass_24_0__484 := cell_other kclass_24_0__466 Gb65_65.out Dlater_53_class_24_p286.out
              have kclass_24_1__485 := cell_other kclass_24_1__467 Gb65_65.out Dlater_53_class_24_p286.out
              have ct_35_0__486 := cell_other ct_35_0__468 Gb65_65.out (apart_old Pb62_62.out ltt_35)
              have ct_35_1__487 := cell_other ct_35_1__469 Gb65_65.out (apart_old Pb62_62.out ltt_35)
              have ct_35_2__488 := cell_other ct_35_2__470 Gb65_65.out (apart_old Pb62_62.out ltt_35)
              have ct_35_3__489 := cell_other ct_35_3__471 Gb65_65.out (apart_old Pb62_62.out ltt_35)
              have ct_35_4__490 := cell_other ct_35_4__472 Gb65_65.out (apart_old Pb62_62.out ltt_35)
              have kearlier_52_0_p300__491 := cell_other kearlier_52_0_p300__473 Gb65_65.out (Apart.symm Dearlier_52_later_53_p300.out)
              have kearlier_52_1_p300__492 := cell_other kearlier_52_1_p300__474 Gb65_65.out (Apart.symm Dearlier_52_later_53_p300.out)
              have kearlier_52_2_p300__493 := cell_other kearlier_52_2_p300__475 Gb65_65.out (Apart.symm Dearlier_52_later_53_p300.out)
              have kearlier_52_3_p300__494 := cell_other kearlier_52_3_p300__476 Gb65_65.out (Apart.symm Dearlier_52_later_53_p300.out)
              have kearlier_52_4_p300__495 := cell_other kearlier_52_4_p300__477 Gb65_65.out (Apart.symm Dearlier_52_later_53_p300.out)
              replace Pb59_59 := Lib.hid (own_other Pb59_59.out Gb65_65.out (Apart.symm Dearlier_52_later_53_p300.out))
              clear Pb62_62 Gb65_65
              have klater_53_0_p286__496 : wb65_65.cell? ⟨wt_28.heap.size, 0, none⟩ = some (.int .i64 t_35_zone) := Pb65_65.out.cells rfl 0 _ rfl
              have klater_53_1_p286__497 : wb65_65.cell? ⟨wt_28.heap.size, 1, none⟩ = some (.int .i64 t_35_grams) := Pb65_65.out.cells rfl 1 _ rfl
              have klater_53_2_p286__498 : wb65_65.cell? ⟨wt_28.heap.size, 2, none⟩ = some (.int .i64 day) := Pb65_65.out.cells rfl 2 _ rfl
              have klater_53_3_p286__499 : wb65_65.cell? ⟨wt_28.heap.size, 3, none⟩ = some (.int .i64 t_35_until_) := Pb65_65.out.cells rfl 3 _ rfl
              have klater_53_4_p286__500 : wb65_65.cell? ⟨wt_28.heap.size, 4, none⟩ = some (.int .i64 cents) := Pb65_65.out.cells rfl 4 _ rfl
              go_wp2_with fail
              clear z0b59_59 kday_0_0__320_p338 kclass_24_0__321_p338 kclass_24_1__322_p338 ct_35_0__323_p338 ct_35_1__324_p338 ct_35_2__325_p338 ct_35_3__326_p338 ct_35_4__327_p338 klater_53_0_p286__333_p338 klater_53_1_p286__334_p338 klater_53_2_p286__335_p338 klater_53_3_p286__336_p338 klater_53_4_p286__337_p338 kearlier_52_0_p300__328_p338 kearlier_52_1_p300__329_p338 kearlier_52_2_p300__330_p338 kearlier_52_3_p300__331_p338 kearlier_52_4_p300__332_p338 z0b62_62 kday_0_0__447 kclass_24_0__448 kclass_24_1__449 ct_35_0__450 ct_35_1__451 ct_35_2__452 ct_35_3__453 ct_35_4__454 kearlier_52_0_p300__460 kearlier_52_1_p300__461 kearlier_52_2_p300__462 kearlier_52_3_p300__463 kearlier_52_4_p300__464 klater_53_0_p286__455 klater_53_1_p286__456 klater_53_2_p286__457 klater_53_3_p286__458 klater_53_4_p286__459 z0b65_65 kday_0_0__465 kclass_24_0__466 kclass_24_1__467 ct_35_0__468 ct_35_1__469 ct_35_2__470 ct_35_3__471 ct_35_4__472 kearlier_52_0_p300__473 kearlier_52_1_p300__474 kearlier_52_2_p300__475 kearlier_52_3_p300__476 kearlier_52_4_p300__477 klater_53_0_p286__478 klater_53_1_p286__479 klater_53_2_p286__480 klater_53_3_p286__481 klater_53_4_p286__482
              have bd11 : Below wb65_65.heap.size wb65_65 wb65_65.drew := (Below.refl _ _).drew
              have HBwb65_65.drew := Lib.hid (Below.step HBwb65_65.out bd11)
              replace kday_0_0__483 := cell_below bd11 kday_0_0__483
              replace kclass_24_0__484 := cell_below bd11 kclass_24_0__484
              replace kclass_24_1__485 := cell_below bd11 kclass_24_1__485
              replace ct_35_0__486 := cell_below bd11 ct_35_0__486
              replace ct_35_1__487 := cell_below bd11 ct_35_1__487
              replace ct_35_2__488 := cell_below bd11 ct_35_2__488
              replace ct_35_3__489 := cell_below bd11 ct_35_3__489
              replace ct_35_4__490 := cell_below bd11 ct_35_4__490
              replace klater_53_0_p286__496 := cell_below bd11 klater_53_0_p286__496
              replace klater_53_1_p286__497 := cell_below bd11 klater_53_1_p286__497
              replace klater_53_2_p286__498 := cell_below bd11 klater_53_2_p286__498
              replace klater_53_3_p286__499 := cell_below bd11 klater_53_3_p286__499
              replace klater_53_4_p286__500 := cell_below bd11 klater_53_4_p286__500
              replace kearlier_52_0_p300__491 := cell_below bd11 kearlier_52_0_p300__491
              replace kearlier_52_1_p300__492 := cell_below bd11 kearlier_52_1_p300__492
              replace kearlier_52_2_p300__493 := cell_below bd11 kearlier_52_2_p300__493
              replace kearlier_52_3_p300__494 := cell_below bd11 kearlier_52_3_p300__494
              replace kearlier_52_4_p300__495 := cell_below bd11 kearlier_52_4_p300__495
              replace Pb65_65 := Lib.hid (own_below Pb65_65.out bd11)
              replace Pb59_59 := Lib.hid (own_below Pb59_59.out bd11)
              clear bd11
              replace H := guard_hid H
              obtain ⟨hl_t_68, H⟩ := H
              replace H := let_hid H
              obtain ⟨t_68, ht_68, H⟩ := H
              have dt_68 : ((Go.Proofs.Ytlljmgphgmklcaa.PRate.flat list)).take (Int.toNat (nt_35 : Int) * 5) = (Go.Proofs.Ytlljmgphgmklcaa.PRate.flat t_68) := by
                rw [← ht_68]
                exact flat_take Go.Proofs.Ytlljmgphgmklcaa.PRate.Rate.cells 5 (fun _ => rfl) _ _
              have nt_68 : Int.toNat (nt_35 : Int) = t_68.length := by rw [← ht_68, List.length_take]; omega
              obtain ⟨rt_68, Mt_68, Qt_68⟩ := slice_headB (P := Try.prog) (t := 41) (e := 104) (k := .i64) (by kernel_rfl) (by kernel_rfl) hi_104 hz1_104 M0.out Q0.out hl_t_68 nt_68 dt_68
              have Nt_68 : Hid (t_68.length ≤ 9223372036854775807) := Lib.hid (by have := N0.out; omega)
              replace Mt_68 := Lib.hid Mt_68
              replace Qt_68 := Lib.hid Qt_68
              clear dt_68 nt_68 hl_t_68
              have hht_68 := Lib.hid ht_68
              clear ht_68
              replace H := let_hid H
              obtain ⟨t_71, ht_71, H⟩ := H
              obtain ⟨w_t_71, hw_t_71⟩ : ∃ x, wb65_65.drew.alloc (.cells #[.int .i64 t_35_zone, .int .i64 t_35_grams, .int .i64 t_35_from_, .int .i64 t_57, .int .i64 t_35_cents, .int .i64 t_35_zone, .int .i64 t_35_grams, .int .i64 day, .int .i64 t_35_until_, .int .i64 cents] 104) = x := ⟨_, rfl⟩
              have bw_t_71 : Below wb65_65.drew.heap.size wb65_65.drew w_t_71 := by rw [← hw_t_71]; exact (Below.refl _ _).alloc (Nat.le_refl _) _
              have hs_t_71 := HBwb65_65.drew.out.size
              have nt_71 : t_71.length = 2 := by rw [← ht_71]; rfl
              have Ot_71 : Hid (w_t_71.ownsRow w.heap.size 104 5 (.slice (some ⟨wb65_65.heap.size, 0, none⟩) 2 2) 2 (Go.Proofs.Ytlljmgphgmklcaa.PRate.flat t_71)) := by
                rw [← hw_t_71, ← ht_71]
                have e_ : ([.int .i64 t_35_zone, .int .i64 t_35_grams, .int .i64 t_35_from_, .int .i64 t_57, .int .i64 t_35_cents, .int .i64 t_35_zone, .int .i64 t_35_grams, .int .i64 day, .int .i64 t_35_until_, .int .i64 cents] : List Value) = (Go.Proofs.Ytlljmgphgmklcaa.PRate.flat ([(Go.Proofs.Ytlljmgphgmklcaa.PRate.Rate.mk t_35_zone t_35_grams t_35_from_ t_57 t_35_cents), (Go.Proofs.Ytlljmgphgmklcaa.PRate.Rate.mk t_35_zone t_35_grams day t_35_until_ cents)] : List Go.Proofs.Ytlljmgphgmklcaa.PRate.Rate)) := rfl
                exact Lib.hid (own_laid (n := 2) hs_t_71 e_ rfl (by unfold maxLen; omega))
              clear hs_t_71
              have hht_71 := Lib.hid ht_71
              clear ht_71
              replace nt_71 := Lib.hid nt_71
              have Dt_71_day_0 := Lib.hid (apart_box kday_0_0__483)
              have Dt_71_class_24 := Lib.hid (apart_box kclass_24_0__484)
              have Dt_71_later_53 := Lib.hid (apart_box klater_53_0_p286__496)
              have Dt_71_earlier_52 := Lib.hid (apart_box kearlier_52_0_p300__491)
              have HBw_t_71 := Lib.hid (Below.step HBwb65_65.drew.out bw_t_71)
              have kday_0_0__501 := cell_below bw_t_71 kday_0_0__483
              have kclass_24_0__502 := cell_below bw_t_71 kclass_24_0__484
              have kclass_24_1__503 := cell_below bw_t_71 kclass_24_1__485
              have ct_35_0__504 := cell_below bw_t_71 ct_35_0__486
              have ct_35_1__505 := cell_below bw_t_71 ct_35_1__487
              have ct_35_2__506 := cell_below bw_t_71 ct_35_2__488
              have ct_35_3__507 := cell_below bw_t_71 ct_35_3__489
              have ct_35_4__508 := cell_below bw_t_71 ct_35_4__490
              have klater_53_0_p286__509 := cell_below bw_t_71 klater_53_0_p286__496
              have klater_53_1_p286__510 := cell_below bw_t_71 klater_53_1_p286__497
              have klater_53_2_p286__511 := cell_below bw_t_71 klater_53_2_p286__498
              have klater_53_3_p286__512 := cell_below bw_t_71 klater_53_3_p286__499
              have klater_53_4_p286__513 := cell_below bw_t_71 klater_53_4_p286__500
              have kearlier_52_0_p300__514 := cell_below bw_t_71 kearlier_52_0_p300__491
              have kearlier_52_1_p300__515 := cell_below bw_t_71 kearlier_52_1_p300__492
              have kearlier_52_2_p300__516 := cell_below bw_t_71 kearlier_52_2_p300__493
              have kearlier_52_3_p300__517 := cell_below bw_t_71 kearlier_52_3_p300__494
              have kearlier_52_4_p300__518 := cell_below bw_t_71 kearlier_52_4_p300__495
              replace Pb65_65 := Lib.hid (own_below Pb65_65.out bw_t_71)
              replace Pb59_59 := Lib.hid (own_below Pb59_59.out bw_t_71)
              clear bw_t_71
              replace H := let_hid H
              obtain ⟨t_74, ht_74, H⟩ := H
              replace H := guard_hid H
              obtain ⟨hl_t_75, H⟩ := H
              replace H := let_hid H
              obtain ⟨t_75, ht_75, H⟩ := H
              have dt_75 : ((Go.Proofs.Ytlljmgphgmklcaa.PRate.flat list)).drop (Int.toNat t_74 * 5) = (Go.Proofs.Ytlljmgphgmklcaa.PRate.flat t_75) := by
                rw [← ht_75]
                exact flat_drop Go.Proofs.Ytlljmgphgmklcaa.PRate.Rate.cells 5 (fun _ => rfl) _ _
              have nt_75 : list.length - Int.toNat t_74 = t_75.length := by rw [← ht_75, List.length_drop]
              obtain ⟨At_75, ct_75, rt_75, Mt_75, Qt_75⟩ := slice_tail (P := Try.prog) (t := 41) (e := 104) (k := .i64) (by kernel_rfl) (by kernel_rfl) hi_104 hz1_104 M0.out Q0.out hl_t_75 nt_75 dt_75
              have Nt_75 : Hid (t_75.length ≤ 9223372036854775807) := Lib.hid (by have := N0.out; omega)
              replace Mt_75 := Lib.hid Mt_75
              replace Qt_75 := Lib.hid Qt_75
              clear dt_75 nt_75 hl_t_75
              have hht_75 := Lib.hid ht_75
              clear ht_75
              have Not_75 := Nt_75.out
              replace H := let_hid H
              obtain ⟨t_76, ht_76, H⟩ := H
              have hc1_ := nt_71.out
              have Ort_76_1 := Lib.hid (own_len hc1_ Ot_71.out)
              obtain ⟨w_t_76, hw_t_76⟩ : ∃ x, w_t_71.alloc (.cells #[.slice (some ⟨ab_t_35, ao_t_35, none⟩) t_68.length c0, .slice (some ⟨wb65_65.heap.size, 0, none⟩) 2 2, .slice At_75 t_75.length ct_75] 41) = x := ⟨_, rfl⟩
              have bw_t_76 : Below w_t_71.heap.size w_t_71 w_t_76 := by rw [← hw_t_76]; exact (Below.refl _ _).alloc (Nat.le_refl _) _
              have nt_76 : Hid (t_76.length = 3) := Lib.hid (by rw [← ht_76]; rfl)
              have Rt_76 : Hid (Go.Proofs.Ytlljmgphgmklcaa.GoN.ReadNest w_t_76 5 Go.Proofs.Ytlljmgphgmklcaa.PRate.flat (some ⟨w_t_71.heap.size, 0, none⟩) t_76) := Lib.hid (by rw [← hw_t_76, ← ht_76]; exact Go.Proofs.Ytlljmgphgmklcaa.GoN.read_lit3 rfl (by rw [hc1_]) rfl (Cells.below Mt_68.out HBw_t_71.out) Qt_68.out Nt_68.out (own_cells Ort_76_1.out) (own_room Ort_76_1.out) (own_max Ort_76_1.out) (Cells.below Mt_75.out HBw_t_71.out) Qt_75.out Nt_75.out)
              have Nt_76 : Hid (t_76.length ≤ 9223372036854775807) := Lib.hid (by rw [nt_76.out]; omega)
              have Qt_76 : Hid (Room (some ⟨w_t_71.heap.size, 0, none⟩) t_76.length 3) := Lib.hid (by rw [nt_76.out]; exact ⟨Nat.le_refl _, fun h_ => by simp at h_⟩)
              have hht_76 := Lib.hid ht_76
              clear ht_76
              have HBw_t_76 := Lib.hid (Below.step HBw_t_71.out bw_t_76)
              have kday_0_0__519 := cell_below bw_t_76 kday_0_0__501
              have kclass_24_0__520 := cell_below bw_t_76 kclass_24_0__502
              have kclass_24_1__521 := cell_below bw_t_76 kclass_24_1__503
              have ct_35_0__522 := cell_below bw_t_76 ct_35_0__504
              have ct_35_1__523 := cell_below bw_t_76 ct_35_1__505
              have ct_35_2__524 := cell_below bw_t_76 ct_35_2__506
              have ct_35_3__525 := cell_below bw_t_76 ct_35_3__507
              have ct_35_4__526 := cell_below bw_t_76 ct_35_4__508
              have klater_53_0_p286__527 := cell_below bw_t_76 klater_53_0_p286__509
              have klater_53_1_p286__528 := cell_below bw_t_76 klater_53_1_p286__510
              have klater_53_2_p286__529 := cell_below bw_t_76 klater_53_2_p286__511
              have klater_53_3_p286__530 := cell_below bw_t_76 klater_53_3_p286__512
              have klater_53_4_p286__531 := cell_below bw_t_76 klater_53_4_p286__513
              have kearlier_52_0_p300__532 := cell_below bw_t_76 kearlier_52_0_p300__514
              have kearlier_52_1_p300__533 := cell_below bw_t_76 kearlier_52_1_p300__515
              have kearlier_52_2_p300__534 := cell_below bw_t_76 kearlier_52_2_p300__516
              have kearlier_52_3_p300__535 := cell_below bw_t_76 kearlier_52_3_p300__517
              have kearlier_52_4_p300__536 := cell_below bw_t_76 kearlier_52_4_p300__518
              replace Ot_71 := Lib.hid (own_below Ot_71.out bw_t_76)
              replace Pb65_65 := Lib.hid (own_below Pb65_65.out bw_t_76)
              replace Pb59_59 := Lib.hid (own_below Pb59_59.out bw_t_76)
              clear bw_t_76
              replace H := bind_hid H
              obtain ⟨t_77, qt_77, H⟩ := H
              go_region_held3 (fun w' => w'.cell? ⟨w.heap.size, 0, none⟩ = some (.int .i64 day) ∧ w'.cell? ⟨wt_15.heap.size, 0, none⟩ = some (.int .i64 zone) ∧ w'.cell? ⟨wt_15.heap.size, 1, none⟩ = some (.int .i64 grams) ∧ w'.cell? ⟨ab_t_35, ao_t_35 + nt_35 * 5, none⟩ = some (.int .i64 t_35_zone) ∧ w'.cell? ⟨ab_t_35, ao_t_35 + nt_35 * 5 + 1, none⟩ = some (.int .i64 t_35_grams) ∧ w'.cell? ⟨ab_t_35, ao_t_35 + nt_35 * 5 + 2, none⟩ = some (.int .i64 t_35_from_) ∧ w'.cell? ⟨ab_t_35, ao_t_35 + nt_35 * 5 + 3, none⟩ = some (.int .i64 t_35_until_) ∧ w'.cell? ⟨ab_t_35, ao_t_35 + nt_35 * 5 + 4, none⟩ = some (.int .i64 t_35_cents) ∧ w'.cell? ⟨wt_28.heap.size, 0, none⟩ = some (.int .i64 t_35_zone) ∧ w'.cell? ⟨wt_28.heap.size, 1, none⟩ = some (.int .i64 t_35_grams) ∧ w'.cell? ⟨wt_28.heap.size, 2, none⟩ = some (.int .i64 day) ∧ w'.cell? ⟨wt_28.heap.size, 3, none⟩ = some (.int .i64 t_35_until_) ∧ w'.cell? ⟨wt_28.heap.size, 4, none⟩ = some (.int .i64 cents) ∧ w'.cell? ⟨w_earlier_52_p225.heap.size, 0, none⟩ = some (.int .i64 t_35_zone) ∧ w'.cell? ⟨w_earlier_52_p225.heap.size, 1, none⟩ = some (.int .i64 t_35_grams) ∧ w'.cell? ⟨w_earlier_52_p225.heap.size, 2, none⟩ = some (.int .i64 t_35_from_) ∧ w'.cell? ⟨w_earlier_52_p225.heap.size, 3, none⟩ = some (.int .i64 t_57) ∧ w'.cell? ⟨w_earlier_52_p225.heap.size, 4, none⟩ = some (.int .i64 t_35_cents)) (first | exact ⟨kday_0_0__483, kclass_24_0__484, kclass_24_1__485, ct_35_0__486, ct_35_1__487, ct_35_2__488, ct_35_3__489, ct_35_4__490, klater_53_0_p286__496, klater_53_1_p286__497, klater_53_2_p286__498, klater_53_3_p286__499, klater_53_4_p286__500, kearlier_52_0_p300__491, kearlier_52_1_p300__492, kearlier_52_2_p300__493, kearlier_52_3_p300__494, kearlier_52_4_p300__495⟩ | exact ⟨kday_0_0__501, kclass_24_0__502, kclass_24_1__503, ct_35_0__504, ct_35_1__505, ct_35_2__506, ct_35_3__507, ct_35_4__508, klater_53_0_p286__509, klater_53_1_p286__510, klater_53_2_p286__511, klater_53_3_p286__512, klater_53_4_p286__513, kearlier_52_0_p300__514, kearlier_52_1_p300__515, kearlier_52_2_p300__516, kearlier_52_3_p300__517, kearlier_52_4_p300__518⟩ | exact ⟨kday_0_0__519, kclass_24_0__520, kclass_24_1__521, ct_35_0__522, ct_35_1__523, ct_35_2__524, ct_35_3__525, ct_35_4__526, klater_53_0_p286__527, klater_53_1_p286__528, klater_53_2_p286__529, klater_53_3_p286__530, klater_53_4_p286__531, kearlier_52_0_p300__532, kearlier_52_1_p300__533, kearlier_52_2_p300__534, kearlier_52_3_p300__535, kearlier_52_4_p300__536⟩)
                  (first
                    | (have hc0_ := nt_76.out
                       have con_ := Go.Proofs.Ytlljmgphgmklcaa.GxSlicesConcatLoopExampleG01062ImplRateLoopExampleG01062ImplRate.C (t_76) (some ⟨w_t_71.heap.size, 0, none⟩) 3 _   (Lib.hid (Rt_76.out)) Nt_76 Qt_76 qt_77
                       rw [hc0_] at con_
                       clear hc0_
                       go_at_call 128
                       refine con_.mono ?_
                       rintro e_t_77 wt_77 ⟨At_77, ct_77, rfl, ot_77, bt_77⟩
                       have Dt_77_t_71 := Lib.hid (apart_call ot_77 Ot_71.out)
                       have Dt_77_day_0 := Lib.hid (apart_callbox ot_77 kday_0_0__519)
                       have Dt_77_class_24 := Lib.hid (apart_callbox ot_77 kclass_24_0__520)
                       have Dt_77_later_53 := Lib.hid (apart_callbox ot_77 klater_53_0_p286__527)
                       have Dt_77_earlier_52 := Lib.hid (apart_callbox ot_77 kearlier_52_0_p300__532)
                       have Ot_77 := Lib.hid (own_lower ot_77 HBw_t_76.out.size)
                       clear ot_77
                       have HBwt_77 := Lib.hid (Below.step HBw_t_76.out bt_77)
                       replace kday_0_0__519 := cell_below bt_77 kday_0_0__519
                       replace kclass_24_0__520 := cell_below bt_77 kclass_24_0__520
                       replace kclass_24_1__521 := cell_below bt_77 kclass_24_1__521
                       replace ct_35_0__522 := cell_below bt_77 ct_35_0__522
                       replace ct_35_1__523 := cell_below bt_77 ct_35_1__523
                       replace ct_35_2__524 := cell_below bt_77 ct_35_2__524
                       replace ct_35_3__525 := cell_below bt_77 ct_35_3__525
                       replace ct_35_4__526 := cell_below bt_77 ct_35_4__526
                       replace klater_53_0_p286__527 := cell_below bt_77 klater_53_0_p286__527
                       replace klater_53_1_p286__528 := cell_below bt_77 klater_53_1_p286__528
                       replace klater_53_2_p286__529 := cell_below bt_77 klater_53_2_p286__529
                       replace klater_53_3_p286__530 := cell_below bt_77 klater_53_3_p286__530
                       replace klater_53_4_p286__531 := cell_below bt_77 klater_53_4_p286__531
                       replace kearlier_52_0_p300__532 := cell_below bt_77 kearlier_52_0_p300__532
                       replace kearlier_52_1_p300__533 := cell_below bt_77 kearlier_52_1_p300__533
                       replace kearlier_52_2_p300__534 := cell_below bt_77 kearlier_52_2_p300__534
                       replace kearlier_52_3_p300__535 := cell_below bt_77 kearlier_52_3_p300__535
                       replace kearlier_52_4_p300__536 := cell_below bt_77 kearlier_52_4_p300__536
                       replace Ot_71 := Lib.hid (own_below Ot_71.out bt_77)
                       replace Pb65_65 := Lib.hid (own_below Pb65_65.out bt_77)
                       replace Pb59_59 := Lib.hid (own_below Pb59_59.out bt_77)
                       clear bt_77
                       clear qt_77))
              try clear kday_0_0__483
              try clear kclass_24_0__484
              try clear kclass_24_1__485
              try clear ct_35_0__486
              try clear ct_35_1__487
              try clear ct_35_2__488
              try clear ct_35_3__489
              try clear ct_35_4__490
              try clear klater_53_0_p286__496
              try clear klater_53_1_p286__497
              try clear klater_53_2_p286__498
              try clear klater_53_3_p286__499
              try clear klater_53_4_p286__500
              try clear kearlier_52_0_p300__491
              try clear kearlier_52_1_p300__492
              try clear kearlier_52_2_p300__493
              try clear kearlier_52_3_p300__494
              try clear kearlier_52_4_p300__495
              try clear kday_0_0__501
              try clear kclass_24_0__502
              try clear kclass_24_1__503
              try clear ct_35_0__504
              try clear ct_35_1__505
              try clear ct_35_2__506
              try clear ct_35_3__507
              try clear ct_35_4__508
              try clear klater_53_0_p286__509
              try clear klater_53_1_p286__510
              try clear klater_53_2_p286__511
              try clear klater_53_3_p286__512
              try clear klater_53_4_p286__513
              try clear kearlier_52_0_p300__514
              try clear kearlier_52_1_p300__515
              try clear kearlier_52_2_p300__516
              try clear kearlier_52_3_p300__517
              try clear kearlier_52_4_p300__518
              replace H := bind_hid H
              obtain ⟨t_80, qt_80, H⟩ := H
              go_wp2_with fail
              go_at_call 67
              refine (Go.Proofs.Ytlljmgphgmklcaa.GiAreRates.C (t_77) At_77 ct_77 _   (Lib.hid (own_cells Ot_77.out)) (Lib.hid (own_max Ot_77.out)) qt_80).mono ?_
              rintro e_t_80 wt_80 ⟨rfl, bt_80⟩
              have HBwt_80 := Lib.hid (Below.step HBwt_77.out bt_80)
              replace kday_0_0__519 := cell_below bt_80 kday_0_0__519
              replace kclass_24_0__520 := cell_below bt_80 kclass_24_0__520
              replace kclass_24_1__521 := cell_below bt_80 kclass_24_1__521
              replace ct_35_0__522 := cell_below bt_80 ct_35_0__522
              replace ct_35_1__523 := cell_below bt_80 ct_35_1__523
              replace ct_35_2__524 := cell_below bt_80 ct_35_2__524
              replace ct_35_3__525 := cell_below bt_80 ct_35_3__525
              replace ct_35_4__526 := cell_below bt_80 ct_35_4__526
              replace klater_53_0_p286__527 := cell_below bt_80 klater_53_0_p286__527
              replace klater_53_1_p286__528 := cell_below bt_80 klater_53_1_p286__528
              replace klater_53_2_p286__529 := cell_below bt_80 klater_53_2_p286__529
              replace klater_53_3_p286__530 := cell_below bt_80 klater_53_3_p286__530
              replace klater_53_4_p286__531 := cell_below bt_80 klater_53_4_p286__531
              replace kearlier_52_0_p300__532 := cell_below bt_80 kearlier_52_0_p300__532
              replace kearlier_52_1_p300__533 := cell_below bt_80 kearlier_52_1_p300__533
              replace kearlier_52_2_p300__534 := cell_below bt_80 kearlier_52_2_p300__534
              replace kearlier_52_3_p300__535 := cell_below bt_80 kearlier_52_3_p300__535
              replace kearlier_52_4_p300__536 := cell_below bt_80 kearlier_52_4_p300__536
              replace Ot_71 := Lib.hid (own_below Ot_71.out bt_80)
              replace Ot_77 := Lib.hid (own_below Ot_77.out bt_80)
              replace Pb65_65 := Lib.hid (own_below Pb65_65.out bt_80)
              replace Pb59_59 := Lib.hid (own_below Pb59_59.out bt_80)
              clear bt_80
              cases t_80 with
              | false =>
                replace H := let_hid H
                obtain ⟨t_81, ht_81, H⟩ := H
                obtain rfl : t_81 = true := ht_81.symm
                replace H := ite_t H
                obtain ⟨w_t_82, hw_t_82⟩ : ∃ x, wt_80.alloc (.cells #[] 104) = x := ⟨_, rfl⟩
                have bw_t_82 : Below wt_80.heap.size wt_80 w_t_82 := by rw [← hw_t_82]; exact (Below.refl _ _).alloc (Nat.le_refl _) _
                have Ot_82 : Hid (w_t_82.ownsRow w.heap.size 104 5 (.slice (some ⟨wt_80.heap.size, 0, none⟩) 0 0) 0 []) := Lib.hid (by rw [← hw_t_82]; exact own_empty HBwt_80.out.size)
                have Dt_82_t_71 := Lib.hid (apart_fresh Ot_71.out)
                have Dt_82_t_77 := Lib.hid (apart_fresh Ot_77.out)
                have Dt_82_day_0 := Lib.hid (apart_box kday_0_0__519)
                have Dt_82_class_24 := Lib.hid (apart_box kclass_24_0__520)
                have Dt_82_later_53 := Lib.hid (apart_box klater_53_0_p286__527)
                have Dt_82_earlier_52 := Lib.hid (apart_box kearlier_52_0_p300__532)
                have HBw_t_82 := Lib.hid (Below.step HBwt_80.out bw_t_82)
                have kday_0_0__537 := cell_below bw_t_82 kday_0_0__519
                have kclass_24_0__538 := cell_below bw_t_82 kclass_24_0__520
                have kclass_24_1__539 := cell_below bw_t_82 kclass_24_1__521
                have ct_35_0__540 := cell_below bw_t_82 ct_35_0__522
                have ct_35_1__541 := cell_below bw_t_82 ct_35_1__523
                have ct_35_2__542 := cell_below bw_t_82 ct_35_2__524
                have ct_35_3__543 := cell_below bw_t_82 ct_35_3__525
                have ct_35_4__544 := cell_below bw_t_82 ct_35_4__526
                have klater_53_0_p286__545 := cell_below bw_t_82 klater_53_0_p286__527
                have klater_53_1_p286__546 := cell_below bw_t_82 klater_53_1_p286__528
                have klater_53_2_p286__547 := cell_below bw_t_82 klater_53_2_p286__529
                have klater_53_3_p286__548 := cell_below bw_t_82 klater_53_3_p286__530
                have klater_53_4_p286__549 := cell_below bw_t_82 klater_53_4_p286__531
                have kearlier_52_0_p300__550 := cell_below bw_t_82 kearlier_52_0_p300__532
                have kearlier_52_1_p300__551 := cell_below bw_t_82 kearlier_52_1_p300__533
                have kearlier_52_2_p300__552 := cell_below bw_t_82 kearlier_52_2_p300__534
                have kearlier_52_3_p300__553 := cell_below bw_t_82 kearlier_52_3_p300__535
                have kearlier_52_4_p300__554 := cell_below bw_t_82 kearlier_52_4_p300__536
                replace Ot_71 := Lib.hid (own_below Ot_71.out bw_t_82)
                replace Ot_77 := Lib.hid (own_below Ot_77.out bw_t_82)
                replace Pb65_65 := Lib.hid (own_below Pb65_65.out bw_t_82)
                replace Pb59_59 := Lib.hid (own_below Pb59_59.out bw_t_82)
                clear bw_t_82
                cases ret_hid H
                go_wp2_with fail
                go_ret2
                exact ⟨(some ⟨wt_80.heap.size, 0, none⟩), 0, rfl, Ot_82.out, HBw_t_82.out⟩
              | true =>
                replace H := let_hid H
                obtain ⟨t_81, ht_81, H⟩ := H
                obtain rfl : t_81 = false := ht_81.symm
                replace H := ite_f H
                cases ret_hid H
                go_wp2_with fail
                go_ret2
                exact ⟨At_77, ct_77, rfl, Ot_77.out, HBwt_80.out⟩
          | true =>
            replace H := ite_t H
            obtain ⟨w_t_41, hw_t_41⟩ : ∃ x, wt_28.alloc (.cells #[] 104) = x := ⟨_, rfl⟩
            have bw_t_41 : Below wt_28.heap.size wt_28 w_t_41 := by rw [← hw_t_41]; exact (Below.refl _ _).alloc (Nat.le_refl _) _
            have Ot_41 : Hid (w_t_41.ownsRow w.heap.size 104 5 (.slice (some ⟨wt_28.heap.size, 0, none⟩) 0 0) 0 []) := Lib.hid (by rw [← hw_t_41]; exact own_empty HBwt_28.out.size)
            have Dt_41_day_0 := Lib.hid (apart_box kday_0_0__158)
            have Dt_41_class_24 := Lib.hid (apart_box kclass_24_0)
            have HBw_t_41 := Lib.hid (Below.step HBwt_28.out bw_t_41)
            have kday_0_0__555 := cell_below bw_t_41 kday_0_0__158
            have kclass_24_0__556 := cell_below bw_t_41 kclass_24_0
            have kclass_24_1__557 := cell_below bw_t_41 kclass_24_1
            have ct_35_0__558 := cell_below bw_t_41 ct_35_0
            have ct_35_1__559 := cell_below bw_t_41 ct_35_1
            have ct_35_2__560 := cell_below bw_t_41 ct_35_2
            have ct_35_3__561 := cell_below bw_t_41 ct_35_3
            have ct_35_4__562 := cell_below bw_t_41 ct_35_4
            clear bw_t_41
            cases ret_hid H
            go_wp2_with fail
            go_ret2
            exact ⟨(some ⟨wt_28.heap.size, 0, none⟩), 0, rfl, Ot_41.out, HBw_t_41.out⟩
        | true =>
          replace H := ite_t H
          replace H := app_hid H
          replace H := ite_t H
          obtain ⟨w_t_41, hw_t_41⟩ : ∃ x, wt_28.alloc (.cells #[] 104) = x := ⟨_, rfl⟩
          have bw_t_41 : Below wt_28.heap.size wt_28 w_t_41 := by rw [← hw_t_41]; exact (Below.refl _ _).alloc (Nat.le_refl _) _
          have Ot_41 : Hid (w_t_41.ownsRow w.heap.size 104 5 (.slice (some ⟨wt_28.heap.size, 0, none⟩) 0 0) 0 []) := Lib.hid (by rw [← hw_t_41]; exact own_empty HBwt_28.out.size)
          have Dt_41_day_0 := Lib.hid (apart_box kday_0_0__158)
          have Dt_41_class_24 := Lib.hid (apart_box kclass_24_0)
          have HBw_t_41 := Lib.hid (Below.step HBwt_28.out bw_t_41)
          have kday_0_0__563 := cell_below bw_t_41 kday_0_0__158
          have kclass_24_0__564 := cell_below bw_t_41 kclass_24_0
          have kclass_24_1__565 := cell_below bw_t_41 kclass_24_1
          clear bw_t_41
          cases ret_hid H
          go_wp2_with fail
          go_ret2
          exact ⟨(some ⟨wt_28.heap.size, 0, none⟩), 0, rfl, Ot_41.out, HBw_t_41.out⟩
end Go.Proofs.Ytlljmgphgmklcaa.GiRaiseRate

