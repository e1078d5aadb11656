/- Texts on which the proofs of several laws stand, one behind the other (21 of 21). No condition of their own. -/
import Derived.Test.YtlljmgphgmklcaaChecked
import Derived.Test.YtlljmgphgmklcaaC10P1
import Derived.Test.YtlljmgphgmklcaaC10P4
import Derived.Test.YtlljmgphgmklcaaC10P5
import Derived.Test.YtlljmgphgmklcaaC10P9
import Derived.Test.YtlljmgphgmklcaaC10P2
import Derived.Test.YtlljmgphgmklcaaC10P6
import Derived.WalkKit
import Derived.WalkSpells
import Derived.WalkLawsBesides
import Derived.BigQuiet
import Derived.OwnWalk
import Derived.Deep.LoopGhost
import Derived.Deep.QuietTactic
import Derived.IntWalk
import Derived.Lib.QuietBelow
import Derived.Test.YtlljmgphgmklcaaC10P3
import Derived.Test.YtlljmgphgmklcaaC10P7
import Derived.Test.YtlljmgphgmklcaaC10P10
import Derived.Deep.RegionHeld3
/- loop.example/g01062/spec.LatestLeave as a plain function, and the contract of the program's: where the plain one has an answer, the program has it. Conditions: slices read as lists. -/
namespace Go.Proofs.Ytlljmgphgmklcaa.GsLatestLeave
set_option linter.unusedVariables false
set_option linter.unusedSimpArgs false
open Go.RowKit
open Go.Proofs.Ytlljmgphgmklcaa.Rowed Go.Proofs.Ytlljmgphgmklcaa.Turn Go.Proofs.Ytlljmgphgmklcaa.Aid Go.Proofs.Ytlljmgphgmklcaa.GoP Go.Proofs.Ytlljmgphgmklcaa.GoM

def l0 (list : (List Go.Proofs.Ytlljmgphgmklcaa.PMail.Mail)) (from_1 : Int) (to_2 : Int) (by_3 : Int) (s : Int) (nx0 bk0 : Int → Option (Int × Bool)) : Option (Int × Bool) :=
  letK s fun i_10l0 =>
  letK (decide (0 ≤ i_10l0)) fun (t_24 : Bool) =>
  iteK t_24
  (Option.bind (idx list i_10l0) fun (yt_27 : Go.Proofs.Ytlljmgphgmklcaa.PMail.Mail) =>
  unMail yt_27 fun (t_27_leave : Int) (t_27_from_ : Int) (t_27_to_ : Int) (t_27_arrive : Int) =>
  letK (t_27_from_ == from_1) fun (t_34 : Bool) =>
  joinK (fun (t_40 : Bool) =>
  joinK (fun (t_53 : Bool) =>
  iteK t_53
  (some (t_27_leave, true))
  (letK (IntKind.i64.wrap (i_10l0 - 1)) fun (t_59 : Int) =>
  appK nx0 (t_59))) fun jt_53 => iteK t_40 (Option.bind (Go.Proofs.Ytlljmgphgmklcaa.GsL9Times.P list t_27_to_ t_27_arrive) fun (t_47 : (List Int)) =>
  Option.bind (idx t_47 to_2) fun (yt_49 : Int) =>
  letK (decide (yt_49 ≤ by_3)) fun (t_52 : Bool) =>
  appK jt_53 t_52) (appK jt_53 false)) fun jt_40 => iteK t_34 (letK (decide (t_27_arrive ≤ by_3)) fun (t_39 : Bool) =>
  appK jt_40 t_39) (appK jt_40 false))
  (appK bk0 (i_10l0))

def e0  (s : Int) : Option (Int × Bool) :=
  letK s fun i_10l0 =>
  some (0, false)

def P (fuel : Nat) (list : (List Go.Proofs.Ytlljmgphgmklcaa.PMail.Mail)) (from_1 : Int) (to_2 : Int) (by_3 : Int) : Option (Int × Bool) :=
  Option.bind (Go.Proofs.Ytlljmgphgmklcaa.GsL9Asked.P list from_1 by_3) fun (t_5 : Bool) =>
  letK (!t_5) fun (t_6 : Bool) =>
  joinK (fun (t_11 : Bool) =>
  joinK (fun (t_16 : Bool) =>
  iteK t_16
  (some (0, false))
  (letK (IntKind.i64.wrap ((list.length : Int) - 1)) fun (t_21 : Int) =>
  loopK (l0 list from_1 to_2 by_3) fuel (t_21) (e0 ))) fun jt_16 => iteK t_11 (appK jt_16 true) (letK (from_1 == to_2) fun (t_15 : Bool) =>
  appK jt_16 t_15)) fun jt_11 => iteK t_6 (appK jt_11 true) (Option.bind (Go.Proofs.Ytlljmgphgmklcaa.GsL9Office.P to_2) fun (t_9 : Bool) =>
  letK (!t_9) fun (t_10 : Bool) =>
  appK jt_11 t_10)

set_option maxRecDepth 100000 in
set_option maxHeartbeats 2000000 in
theorem C (fuel : Nat) (list : (List Go.Proofs.Ytlljmgphgmklcaa.PMail.Mail)) (from_1 : Int) (to_2 : Int) (by_3 : Int) (A0 : Option Addr) (c0 : Nat)  (w : World) (M0 : Hid (Cells w 4 A0 list.length (Go.Proofs.Ytlljmgphgmklcaa.PMail.flat list))) (N0 : Hid (list.length ≤ 9223372036854775807))  {r0 : Int} {r1 : Bool} (H : Hid (P fuel list from_1 to_2 by_3 = some (r0, r1))) :
    Calls Try.prog 107 #[.slice A0 list.length c0, .int .i64 from_1, .int .i64 to_2, .int .i64 by_3] w (Gives (.tuple #[.int .i64 r0, .bool r1]) w) := by
  have HB := Lib.hid (Below.refl w.heap.size w)
  unfold P at H
  have N0o := N0.out
  go_enter Try.func107, Try.ntmps107
  replace H := bind_hid H
  obtain ⟨t_5, qt_5, H⟩ := H
  go_wp2_with fail
  go_at_call 153
  refine (Go.Proofs.Ytlljmgphgmklcaa.GsL9Asked.C (list) (from_1) (by_3) A0 c0 _   (Lib.hid (Cells.below M0.out HB.out)) N0 qt_5).mono ?_
  rintro e_t_5 wt_5 ⟨rfl, bt_5⟩
  have HBwt_5 := Lib.hid (Below.step HB.out bt_5)
  clear bt_5
  cases t_5 with
  | false =>
    replace H := let_hid H
    obtain ⟨t_6, ht_6, H⟩ := H
    obtain rfl : t_6 = true := ht_6.symm
    replace H := join_hid H
    replace H := ite_t H
    replace H := app_hid H
    replace H := join_hid H
    replace H := ite_t H
    replace H := app_hid H
    replace H := ite_t H
    cases ret_hid H
    go_wp2_with fail
    go_ret2
    exact ⟨rfl, HBwt_5.out⟩
  | true =>
    replace H := let_hid H
    obtain ⟨t_6, ht_6, H⟩ := H
    obtain rfl : t_6 = false := ht_6.symm
    replace H := join_hid H
    replace H := ite_f H
    replace H := bind_hid H
    obtain ⟨t_9, qt_9, H⟩ := H
    go_wp2_with fail
    go_at_call 109
    refine (Go.Proofs.Ytlljmgphgmklcaa.GsL9Office.C (to_2)  _    qt_9).mono ?_
    rintro e_t_9 wt_9 ⟨rfl, bt_9⟩
    have HBwt_9 := Lib.hid (Below.step HBwt_5.out bt_9)
    clear bt_9
    cases t_9 with
    | false =>
      replace H := let_hid H
      obtain ⟨t_10, ht_10, H⟩ := H
      obtain rfl : t_10 = true := ht_10.symm
      replace H := app_hid H
      replace H := join_hid H
      replace H := ite_t H
      replace H := app_hid H
      replace H := ite_t H
      cases ret_hid H
      go_wp2_with fail
      go_ret2
      exact ⟨rfl, HBwt_9.out⟩
    | true =>
      replace H := let_hid H
      obtain ⟨t_10, ht_10, H⟩ := H
      obtain rfl : t_10 = false := ht_10.symm
      replace H := app_hid H
      replace H := join_hid H
      replace H := ite_f H
      replace H := let_hid H
      obtain ⟨t_15, ht_15, H⟩ := H
      replace H := app_hid H
      cases t_15 with
      | false =>
        replace H := ite_f H
        replace H := let_hid H
        obtain ⟨t_21, ht_21, H⟩ := H
        try have hv_t_21 : (list.length : Int) - 1 = t_21 := by rw [← ht_21]; exact (IntWalk.i64_in _ (by omega)).symm
        try have hv2_t_21 : IntKind.i64.wrap t_21 = t_21 := by rw [← hv_t_21]; exact IntWalk.i64_in _ (by omega)
        go_wp2_with fail
        go_loopg [10] (fuel) (fun m_ v10_ wr => ∃ (i_10l0 : Int), v10_ = .int .i64 i_10l0 ∧ Hid (loopK (l0 list from_1 to_2 by_3) m_ (i_10l0) (e0 ) = some (r0, r1)) ∧ Hid (Below w.heap.size w wr))
        case atStart => exact ⟨_, rfl, H, HBwt_9⟩
        case round =>
          obtain ⟨i_10l0, rfl, H, HBwr0⟩ := hrel
          rename World => wr0
          cases gk with
          | zero => exact (loop_zero H).elim
          | succ m0 =>
            replace H := loop_succ H
            unfold l0 at H
            replace H := let_hid H
            obtain ⟨_, rfl, H⟩ := H
            replace H := let_hid H
            obtain ⟨t_24, ht_24, H⟩ := H
            cases t_24 with
            | false =>
              replace H := ite_f H
              replace H := app_hid H
              unfold e0 at H
              replace H := let_hid H
              obtain ⟨_, rfl, H⟩ := H
              cases ret_hid H
              go_wp2_with fail
              go_ret2
              exact ⟨rfl, HBwr0.out⟩
            | true =>
              replace H := ite_t H
              replace H := idx_hid H
              obtain ⟨nt_27, yt_27, et_27, lt_27, gt_27, H⟩ := H
              subst et_27
              have nc_1084 : 0 ≤ nt_27 := by have := of_decide_eq_true ht_24; omega
              obtain ⟨t_27_leave, t_27_from_, t_27_to_, t_27_arrive⟩ := yt_27
              replace H := unMail_hid H
              obtain ⟨ab_t_27, ao_t_27, zt_27, At_27, z_t_27, ct_27_0, ct_27_1, ct_27_2, ct_27_3⟩ := Go.Proofs.Ytlljmgphgmklcaa.OMail.at_ M0.out lt_27
              obtain rfl := Option.some.inj (gt_27.out.symm.trans z_t_27)
              subst At_27
              have ltt_27 := cell_lt ct_27_0
              replace ct_27_0 := cell_below HBwr0.out ct_27_0
              replace ct_27_1 := cell_below HBwr0.out ct_27_1
              replace ct_27_2 := cell_below HBwr0.out ct_27_2
              replace ct_27_3 := cell_below HBwr0.out ct_27_3
              clear z_t_27
              have b0t_27 : (0 : Int) ≤ (nt_27 : Int) := by omega
              have b1t_27 : (nt_27 : Int) < ((list.length : Nat) : Int) := by omega
              have b2t_27 : ((nt_27 : Int)).toNat = nt_27 := by omega
              obtain ⟨w_x_29, hw_x_29⟩ : ∃ x, wr0.alloc (.cells #[.int .i64 t_27_leave, .int .i64 t_27_from_, .int .i64 t_27_to_, .int .i64 t_27_arrive] 108) = x := ⟨_, rfl⟩
              have bw_x_29 : Below wr0.heap.size wr0 w_x_29 := by rw [← hw_x_29]; exact (Below.refl _ _).alloc (Nat.le_refl _) _
              have HBw_x_29 := Lib.hid (Below.step HBwr0.out bw_x_29)
              have ct_27_0__1085 := cell_below bw_x_29 ct_27_0
              have ct_27_1__1086 := cell_below bw_x_29 ct_27_1
              have ct_27_2__1087 := cell_below bw_x_29 ct_27_2
              have ct_27_3__1088 := cell_below bw_x_29 ct_27_3
              clear bw_x_29
              have kx_29_0 : w_x_29.cell? ⟨wr0.heap.size, 0, none⟩ = some (.int .i64 t_27_leave) := by rw [← hw_x_29]; exact box_new _ _ _ 0 _ rfl
              have kx_29_1 : w_x_29.cell? ⟨wr0.heap.size, 1, none⟩ = some (.int .i64 t_27_from_) := by rw [← hw_x_29]; exact box_new _ _ _ 1 _ rfl
              have kx_29_2 : w_x_29.cell? ⟨wr0.heap.size, 2, none⟩ = some (.int .i64 t_27_to_) := by rw [← hw_x_29]; exact box_new _ _ _ 2 _ rfl
              have kx_29_3 : w_x_29.cell? ⟨wr0.heap.size, 3, none⟩ = some (.int .i64 t_27_arrive) := by rw [← hw_x_29]; exact box_new _ _ _ 3 _ rfl
              replace H := let_hid H
              obtain ⟨t_34, ht_34, H⟩ := H
              replace H := join_hid H
              cases t_34 with
              | false =>
                replace H := ite_f H
                replace H := app_hid H
                replace H := join_hid H
                replace H := ite_f H
                replace H := app_hid H
                replace H := ite_f H
                replace H := let_hid H
                obtain ⟨t_59, ht_59, H⟩ := H
                replace H := app_hid H
                go_wp2_with fail
                clear ct_27_0 ct_27_1 ct_27_2 ct_27_3
                go_roundg m0
                case measure => omega
                case rel => exact ⟨_, rfl, H, HBw_x_29⟩
              | true =>
                replace H := ite_t H
                replace H := let_hid H
                obtain ⟨t_39, ht_39, H⟩ := H
                replace H := app_hid H
                replace H := join_hid H
                cases t_39 with
                | false =>
                  replace H := ite_f H
                  replace H := app_hid H
                  replace H := ite_f H
                  replace H := let_hid H
                  obtain ⟨t_59, ht_59, H⟩ := H
                  replace H := app_hid H
                  go_wp2_with fail
                  clear ct_27_0 ct_27_1 ct_27_2 ct_27_3
                  go_roundg m0
                  case measure => omega
                  case rel => exact ⟨_, rfl, H, HBw_x_29⟩
                | true =>
                  replace H := ite_t H
                  replace H := bind_hid H
                  obtain ⟨t_47, qt_47, H⟩ := H
                  go_wp2_with fail
                  clear ct_27_0 ct_27_1 ct_27_2 ct_27_3
                  go_at_call 145
                  refine (Go.Proofs.Ytlljmgphgmklcaa.GsL9Times.C (list) (t_27_to_) (t_27_arrive) (some ⟨ab_t_27, ao_t_27, none⟩) c0 _   (Lib.hid (Cells.below M0.out HBw_x_29.out)) N0 qt_47).mono ?_
                  rintro e_t_47 wt_47 ⟨At_47, ct_47, rfl, ot_47, bt_47⟩
                  have Dt_47_x_29 := Lib.hid (apart_callbox ot_47 kx_29_0)
                  have Ot_47 := Lib.hid (own_lower ot_47 HBw_x_29.out.size)
                  clear ot_47
                  have HBwt_47 := Lib.hid (Below.step HBw_x_29.out bt_47)
                  replace ct_27_0__1085 := cell_below bt_47 ct_27_0__1085
                  replace ct_27_1__1086 := cell_below bt_47 ct_27_1__1086
                  replace ct_27_2__1087 := cell_below bt_47 ct_27_2__1087
                  replace ct_27_3__1088 := cell_below bt_47 ct_27_3__1088
                  replace kx_29_0 := cell_below bt_47 kx_29_0
                  replace kx_29_1 := cell_below bt_47 kx_29_1
                  replace kx_29_2 := cell_below bt_47 kx_29_2
                  replace kx_29_3 := cell_below bt_47 kx_29_3
                  clear bt_47
                  replace H := idx_hid H
                  obtain ⟨nt_49, yt_49, et_49, lt_49, gt_49, H⟩ := H
                  subst et_49
                  obtain ⟨qt_49, Qt_49⟩ := own_some Ot_47.out (by omega)
                  subst Qt_49
                  obtain ⟨ab_t_49, ao_t_49, zt_49, At_49, z_t_49, ct_49_0⟩ := Go.Proofs.Ytlljmgphgmklcaa.HelpInt.Ints.at_ (own_cells Ot_47.out) (k := nt_49) (by omega)
                  obtain rfl := Option.some.inj (gt_49.out.symm.trans z_t_49)
                  simp only [Option.some.injEq, Addr.mk.injEq] at At_49
                  obtain ⟨rfl, rfl, _⟩ := At_49
                  clear z_t_49
                  simp only [Nat.zero_add] at ct_49_0
                  have b0t_49 : (0 : Int) ≤ (nt_49 : Int) := by omega
                  have b1t_49 : (nt_49 : Int) < ((t_47.length : Nat) : Int) := by omega
                  have b2t_49 : ((nt_49 : Int)).toNat = nt_49 := by omega
                  replace H := let_hid H
                  obtain ⟨t_52, ht_52, H⟩ := H
                  replace H := app_hid H
                  cases t_52 with
                  | false =>
                    replace H := ite_f H
                    replace H := let_hid H
                    obtain ⟨t_59, ht_59, H⟩ := H
                    replace H := app_hid H
                    go_wp2_with fail
                    go_roundg m0
                    case measure => omega
                    case rel => exact ⟨_, rfl, H, HBwt_47⟩
                  | true =>
                    replace H := ite_t H
                    cases ret_hid H
                    go_wp2_with fail
                    go_ret2
                    exact ⟨rfl, HBwt_47.out⟩
      | true =>
        replace H := ite_t H
        cases ret_hid H
        go_wp2_with fail
        go_ret2
        exact ⟨rfl, HBwt_9.out⟩
end Go.Proofs.Ytlljmgphgmklcaa.GsLatestLeave

/- loop.example/g01062/spec.SpareMinutes as a plain function, and the contract of the program's: where the plain one has an answer, the program has it. Conditions: slices read as lists. -/
namespace Go.Proofs.Ytlljmgphgmklcaa.GsSpareMinutes
set_option linter.unusedVariables false
set_option linter.unusedSimpArgs false
open Go.RowKit
open Go.Proofs.Ytlljmgphgmklcaa.Rowed Go.Proofs.Ytlljmgphgmklcaa.Turn Go.Proofs.Ytlljmgphgmklcaa.Aid Go.Proofs.Ytlljmgphgmklcaa.GoP Go.Proofs.Ytlljmgphgmklcaa.GoM

def P (fuel : Nat) (mails : (List Go.Proofs.Ytlljmgphgmklcaa.PMail.Mail)) (x : Go.Proofs.Ytlljmgphgmklcaa.PCover.Cover) : Option (Int × Bool) :=
  unCover x fun (x_id : Int) (x_day : Int) (x_zone : Int) (x_grams : Int) (x_paid : Int) (x_from_ : Int) (x_to_ : Int) (x_leave : Int) (x_arrive : Int) =>
  Option.bind (Go.Proofs.Ytlljmgphgmklcaa.GsL9Good.P mails) fun (t_4 : Bool) =>
  letK (!t_4) fun (t_5 : Bool) =>
  joinK (fun (t_10 : Bool) =>
  iteK t_10
  (some (0, false))
  (bind2 (Go.Proofs.Ytlljmgphgmklcaa.GsLatestLeave.P fuel mails x_from_ x_to_ x_arrive) fun (t_20a : Int) (t_20b : Bool) =>
  letK (!t_20b) fun (t_27 : Bool) =>
  joinK (fun (t_33 : Bool) =>
  iteK t_33
  (some (0, false))
  (letK (IntKind.i64.wrap (t_20a - x_leave)) fun (t_39 : Int) =>
  some (t_39, true))) fun jt_33 => iteK t_27 (appK jt_33 true) (letK (decide (t_20a < x_leave)) fun (t_32 : Bool) =>
  appK jt_33 t_32))) fun jt_10 => iteK t_5 (appK jt_10 true) (Option.bind (Go.Proofs.Ytlljmgphgmklcaa.GsL10One.P (Go.Proofs.Ytlljmgphgmklcaa.PCover.Cover.mk x_id x_day x_zone x_grams x_paid x_from_ x_to_ x_leave x_arrive)) fun (t_8 : Bool) =>
  letK (!t_8) fun (t_9 : Bool) =>
  appK jt_10 t_9)

set_option maxRecDepth 100000 in
set_option maxHeartbeats 2000000 in
theorem C (fuel : Nat) (mails : (List Go.Proofs.Ytlljmgphgmklcaa.PMail.Mail)) (x : Go.Proofs.Ytlljmgphgmklcaa.PCover.Cover) (A0 : Option Addr) (c0 : Nat)  (w : World) (M0 : Hid (Cells w 4 A0 mails.length (Go.Proofs.Ytlljmgphgmklcaa.PMail.flat mails))) (N0 : Hid (mails.length ≤ 9223372036854775807))  {r0 : Int} {r1 : Bool} (H : Hid (P fuel mails x = some (r0, r1))) :
    Calls Try.prog 47 #[.slice A0 mails.length c0, x.val] w (Gives (.tuple #[.int .i64 r0, .bool r1]) w) := by
  have HB := Lib.hid (Below.refl w.heap.size w)
  unfold P at H
  obtain ⟨x_id, x_day, x_zone, x_grams, x_paid, x_from_, x_to_, x_leave, x_arrive⟩ := x
  replace H := unCover_hid H
  unfold Go.Proofs.Ytlljmgphgmklcaa.PCover.Cover.val
  have N0o := N0.out
  go_enter Try.func47, Try.ntmps47
  obtain ⟨w_x_0, hw_x_0⟩ : ∃ x, w.alloc (.cells #[.int .i64 x_id, .int .i64 x_day, .int .i64 x_zone, .int .i64 x_grams, .int .i64 x_paid, .int .i64 x_from_, .int .i64 x_to_, .int .i64 x_leave, .int .i64 x_arrive] 25) = x := ⟨_, rfl⟩
  have bw_x_0 : Below w.heap.size w w_x_0 := by rw [← hw_x_0]; exact (Below.refl _ _).alloc (Nat.le_refl _) _
  have HBw_x_0 := Lib.hid (Below.step HB.out bw_x_0)
  clear bw_x_0
  have kx_0_0 : w_x_0.cell? ⟨w.heap.size, 0, none⟩ = some (.int .i64 x_id) := by rw [← hw_x_0]; exact box_new _ _ _ 0 _ rfl
  have kx_0_1 : w_x_0.cell? ⟨w.heap.size, 1, none⟩ = some (.int .i64 x_day) := by rw [← hw_x_0]; exact box_new _ _ _ 1 _ rfl
  have kx_0_2 : w_x_0.cell? ⟨w.heap.size, 2, none⟩ = some (.int .i64 x_zone) := by rw [← hw_x_0]; exact box_new _ _ _ 2 _ rfl
  have kx_0_3 : w_x_0.cell? ⟨w.heap.size, 3, none⟩ = some (.int .i64 x_grams) := by rw [← hw_x_0]; exact box_new _ _ _ 3 _ rfl
  have kx_0_4 : w_x_0.cell? ⟨w.heap.size, 4, none⟩ = some (.int .i64 x_paid) := by rw [← hw_x_0]; exact box_new _ _ _ 4 _ rfl
  have kx_0_5 : w_x_0.cell? ⟨w.heap.size, 5, none⟩ = some (.int .i64 x_from_) := by rw [← hw_x_0]; exact box_new _ _ _ 5 _ rfl
  have kx_0_6 : w_x_0.cell? ⟨w.heap.size, 6, none⟩ = some (.int .i64 x_to_) := by rw [← hw_x_0]; exact box_new _ _ _ 6 _ rfl
  have kx_0_7 : w_x_0.cell? ⟨w.heap.size, 7, none⟩ = some (.int .i64 x_leave) := by rw [← hw_x_0]; exact box_new _ _ _ 7 _ rfl
  have kx_0_8 : w_x_0.cell? ⟨w.heap.size, 8, none⟩ = some (.int .i64 x_arrive) := by rw [← hw_x_0]; exact box_new _ _ _ 8 _ rfl
  replace H := bind_hid H
  obtain ⟨t_4, qt_4, H⟩ := H
  go_wp2_with fail
  go_at_call 90
  refine (Go.Proofs.Ytlljmgphgmklcaa.GsL9Good.C (mails) A0 c0 _   (Lib.hid (Cells.below M0.out HBw_x_0.out)) N0 qt_4).mono ?_
  rintro e_t_4 wt_4 ⟨rfl, bt_4⟩
  have HBwt_4 := Lib.hid (Below.step HBw_x_0.out bt_4)
  replace kx_0_0 := cell_below bt_4 kx_0_0
  replace kx_0_1 := cell_below bt_4 kx_0_1
  replace kx_0_2 := cell_below bt_4 kx_0_2
  replace kx_0_3 := cell_below bt_4 kx_0_3
  replace kx_0_4 := cell_below bt_4 kx_0_4
  replace kx_0_5 := cell_below bt_4 kx_0_5
  replace kx_0_6 := cell_below bt_4 kx_0_6
  replace kx_0_7 := cell_below bt_4 kx_0_7
  replace kx_0_8 := cell_below bt_4 kx_0_8
  clear bt_4
  cases t_4 with
  | false =>
    replace H := let_hid H
    obtain ⟨t_5, ht_5, H⟩ := H
    obtain rfl : t_5 = true := ht_5.symm
    replace H := join_hid H
    replace H := ite_t H
    replace H := app_hid H
    replace H := ite_t H
    cases ret_hid H
    go_wp2_with fail
    go_ret2
    exact ⟨rfl, HBwt_4.out⟩
  | true =>
    replace H := let_hid H
    obtain ⟨t_5, ht_5, H⟩ := H
    obtain rfl : t_5 = false := ht_5.symm
    replace H := join_hid H
    replace H := ite_f H
    replace H := bind_hid H
    obtain ⟨t_8, qt_8, H⟩ := H
    go_wp2_with fail
    go_at_call 77
    refine (Go.Proofs.Ytlljmgphgmklcaa.GsL10One.C ((Go.Proofs.Ytlljmgphgmklcaa.PCover.Cover.mk x_id x_day x_zone x_grams x_paid x_from_ x_to_ x_leave x_arrive))  _    qt_8).mono ?_
    rintro e_t_8 wt_8 ⟨rfl, bt_8⟩
    have HBwt_8 := Lib.hid (Below.step HBwt_4.out bt_8)
    replace kx_0_0 := cell_below bt_8 kx_0_0
    replace kx_0_1 := cell_below bt_8 kx_0_1
    replace kx_0_2 := cell_below bt_8 kx_0_2
    replace kx_0_3 := cell_below bt_8 kx_0_3
    replace kx_0_4 := cell_below bt_8 kx_0_4
    replace kx_0_5 := cell_below bt_8 kx_0_5
    replace kx_0_6 := cell_below bt_8 kx_0_6
    replace kx_0_7 := cell_below bt_8 kx_0_7
    replace kx_0_8 := cell_below bt_8 kx_0_8
    clear bt_8
    cases t_8 with
    | false =>
      replace H := let_hid H
      obtain ⟨t_9, ht_9, H⟩ := H
      obtain rfl : t_9 = true := ht_9.symm
      replace H := app_hid H
      replace H := ite_t H
      cases ret_hid H
      go_wp2_with fail
      go_ret2
      exact ⟨rfl, HBwt_8.out⟩
    | true =>
      replace H := let_hid H
      obtain ⟨t_9, ht_9, H⟩ := H
      obtain rfl : t_9 = false := ht_9.symm
      replace H := app_hid H
      replace H := ite_f H
      replace H := bind2_hid H
      obtain ⟨t_20a, t_20b, qt_20, H⟩ := H
      go_wp2_with fail
      go_at_call 107
      refine (Go.Proofs.Ytlljmgphgmklcaa.GsLatestLeave.C fuel (mails) (x_from_) (x_to_) (x_arrive) A0 c0 _   (Lib.hid (Cells.below M0.out HBwt_8.out)) N0 qt_20).mono ?_
      rintro e_t_20 wt_20 ⟨rfl, bt_20⟩
      have HBwt_20 := Lib.hid (Below.step HBwt_8.out bt_20)
      replace kx_0_0 := cell_below bt_20 kx_0_0
      replace kx_0_1 := cell_below bt_20 kx_0_1
      replace kx_0_2 := cell_below bt_20 kx_0_2
      replace kx_0_3 := cell_below bt_20 kx_0_3
      replace kx_0_4 := cell_below bt_20 kx_0_4
      replace kx_0_5 := cell_below bt_20 kx_0_5
      replace kx_0_6 := cell_below bt_20 kx_0_6
      replace kx_0_7 := cell_below bt_20 kx_0_7
      replace kx_0_8 := cell_below bt_20 kx_0_8
      clear bt_20
      cases t_20b with
      | false =>
        replace H := let_hid H
        obtain ⟨t_27, ht_27, H⟩ := H
        obtain rfl : t_27 = true := ht_27.symm
        replace H := join_hid H
        replace H := ite_t H
        replace H := app_hid H
        replace H := ite_t H
        cases ret_hid H
        go_wp2_with fail
        go_ret2
        exact ⟨rfl, HBwt_20.out⟩
      | true =>
        replace H := let_hid H
        obtain ⟨t_27, ht_27, H⟩ := H
        obtain rfl : t_27 = false := ht_27.symm
        replace H := join_hid H
        replace H := ite_f H
        replace H := let_hid H
        obtain ⟨t_32, ht_32, H⟩ := H
        replace H := app_hid H
        cases t_32 with
        | false =>
          replace H := ite_f H
          replace H := let_hid H
          obtain ⟨t_39, ht_39, H⟩ := H
          cases ret_hid H
          go_wp2_with fail
          go_ret2
          exact ⟨rfl, HBwt_20.out⟩
        | true =>
          replace H := ite_t H
          cases ret_hid H
          go_wp2_with fail
          go_ret2
          exact ⟨rfl, HBwt_20.out⟩
end Go.Proofs.Ytlljmgphgmklcaa.GsSpareMinutes

/- loop.example/g01062/impl.SpareMinutes as a plain function, and the contract of the program's: where the plain one has an answer, the program has it. Conditions: slices read as lists. -/
namespace Go.Proofs.Ytlljmgphgmklcaa.GiSpareMinutes
set_option linter.unusedVariables false
set_option linter.unusedSimpArgs false
open Go.RowKit
open Go.Proofs.Ytlljmgphgmklcaa.Rowed Go.Proofs.Ytlljmgphgmklcaa.Turn Go.Proofs.Ytlljmgphgmklcaa.Aid Go.Proofs.Ytlljmgphgmklcaa.GoP Go.Proofs.Ytlljmgphgmklcaa.GoM

def P (fuel : Nat) (mails : (List Go.Proofs.Ytlljmgphgmklcaa.PMail.Mail)) (x : Go.Proofs.Ytlljmgphgmklcaa.PCover.Cover) : Option (Int × Bool) :=
  unCover x fun (x_id : Int) (x_day : Int) (x_zone : Int) (x_grams : Int) (x_paid : Int) (x_from_ : Int) (x_to_ : Int) (x_leave : Int) (x_arrive : Int) =>
  Option.bind (Go.Proofs.Ytlljmgphgmklcaa.GiIsTimetable.P mails) fun (t_4 : Bool) =>
  letK (!t_4) fun (t_5 : Bool) =>
  joinK (fun (t_10 : Bool) =>
  iteK t_10
  (some (0, false))
  (Option.bind (Go.Proofs.Ytlljmgphgmklcaa.GiLatestMinutes.P fuel mails x_to_ x_arrive) fun (t_21 : Go.Proofs.Ytlljmgphgmklcaa.PIntA10.IntA10) =>
  unIntA10 t_21 fun (t_21_x0 : Int) (t_21_x1 : Int) (t_21_x2 : Int) (t_21_x3 : Int) (t_21_x4 : Int) (t_21_x5 : Int) (t_21_x6 : Int) (t_21_x7 : Int) (t_21_x8 : Int) (t_21_x9 : Int) =>
  Option.bind (idx [t_21_x0, t_21_x1, t_21_x2, t_21_x3, t_21_x4, t_21_x5, t_21_x6, t_21_x7, t_21_x8, t_21_x9] x_from_) fun (yt_24 : Int) =>
  letK (decide (yt_24 < x_leave)) fun (t_31 : Bool) =>
  iteK t_31
  (some (0, false))
  (letK (IntKind.i64.wrap (yt_24 - x_leave)) fun (t_38 : Int) =>
  some (t_38, true)))) fun jt_10 => iteK t_5 (appK jt_10 true) (Option.bind (Go.Proofs.Ytlljmgphgmklcaa.GiIsCover.P (Go.Proofs.Ytlljmgphgmklcaa.PCover.Cover.mk x_id x_day x_zone x_grams x_paid x_from_ x_to_ x_leave x_arrive)) fun (t_8 : Bool) =>
  letK (!t_8) fun (t_9 : Bool) =>
  appK jt_10 t_9)

set_option maxRecDepth 100000 in
set_option maxHeartbeats 2000000 in
theorem C (fuel : Nat) (mails : (List Go.Proofs.Ytlljmgphgmklcaa.PMail.Mail)) (x : Go.Proofs.Ytlljmgphgmklcaa.PCover.Cover) (A0 : Option Addr) (c0 : Nat)  (w : World) (M0 : Hid (Cells w 4 A0 mails.length (Go.Proofs.Ytlljmgphgmklcaa.PMail.flat mails))) (N0 : Hid (mails.length ≤ 9223372036854775807))  {r0 : Int} {r1 : Bool} (H : Hid (P fuel mails x = some (r0, r1))) :
    Calls Try.prog 48 #[.slice A0 mails.length c0, x.val] w (Gives (.tuple #[.int .i64 r0, .bool r1]) w) := by
  have HB := Lib.hid (Below.refl w.heap.size w)
  unfold P at H
  obtain ⟨x_id, x_day, x_zone, x_grams, x_paid, x_from_, x_to_, x_leave, x_arrive⟩ := x
  replace H := unCover_hid H
  unfold Go.Proofs.Ytlljmgphgmklcaa.PCover.Cover.val
  have N0o := N0.out
  go_enter Try.func48, Try.ntmps48
  obtain ⟨w_x_0, hw_x_0⟩ : ∃ x, w.alloc (.cells #[.int .i64 x_id, .int .i64 x_day, .int .i64 x_zone, .int .i64 x_grams, .int .i64 x_paid, .int .i64 x_from_, .int .i64 x_to_, .int .i64 x_leave, .int .i64 x_arrive] 25) = x := ⟨_, rfl⟩
  have bw_x_0 : Below w.heap.size w w_x_0 := by rw [← hw_x_0]; exact (Below.refl _ _).alloc (Nat.le_refl _) _
  have HBw_x_0 := Lib.hid (Below.step HB.out bw_x_0)
  clear bw_x_0
  have kx_0_0 : w_x_0.cell? ⟨w.heap.size, 0, none⟩ = some (.int .i64 x_id) := by rw [← hw_x_0]; exact box_new _ _ _ 0 _ rfl
  have kx_0_1 : w_x_0.cell? ⟨w.heap.size, 1, none⟩ = some (.int .i64 x_day) := by rw [← hw_x_0]; exact box_new _ _ _ 1 _ rfl
  have kx_0_2 : w_x_0.cell? ⟨w.heap.size, 2, none⟩ = some (.int .i64 x_zone) := by rw [← hw_x_0]; exact box_new _ _ _ 2 _ rfl
  have kx_0_3 : w_x_0.cell? ⟨w.heap.size, 3, none⟩ = some (.int .i64 x_grams) := by rw [← hw_x_0]; exact box_new _ _ _ 3 _ rfl
  have kx_0_4 : w_x_0.cell? ⟨w.heap.size, 4, none⟩ = some (.int .i64 x_paid) := by rw [← hw_x_0]; exact box_new _ _ _ 4 _ rfl
  have kx_0_5 : w_x_0.cell? ⟨w.heap.size, 5, none⟩ = some (.int .i64 x_from_) := by rw [← hw_x_0]; exact box_new _ _ _ 5 _ rfl
  have kx_0_6 : w_x_0.cell? ⟨w.heap.size, 6, none⟩ = some (.int .i64 x_to_) := by rw [← hw_x_0]; exact box_new _ _ _ 6 _ rfl
  have kx_0_7 : w_x_0.cell? ⟨w.heap.size, 7, none⟩ = some (.int .i64 x_leave) := by rw [← hw_x_0]; exact box_new _ _ _ 7 _ rfl
  have kx_0_8 : w_x_0.cell? ⟨w.heap.size, 8, none⟩ = some (.int .i64 x_arrive) := by rw [← hw_x_0]; exact box_new _ _ _ 8 _ rfl
  replace H := bind_hid H
  obtain ⟨t_4, qt_4, H⟩ := H
  go_wp2_with fail
  go_at_call 104
  refine (Go.Proofs.Ytlljmgphgmklcaa.GiIsTimetable.C (mails) A0 c0 _   (Lib.hid (Cells.below M0.out HBw_x_0.out)) N0 qt_4).mono ?_
  rintro e_t_4 wt_4 ⟨rfl, bt_4⟩
  have HBwt_4 := Lib.hid (Below.step HBw_x_0.out bt_4)
  replace kx_0_0 := cell_below bt_4 kx_0_0
  replace kx_0_1 := cell_below bt_4 kx_0_1
  replace kx_0_2 := cell_below bt_4 kx_0_2
  replace kx_0_3 := cell_below bt_4 kx_0_3
  replace kx_0_4 := cell_below bt_4 kx_0_4
  replace kx_0_5 := cell_below bt_4 kx_0_5
  replace kx_0_6 := cell_below bt_4 kx_0_6
  replace kx_0_7 := cell_below bt_4 kx_0_7
  replace kx_0_8 := cell_below bt_4 kx_0_8
  clear bt_4
  cases t_4 with
  | false =>
    replace H := let_hid H
    obtain ⟨t_5, ht_5, H⟩ := H
    obtain rfl : t_5 = true := ht_5.symm
    replace H := join_hid H
    replace H := ite_t H
    replace H := app_hid H
    replace H := ite_t H
    cases ret_hid H
    go_wp2_with fail
    go_ret2
    exact ⟨rfl, HBwt_4.out⟩
  | true =>
    replace H := let_hid H
    obtain ⟨t_5, ht_5, H⟩ := H
    obtain rfl : t_5 = false := ht_5.symm
    replace H := join_hid H
    replace H := ite_f H
    replace H := bind_hid H
    obtain ⟨t_8, qt_8, H⟩ := H
    go_wp2_with fail
    go_at_call 18
    refine (Go.Proofs.Ytlljmgphgmklcaa.GiIsCover.C ((Go.Proofs.Ytlljmgphgmklcaa.PCover.Cover.mk x_id x_day x_zone x_grams x_paid x_from_ x_to_ x_leave x_arrive))  _    qt_8).mono ?_
    rintro e_t_8 wt_8 ⟨rfl, bt_8⟩
    have HBwt_8 := Lib.hid (Below.step HBwt_4.out bt_8)
    replace kx_0_0 := cell_below bt_8 kx_0_0
    replace kx_0_1 := cell_below bt_8 kx_0_1
    replace kx_0_2 := cell_below bt_8 kx_0_2
    replace kx_0_3 := cell_below bt_8 kx_0_3
    replace kx_0_4 := cell_below bt_8 kx_0_4
    replace kx_0_5 := cell_below bt_8 kx_0_5
    replace kx_0_6 := cell_below bt_8 kx_0_6
    replace kx_0_7 := cell_below bt_8 kx_0_7
    replace kx_0_8 := cell_below bt_8 kx_0_8
    clear bt_8
    cases t_8 with
    | false =>
      replace H := let_hid H
      obtain ⟨t_9, ht_9, H⟩ := H
      obtain rfl : t_9 = true := ht_9.symm
      replace H := app_hid H
      replace H := ite_t H
      cases ret_hid H
      go_wp2_with fail
      go_ret2
      exact ⟨rfl, HBwt_8.out⟩
    | true =>
      replace H := let_hid H
      obtain ⟨t_9, ht_9, H⟩ := H
      obtain rfl : t_9 = false := ht_9.symm
      replace H := app_hid H
      replace H := ite_f H
      obtain ⟨w_last_14, hw_last_14⟩ : ∃ x, wt_8.alloc (.cells #[.int .i64 x_id, .int .i64 x_day, .int .i64 x_zone, .int .i64 x_grams, .int .i64 x_paid, .int .i64 x_from_, .int .i64 x_to_, .int .i64 x_leave, .int .i64 x_arrive] 25) = x := ⟨_, rfl⟩
      have bw_last_14 : Below wt_8.heap.size wt_8 w_last_14 := by rw [← hw_last_14]; exact (Below.refl _ _).alloc (Nat.le_refl _) _
      have Dlast_14_x_0 := Lib.hid (apart_box kx_0_0)
      have HBw_last_14 := Lib.hid (Below.step HBwt_8.out bw_last_14)
      have kx_0_0__1089 := cell_below bw_last_14 kx_0_0
      have kx_0_1__1090 := cell_below bw_last_14 kx_0_1
      have kx_0_2__1091 := cell_below bw_last_14 kx_0_2
      have kx_0_3__1092 := cell_below bw_last_14 kx_0_3
      have kx_0_4__1093 := cell_below bw_last_14 kx_0_4
      have kx_0_5__1094 := cell_below bw_last_14 kx_0_5
      have kx_0_6__1095 := cell_below bw_last_14 kx_0_6
      have kx_0_7__1096 := cell_below bw_last_14 kx_0_7
      have kx_0_8__1097 := cell_below bw_last_14 kx_0_8
      clear bw_last_14
      have klast_14_0 : w_last_14.cell? ⟨wt_8.heap.size, 0, none⟩ = some (.int .i64 x_id) := by rw [← hw_last_14]; exact box_new _ _ _ 0 _ rfl
      have klast_14_1 : w_last_14.cell? ⟨wt_8.heap.size, 1, none⟩ = some (.int .i64 x_day) := by rw [← hw_last_14]; exact box_new _ _ _ 1 _ rfl
      have klast_14_2 : w_last_14.cell? ⟨wt_8.heap.size, 2, none⟩ = some (.int .i64 x_zone) := by rw [← hw_last_14]; exact box_new _ _ _ 2 _ rfl
      have klast_14_3 : w_last_14.cell? ⟨wt_8.heap.size, 3, none⟩ = some (.int .i64 x_grams) := by rw [← hw_last_14]; exact box_new _ _ _ 3 _ rfl
      have klast_14_4 : w_last_14.cell? ⟨wt_8.heap.size, 4, none⟩ = some (.int .i64 x_paid) := by rw [← hw_last_14]; exact box_new _ _ _ 4 _ rfl
      have klast_14_5 : w_last_14.cell? ⟨wt_8.heap.size, 5, none⟩ = some (.int .i64 x_from_) := by rw [← hw_last_14]; exact box_new _ _ _ 5 _ rfl
      have klast_14_6 : w_last_14.cell? ⟨wt_8.heap.size, 6, none⟩ = some (.int .i64 x_to_) := by rw [← hw_last_14]; exact box_new _ _ _ 6 _ rfl
      have klast_14_7 : w_last_14.cell? ⟨wt_8.heap.size, 7, none⟩ = some (.int .i64 x_leave) := by rw [← hw_last_14]; exact box_new _ _ _ 7 _ rfl
      have klast_14_8 : w_last_14.cell? ⟨wt_8.heap.size, 8, none⟩ = some (.int .i64 x_arrive) := by rw [← hw_last_14]; exact box_new _ _ _ 8 _ rfl
      have Olast_14 : Hid (w_last_14.ownsRow w.heap.size 25 9 (.slice (some ⟨wt_8.heap.size, 0, none⟩) 1 1) 1 [.int .i64 x_id, .int .i64 x_day, .int .i64 x_zone, .int .i64 x_grams, .int .i64 x_paid, .int .i64 x_from_, .int .i64 x_to_, .int .i64 x_leave, .int .i64 x_arrive]) := Lib.hid (by rw [← hw_last_14]; exact own_laid (n := 1) HBwt_8.out.size rfl rfl (by unfold maxLen; omega))
      go_wp2_with fail
      clear kx_0_0 kx_0_1 kx_0_2 kx_0_3 kx_0_4 kx_0_5 kx_0_6 kx_0_7 kx_0_8
      have bd4 : Below w_last_14.heap.size w_last_14 w_last_14.drew := (Below.refl _ _).drew
      have HBw_last_14.drew := Lib.hid (Below.step HBw_last_14.out bd4)
      replace kx_0_0__1089 := cell_below bd4 kx_0_0__1089
      replace kx_0_1__1090 := cell_below bd4 kx_0_1__1090
      replace kx_0_2__1091 := cell_below bd4 kx_0_2__1091
      replace kx_0_3__1092 := cell_below bd4 kx_0_3__1092
      replace kx_0_4__1093 := cell_below bd4 kx_0_4__1093
      replace kx_0_5__1094 := cell_below bd4 kx_0_5__1094
      replace kx_0_6__1095 := cell_below bd4 kx_0_6__1095
      replace kx_0_7__1096 := cell_below bd4 kx_0_7__1096
      replace kx_0_8__1097 := cell_below bd4 kx_0_8__1097
      replace klast_14_0 := cell_below bd4 klast_14_0
      replace klast_14_1 := cell_below bd4 klast_14_1
      replace klast_14_2 := cell_below bd4 klast_14_2
      replace klast_14_3 := cell_below bd4 klast_14_3
      replace klast_14_4 := cell_below bd4 klast_14_4
      replace klast_14_5 := cell_below bd4 klast_14_5
      replace klast_14_6 := cell_below bd4 klast_14_6
      replace klast_14_7 := cell_below bd4 klast_14_7
      replace klast_14_8 := cell_below bd4 klast_14_8
      replace Olast_14 := Lib.hid (own_below Olast_14.out bd4)
      clear bd4
      replace H := bind_hid H
      obtain ⟨t_21, qt_21, H⟩ := H
      obtain ⟨t_21_x0, t_21_x1, t_21_x2, t_21_x3, t_21_x4, t_21_x5, t_21_x6, t_21_x7, t_21_x8, t_21_x9⟩ := t_21
      replace H := unIntA10_hid H
      replace H := idx_hid H
      obtain ⟨nt_24, yt_24, et_24, lt_24, gt_24, H⟩ := H
      subst et_24
      have it_24 : ∀ w, (Instr.index 121 (.agg #[.int .i64 t_21_x0, .int .i64 t_21_x1, .int .i64 t_21_x2, .int .i64 t_21_x3, .int .i64 t_21_x4, .int .i64 t_21_x5, .int .i64 t_21_x6, .int .i64 t_21_x7, .int .i64 t_21_x8, .int .i64 t_21_x9]) (.int .i64 (nt_24 : Int))).run Try.prog w = .ok (.int .i64 yt_24) w := by
        intro w
        have hl := lt_24
        have hg := gt_24.out
        clear gt_24 H
        rcases nt_24 with _ | _ | _ | _ | _ | _ | _ | _ | _ | _ | _
        · obtain rfl := Option.some.inj hg; rfl
        · obtain rfl := Option.some.inj hg; rfl
        · obtain rfl := Option.some.inj hg; rfl
        · obtain rfl := Option.some.inj hg; rfl
        · obtain rfl := Option.some.inj hg; rfl
        · obtain rfl := Option.some.inj hg; rfl
        · obtain rfl := Option.some.inj hg; rfl
        · obtain rfl := Option.some.inj hg; rfl
        · obtain rfl := Option.some.inj hg; rfl
        · obtain rfl := Option.some.inj hg; rfl
        · simp at hl; omega
      refine wp_region_held_drew (S := fun w' => w'.cell? ⟨w.heap.size, 0, none⟩ = some (.int .i64 x_id) ∧ w'.cell? ⟨w.heap.size, 1, none⟩ = some (.int .i64 x_day) ∧ w'.cell? ⟨w.heap.size, 2, none⟩ = some (.int .i64 x_zone) ∧ w'.cell? ⟨w.heap.size, 3, none⟩ = some (.int .i64 x_grams) ∧ w'.cell? ⟨w.heap.size, 4, none⟩ = some (.int .i64 x_paid) ∧ w'.cell? ⟨w.heap.size, 5, none⟩ = some (.int .i64 (nt_24 : Int)) ∧ w'.cell? ⟨w.heap.size, 6, none⟩ = some (.int .i64 x_to_) ∧ w'.cell? ⟨w.heap.size, 7, none⟩ = some (.int .i64 x_leave) ∧ w'.cell? ⟨w.heap.size, 8, none⟩ = some (.int .i64 x_arrive) ∧ Hid (0 ≤ w'.heap.size)) (by kernel_rfl) ⟨kx_0_0__1089, kx_0_1__1090, kx_0_2__1091, kx_0_3__1092, kx_0_4__1093, kx_0_5__1094, kx_0_6__1095, kx_0_7__1096, kx_0_8__1097, Lib.hid (Nat.zero_le _)⟩ (fun hHeld => ?_)
      refine wpAnyH_take (i := 0) (oi := _) (v := ?_) rfl (by kernel_rfl) (by kernel_rfl) (by kernel_rfl) (fun _ _ _ h => h) (Or.inl ⟨by rfl, ?_⟩) (by assumption) ?_
      rotate_left
      · intro w hSw
        (try dsimp only at hSw)
        (try simp only [List.getElem_toArray, List.getElem_cons_zero, List.getElem_cons_succ])
        go_simp
        (try with_reducible rfl)
      try simp only [Act.put, List.getElem_toArray, List.getElem_cons_zero, List.getElem_cons_succ, List.setIfInBounds_toArray, List.set_cons_zero, List.set_cons_succ]
      refine wpAnyH_take (i := 1) (oi := _) (v := ?_) rfl (by kernel_rfl) (by kernel_rfl) (by kernel_rfl) (fun _ _ _ h => h) (Or.inl ⟨by rfl, ?_⟩) (by assumption) ?_
      rotate_left
      · intro w hSw
        (try dsimp only at hSw)
        (try simp only [List.getElem_toArray, List.getElem_cons_zero, List.getElem_cons_succ])
        go_simp
        (try with_reducible rfl)
      try simp only [Act.put, List.getElem_toArray, List.getElem_cons_zero, List.getElem_cons_succ, List.setIfInBounds_toArray, List.set_cons_zero, List.set_cons_succ]
      refine wpAnyH_take (i := 2) (oi := _) (v := ?_) rfl (by kernel_rfl) (by kernel_rfl) (by kernel_rfl) (fun _ _ _ h => h) (Or.inl ⟨by rfl, ?_⟩) (by assumption) ?_
      rotate_left
      · intro w hSw
        (try dsimp only at hSw)
        (try simp only [List.getElem_toArray, List.getElem_cons_zero, List.getElem_cons_succ])
        go_simp
        (try with_reducible rfl)
      try simp only [Act.put, List.getElem_toArray, List.getElem_cons_zero, List.getElem_cons_succ, List.setIfInBounds_toArray, List.set_cons_zero, List.set_cons_succ]
      refine wpAnyH_take (i := 3) (oi := _) (v := ?_) rfl (by kernel_rfl) (by kernel_rfl) (by kernel_rfl) (fun _ _ _ h => h) (Or.inl ⟨by rfl, ?_⟩) (by assumption) ?_
      rotate_left
      · intro w hSw
        (try dsimp only at hSw)
        (try simp only [List.getElem_toArray, List.getElem_cons_zero, List.getElem_cons_succ])
        go_simp
        (try with_reducible rfl)
      try simp only [Act.put, List.getElem_toArray, List.getElem_cons_zero, List.getElem_cons_succ, List.setIfInBounds_toArray, List.set_cons_zero, List.set_cons_succ]
      refine wpAnyH_take (i := 4) (oi := _) (v := ?_) rfl (by kernel_rfl) (by kernel_rfl) (by kernel_rfl) (fun _ _ _ h => h) (Or.inl ⟨by rfl, ?_⟩) (by assumption) ?_
      rotate_left
      · intro w hSw
        (try dsimp only at hSw)
        (try simp only [List.getElem_toArray, List.getElem_cons_zero, List.getElem_cons_succ])
        go_simp
        (try with_reducible rfl)
      try simp only [Act.put, List.getElem_toArray, List.getElem_cons_zero, List.getElem_cons_succ, List.setIfInBounds_toArray, List.set_cons_zero, List.set_cons_succ]
      refine wpAnyH_take (i := 6) (oi := _) (v := ?_) rfl (by kernel_rfl) (by kernel_rfl) (by kernel_rfl) (fun _ _ _ h => h) (Or.inl ⟨by rfl, ?_⟩) (by assumption) ?_
      rotate_left
      · intro w hSw
        (try dsimp only at hSw)
        (try simp only [List.getElem_toArray, List.getElem_cons_zero, List.getElem_cons_succ])
        go_simp
        (try with_reducible rfl)
      try simp only [Act.put, List.getElem_toArray, List.getElem_cons_zero, List.getElem_cons_succ, List.setIfInBounds_toArray, List.set_cons_zero, List.set_cons_succ]
      refine wpAnyH_take (i := 7) (oi := _) (v := ?_) rfl (by kernel_rfl) (by kernel_rfl) (by kernel_rfl) (fun _ _ _ h => h) (Or.inl ⟨by rfl, ?_⟩) (by assumption) ?_
      rotate_left
      · intro w hSw
        (try dsimp only at hSw)
        (try simp only [List.getElem_toArray, List.getElem_cons_zero, List.getElem_cons_succ])
        go_simp
        (try with_reducible rfl)
      try simp only [Act.put, List.getElem_toArray, List.getElem_cons_zero, List.getElem_cons_succ, List.setIfInBounds_toArray, List.set_cons_zero, List.set_cons_succ]
      refine wpAnyH_ready (rs := [5]) (by kernel_rfl) (by simp) ?_
      refine AllReadyH.cons (o := _) rfl (fun K_ hK_ => ?_) AllReadyH.nil
      (try simp only [List.getElem_toArray, List.getElem_cons_zero, List.getElem_cons_succ])
      go_simp
      go_at_call 108
      refine (Go.Proofs.Ytlljmgphgmklcaa.GiLatestMinutes.C fuel (mails) (x_to_) (x_arrive) A0 c0 _   (Lib.hid (Cells.below M0.out HBw_last_14.drew.out)) N0 qt_21).mono ?_
      rintro e_t_21 wt_21 ⟨rfl, bt_21⟩
      unfold Go.Proofs.Ytlljmgphgmklcaa.PIntA10.IntA10.val
      have HBwt_21 := Lib.hid (Below.step HBw_last_14.drew.out bt_21)
      replace kx_0_0__1089 := cell_below bt_21 kx_0_0__1089
      replace kx_0_1__1090 := cell_below bt_21 kx_0_1__1090
      replace kx_0_2__1091 := cell_below bt_21 kx_0_2__1091
      replace kx_0_3__1092 := cell_below bt_21 kx_0_3__1092
      replace kx_0_4__1093 := cell_below bt_21 kx_0_4__1093
      replace kx_0_5__1094 := cell_below bt_21 kx_0_5__1094
      replace kx_0_6__1095 := cell_below bt_21 kx_0_6__1095
      replace kx_0_7__1096 := cell_below bt_21 kx_0_7__1096
      replace kx_0_8__1097 := cell_below bt_21 kx_0_8__1097
      replace klast_14_0 := cell_below bt_21 klast_14_0
      replace klast_14_1 := cell_below bt_21 klast_14_1
      replace klast_14_2 := cell_below bt_21 klast_14_2
      replace klast_14_3 := cell_below bt_21 klast_14_3
      replace klast_14_4 := cell_below bt_21 klast_14_4
      replace klast_14_5 := cell_below bt_21 klast_14_5
      replace klast_14_6 := cell_below bt_21 klast_14_6
      replace klast_14_7 := cell_below bt_21 klast_14_7
      replace klast_14_8 := cell_below bt_21 klast_14_8
      replace Olast_14 := Lib.hid (own_below Olast_14.out bt_21)
      clear bt_21
      clear qt_21
      first | refine hK_.out _ _ ⟨kx_0_0__1089, kx_0_1__1090, kx_0_2__1091, kx_0_3__1092, kx_0_4__1093, kx_0_5__1094, kx_0_6__1095, kx_0_7__1096, kx_0_8__1097, Lib.hid (Nat.zero_le _)⟩ (fun hHeld => ?_) | (go_wp2_with fail; refine hK_.out _ _ ⟨kx_0_0__1089, kx_0_1__1090, kx_0_2__1091, kx_0_3__1092, kx_0_4__1093, kx_0_5__1094, kx_0_6__1095, kx_0_7__1096, kx_0_8__1097, Lib.hid (Nat.zero_le _)⟩ (fun hHeld => ?_))
      clear hK_ K_
      try simp only [Act.put, List.getElem_toArray, List.getElem_cons_zero, List.getElem_cons_succ, List.setIfInBounds_toArray, List.set_cons_zero, List.set_cons_succ]
      refine wpAnyH_take (i := 8) (oi := _) (v := ?_) rfl (by kernel_rfl) (by kernel_rfl) (by kernel_rfl) (fun _ _ _ h => h) (Or.inl ⟨by rfl, ?_⟩) (by assumption) ?_
      rotate_left
      · intro w hSw
        (try dsimp only at hSw)
        (try simp only [List.getElem_toArray, List.getElem_cons_zero, List.getElem_cons_succ])
        go_simp
        (try with_reducible rfl)
      try simp only [Act.put, List.getElem_toArray, List.getElem_cons_zero, List.getElem_cons_succ, List.setIfInBounds_toArray, List.set_cons_zero, List.set_cons_succ]
      refine wpAnyH_take (i := 9) (oi := _) (v := ?_) rfl (by kernel_rfl) (by kernel_rfl) (by kernel_rfl) (fun _ _ _ h => h) (Or.inl ⟨by rfl, ?_⟩) (by assumption) ?_
      rotate_left
      · intro w hSw
        (try dsimp only at hSw)
        (try simp only [List.getElem_toArray, List.getElem_cons_zero, List.getElem_cons_succ])
        go_simp
        (try with_reducible rfl)
      try simp only [Act.put, List.getElem_toArray, List.getElem_cons_zero, List.getElem_cons_succ, List.setIfInBounds_toArray, List.set_cons_zero, List.set_cons_succ]
      refine wpAnyH_ready (rs := [10]) (by kernel_rfl) (by simp) ?_
      refine AllReadyH.cons (o := _) rfl (fun K_ hK_ => ?_) AllReadyH.nil
      obtain ⟨wb26_26, hwb26_26⟩ : ∃ x, (wt_21).setCell ⟨wt_8.heap.size, 7, none⟩ (.int .i64 yt_24) = x := ⟨_, rfl⟩
      have z0b26_26 := Olast_14.out.frozenAt 7
      have Sb26_26 := Lib.hid (own_stores [(7, .int .i64 yt_24)] Olast_14.out)
      have Pb26_26 : Hid (wb26_26.ownsRow w.heap.size 25 9 (.slice (some ⟨wt_8.heap.size, 0, none⟩) 1 1) 1 [.int .i64 x_id, .int .i64 x_day, .int .i64 x_zone, .int .i64 x_grams, .int .i64 x_paid, .int .i64 (nt_24 : Int), .int .i64 x_to_, .int .i64 yt_24, .int .i64 x_arrive]) := Lib.hid (by rw [← hwb26_26]; exact Sb26_26.out.1)
      have Gb26_26 : Hid (wt_21.grownBy wb26_26 (Value.slice (some ⟨wt_8.heap.size, 0, none⟩) 1 1).ownBlock) := Lib.hid (by rw [← hwb26_26]; exact Sb26_26.out.2)
      have HBwb26_26 := Lib.hid (HBwt_21.out.grown Gb26_26.out HBwt_21.out.size (fun q hq => (Olast_14.out.lt q hq).1))
      clear Sb26_26
      have kx_0_0__1116 := cell_other kx_0_0__1089 Gb26_26.out Dlast_14_x_0.out
      have kx_0_1__1117 := cell_other kx_0_1__1090 Gb26_26.out Dlast_14_x_0.out
      have kx_0_2__1118 := cell_other kx_0_2__1091 Gb26_26.out Dlast_14_x_0.out
      have kx_0_3__1119 := cell_other kx_0_3__1092 Gb26_26.out Dlast_14_x_0.out
      have kx_0_4__1120 := cell_other kx_0_4__1093 Gb26_26.out Dlast_14_x_0.out
      have kx_0_5__1121 := cell_other kx_0_5__1094 Gb26_26.out Dlast_14_x_0.out
      have kx_0_6__1122 := cell_other kx_0_6__1095 Gb26_26.out Dlast_14_x_0.out
      have kx_0_7__1123 := cell_other kx_0_7__1096 Gb26_26.out Dlast_14_x_0.out
      have kx_0_8__1124 := cell_other kx_0_8__1097 Gb26_26.out Dlast_14_x_0.out
      clear Olast_14 Gb26_26
      have klast_14_0__1125 : wb26_26.cell? ⟨wt_8.heap.size, 0, none⟩ = some (.int .i64 x_id) := Pb26_26.out.cells rfl 0 _ rfl
      have klast_14_1__1126 : wb26_26.cell? ⟨wt_8.heap.size, 1, none⟩ = some (.int .i64 x_day) := Pb26_26.out.cells rfl 1 _ rfl
      have klast_14_2__1127 : wb26_26.cell? ⟨wt_8.heap.size, 2, none⟩ = some (.int .i64 x_zone) := Pb26_26.out.cells rfl 2 _ rfl
      have klast_14_3__1128 : wb26_26.cell? ⟨wt_8.heap.size, 3, none⟩ = some (.int .i64 x_grams) := Pb26_26.out.cells rfl 3 _ rfl
      have klast_14_4__1129 : wb26_26.cell? ⟨wt_8.heap.size, 4, none⟩ = some (.int .i64 x_paid) := Pb26_26.out.cells rfl 4 _ rfl
      have klast_14_5__1130 : wb26_26.cell? ⟨wt_8.heap.size, 5, none⟩ = some (.int .i64 (nt_24 : Int)) := Pb26_26.out.cells rfl 5 _ rfl
      have klast_14_6__1131 : wb26_26.cell? ⟨wt_8.heap.size, 6, none⟩ = some (.int .i64 x_to_) := Pb26_26.out.cells rfl 6 _ rfl
      have klast_14_7__1132 : wb26_26.cell? ⟨wt_8.heap.size, 7, none⟩ = some (.int .i64 yt_24) := Pb26_26.out.cells rfl 7 _ rfl
      have klast_14_8__1133 : wb26_26.cell? ⟨wt_8.heap.size, 8, none⟩ = some (.int .i64 x_arrive) := Pb26_26.out.cells rfl 8 _ rfl
      (try simp only [List.getElem_toArray, List.getElem_cons_zero, List.getElem_cons_succ])
      go_simp
      first | refine hK_.out _ _ ⟨kx_0_0__1116, kx_0_1__1117, kx_0_2__1118, kx_0_3__1119, kx_0_4__1120, kx_0_5__1121, kx_0_6__1122, kx_0_7__1123, kx_0_8__1124, Lib.hid (Nat.zero_le _)⟩ (fun hHeld => ?_) | (go_wp2_with fail; refine hK_.out _ _ ⟨kx_0_0__1116, kx_0_1__1117, kx_0_2__1118, kx_0_3__1119, kx_0_4__1120, kx_0_5__1121, kx_0_6__1122, kx_0_7__1123, kx_0_8__1124, Lib.hid (Nat.zero_le _)⟩ (fun hHeld => ?_))
      clear hK_ K_
      try simp only [Act.put, List.getElem_toArray, List.getElem_cons_zero, List.getElem_cons_succ, List.setIfInBounds_toArray, List.set_cons_zero, List.set_cons_succ]
      refine wpAnyH_done (by kernel_rfl) ?_ _
      try clear z0b26_26
      try clear kx_0_0__1089
      try clear kx_0_1__1090
      try clear kx_0_2__1091
      try clear kx_0_3__1092
      try clear kx_0_4__1093
      try clear kx_0_5__1094
      try clear kx_0_6__1095
      try clear kx_0_7__1096
      try clear kx_0_8__1097
      try clear klast_14_0
      try clear klast_14_1
      try clear klast_14_2
      try clear klast_14_3
      try clear klast_14_4
      try clear klast_14_5
      try clear klast_14_6
      try clear klast_14_7
      try clear klast_14_8
      replace H := let_hid H
      obtain ⟨t_31, ht_31, H⟩ := H
      cases t_31 with
      | false =>
        replace H := ite_f H
        replace H := let_hid H
        obtain ⟨t_38, ht_38, H⟩ := H
        cases ret_hid H
        go_wp2_with fail
        go_ret2
        exact ⟨rfl, HBwb26_26.out⟩
      | true =>
        replace H := ite_t H
        cases ret_hid H
        go_wp2_with fail
        go_ret2
        exact ⟨rfl, HBwb26_26.out⟩
end Go.Proofs.Ytlljmgphgmklcaa.GiSpareMinutes

/- loop.example/g01062/laws.FnExactSpareMinutes as a plain function, and the contract of the program's: where the plain one has an answer, the program has it. Conditions: slices read as lists. -/
namespace Go.Proofs.Ytlljmgphgmklcaa.GlFnExactSpareMinutes
set_option linter.unusedVariables false
set_option linter.unusedSimpArgs false
open Go.RowKit
open Go.Proofs.Ytlljmgphgmklcaa.Rowed Go.Proofs.Ytlljmgphgmklcaa.Turn Go.Proofs.Ytlljmgphgmklcaa.Aid Go.Proofs.Ytlljmgphgmklcaa.GoP Go.Proofs.Ytlljmgphgmklcaa.GoM

def P (fuel : Nat) (aMails : (List Go.Proofs.Ytlljmgphgmklcaa.PMail.Mail)) (aX : Go.Proofs.Ytlljmgphgmklcaa.PCover.Cover) : Option (Bool) :=
  unCover aX fun (aX_id : Int) (aX_day : Int) (aX_zone : Int) (aX_grams : Int) (aX_paid : Int) (aX_from_ : Int) (aX_to_ : Int) (aX_leave : Int) (aX_arrive : Int) =>
  Option.bind (Go.Proofs.Ytlljmgphgmklcaa.GlSzMailS.P aMails 1048576) fun (t_5 : Int) =>
  letK (decide (t_5 < 0)) fun (t_8 : Bool) =>
  iteK t_8
  (some true)
  (Option.bind (Go.Proofs.Ytlljmgphgmklcaa.GlToMailS.P aMails) fun (t_11 : (List Go.Proofs.Ytlljmgphgmklcaa.PMail.Mail)) =>
  Option.bind (Go.Proofs.Ytlljmgphgmklcaa.GlToCover.P (Go.Proofs.Ytlljmgphgmklcaa.PCover.Cover.mk aX_id aX_day aX_zone aX_grams aX_paid aX_from_ aX_to_ aX_leave aX_arrive)) fun (t_13 : Go.Proofs.Ytlljmgphgmklcaa.PCover.Cover) =>
  unCover t_13 fun (t_13_id : Int) (t_13_day : Int) (t_13_zone : Int) (t_13_grams : Int) (t_13_paid : Int) (t_13_from_ : Int) (t_13_to_ : Int) (t_13_leave : Int) (t_13_arrive : Int) =>
  bind2 (Go.Proofs.Ytlljmgphgmklcaa.GsSpareMinutes.P fuel t_11 (Go.Proofs.Ytlljmgphgmklcaa.PCover.Cover.mk t_13_id t_13_day t_13_zone t_13_grams t_13_paid t_13_from_ t_13_to_ t_13_leave t_13_arrive)) fun (t_14a : Int) (t_14b : Bool) =>
  Option.bind (Go.Proofs.Ytlljmgphgmklcaa.GlToMailS.P aMails) fun (t_21 : (List Go.Proofs.Ytlljmgphgmklcaa.PMail.Mail)) =>
  Option.bind (Go.Proofs.Ytlljmgphgmklcaa.GlToCover.P (Go.Proofs.Ytlljmgphgmklcaa.PCover.Cover.mk aX_id aX_day aX_zone aX_grams aX_paid aX_from_ aX_to_ aX_leave aX_arrive)) fun (t_25 : Go.Proofs.Ytlljmgphgmklcaa.PCover.Cover) =>
  unCover t_25 fun (t_25_id : Int) (t_25_day : Int) (t_25_zone : Int) (t_25_grams : Int) (t_25_paid : Int) (t_25_from_ : Int) (t_25_to_ : Int) (t_25_leave : Int) (t_25_arrive : Int) =>
  bind2 (Go.Proofs.Ytlljmgphgmklcaa.GiSpareMinutes.P fuel t_21 (Go.Proofs.Ytlljmgphgmklcaa.PCover.Cover.mk t_25_id t_25_day t_25_zone t_25_grams t_25_paid t_25_from_ t_25_to_ t_25_leave t_25_arrive)) fun (t_26a : Int) (t_26b : Bool) =>
  letK (t_26a != t_14a) fun (t_34 : Bool) =>
  joinK (fun (t_39 : Bool) =>
  iteK t_39
  (some false)
  (Option.bind (Go.Proofs.Ytlljmgphgmklcaa.GlToMailS.P aMails) fun (t_43 : (List Go.Proofs.Ytlljmgphgmklcaa.PMail.Mail)) =>
  Option.bind (Go.Proofs.Ytlljmgphgmklcaa.GlEqMailS.P t_21 t_43) fun (t_44 : Bool) =>
  letK (!t_44) fun (t_45 : Bool) =>
  iteK t_45
  (some false)
  (some true))) fun jt_39 => iteK t_34 (appK jt_39 true) (letK (!(t_26b == t_14b)) fun (t_38 : Bool) =>
  appK jt_39 t_38))

set_option maxRecDepth 100000 in
set_option maxHeartbeats 2000000 in
theorem C (fuel : Nat) (aMails : (List Go.Proofs.Ytlljmgphgmklcaa.PMail.Mail)) (aX : Go.Proofs.Ytlljmgphgmklcaa.PCover.Cover) (A0 : Option Addr) (c0 : Nat)  (w : World) (M0 : Hid (Cells w 4 A0 aMails.length (Go.Proofs.Ytlljmgphgmklcaa.PMail.flat aMails))) (N0 : Hid (aMails.length ≤ 9223372036854775807))  {r : Bool} (H : Hid (P fuel aMails aX = some r)) :
    Calls Try.prog 10 #[.slice A0 aMails.length c0, aX.val] w (Gives (.bool r) w) := by
  have HB := Lib.hid (Below.refl w.heap.size w)
  unfold P at H
  obtain ⟨aX_id, aX_day, aX_zone, aX_grams, aX_paid, aX_from_, aX_to_, aX_leave, aX_arrive⟩ := aX
  replace H := unCover_hid H
  unfold Go.Proofs.Ytlljmgphgmklcaa.PCover.Cover.val
  have N0o := N0.out
  go_enter Try.func10, Try.ntmps10
  obtain ⟨w_aX_0, hw_aX_0⟩ : ∃ x, w.alloc (.cells #[.int .i64 aX_id, .int .i64 aX_day, .int .i64 aX_zone, .int .i64 aX_grams, .int .i64 aX_paid, .int .i64 aX_from_, .int .i64 aX_to_, .int .i64 aX_leave, .int .i64 aX_arrive] 23) = x := ⟨_, rfl⟩
  have bw_aX_0 : Below w.heap.size w w_aX_0 := by rw [← hw_aX_0]; exact (Below.refl _ _).alloc (Nat.le_refl _) _
  have HBw_aX_0 := Lib.hid (Below.step HB.out bw_aX_0)
  clear bw_aX_0
  have kaX_0_0 : w_aX_0.cell? ⟨w.heap.size, 0, none⟩ = some (.int .i64 aX_id) := by rw [← hw_aX_0]; exact box_new _ _ _ 0 _ rfl
  have kaX_0_1 : w_aX_0.cell? ⟨w.heap.size, 1, none⟩ = some (.int .i64 aX_day) := by rw [← hw_aX_0]; exact box_new _ _ _ 1 _ rfl
  have kaX_0_2 : w_aX_0.cell? ⟨w.heap.size, 2, none⟩ = some (.int .i64 aX_zone) := by rw [← hw_aX_0]; exact box_new _ _ _ 2 _ rfl
  have kaX_0_3 : w_aX_0.cell? ⟨w.heap.size, 3, none⟩ = some (.int .i64 aX_grams) := by rw [← hw_aX_0]; exact box_new _ _ _ 3 _ rfl
  have kaX_0_4 : w_aX_0.cell? ⟨w.heap.size, 4, none⟩ = some (.int .i64 aX_paid) := by rw [← hw_aX_0]; exact box_new _ _ _ 4 _ rfl
  have kaX_0_5 : w_aX_0.cell? ⟨w.heap.size, 5, none⟩ = some (.int .i64 aX_from_) := by rw [← hw_aX_0]; exact box_new _ _ _ 5 _ rfl
  have kaX_0_6 : w_aX_0.cell? ⟨w.heap.size, 6, none⟩ = some (.int .i64 aX_to_) := by rw [← hw_aX_0]; exact box_new _ _ _ 6 _ rfl
  have kaX_0_7 : w_aX_0.cell? ⟨w.heap.size, 7, none⟩ = some (.int .i64 aX_leave) := by rw [← hw_aX_0]; exact box_new _ _ _ 7 _ rfl
  have kaX_0_8 : w_aX_0.cell? ⟨w.heap.size, 8, none⟩ = some (.int .i64 aX_arrive) := by rw [← hw_aX_0]; exact box_new _ _ _ 8 _ rfl
  replace H := bind_hid H
  obtain ⟨t_5, qt_5, H⟩ := H
  go_wp2_with fail
  go_at_call 25
  refine (Go.Proofs.Ytlljmgphgmklcaa.GlSzMailS.C (aMails) (1048576) A0 c0 _   (Lib.hid (Cells.below M0.out HBw_aX_0.out)) N0 qt_5).mono ?_
  rintro e_t_5 wt_5 ⟨rfl, bt_5⟩
  have HBwt_5 := Lib.hid (Below.step HBw_aX_0.out bt_5)
  replace kaX_0_0 := cell_below bt_5 kaX_0_0
  replace kaX_0_1 := cell_below bt_5 kaX_0_1
  replace kaX_0_2 := cell_below bt_5 kaX_0_2
  replace kaX_0_3 := cell_below bt_5 kaX_0_3
  replace kaX_0_4 := cell_below bt_5 kaX_0_4
  replace kaX_0_5 := cell_below bt_5 kaX_0_5
  replace kaX_0_6 := cell_below bt_5 kaX_0_6
  replace kaX_0_7 := cell_below bt_5 kaX_0_7
  replace kaX_0_8 := cell_below bt_5 kaX_0_8
  clear bt_5
  replace H := let_hid H
  obtain ⟨t_8, ht_8, H⟩ := H
  cases t_8 with
  | false =>
    replace H := ite_f H
    go_wp2_with fail
    have bd5 : Below wt_5.heap.size wt_5 wt_5.drew := (Below.refl _ _).drew
    have HBwt_5.drew := Lib.hid (Below.step HBwt_5.out bd5)
    replace kaX_0_0 := cell_below bd5 kaX_0_0
    replace kaX_0_1 := cell_below bd5 kaX_0_1
    replace kaX_0_2 := cell_below bd5 kaX_0_2
    replace kaX_0_3 := cell_below bd5 kaX_0_3
    replace kaX_0_4 := cell_below bd5 kaX_0_4
    replace kaX_0_5 := cell_below bd5 kaX_0_5
    replace kaX_0_6 := cell_below bd5 kaX_0_6
    replace kaX_0_7 := cell_below bd5 kaX_0_7
    replace kaX_0_8 := cell_below bd5 kaX_0_8
    clear bd5
    replace H := bind_hid H
    obtain ⟨t_11, qt_11, H⟩ := H
    replace H := bind_hid H
    obtain ⟨t_13, qt_13, H⟩ := H
    obtain ⟨t_13_id, t_13_day, t_13_zone, t_13_grams, t_13_paid, t_13_from_, t_13_to_, t_13_leave, t_13_arrive⟩ := t_13
    replace H := unCover_hid H
    replace H := bind2_hid H
    obtain ⟨t_14a, t_14b, qt_14, H⟩ := H
    go_region_held3 (fun w' => w'.cell? ⟨w.heap.size, 0, none⟩ = some (.int .i64 aX_id) ∧ w'.cell? ⟨w.heap.size, 1, none⟩ = some (.int .i64 aX_day) ∧ w'.cell? ⟨w.heap.size, 2, none⟩ = some (.int .i64 aX_zone) ∧ w'.cell? ⟨w.heap.size, 3, none⟩ = some (.int .i64 aX_grams) ∧ w'.cell? ⟨w.heap.size, 4, none⟩ = some (.int .i64 aX_paid) ∧ w'.cell? ⟨w.heap.size, 5, none⟩ = some (.int .i64 aX_from_) ∧ w'.cell? ⟨w.heap.size, 6, none⟩ = some (.int .i64 aX_to_) ∧ w'.cell? ⟨w.heap.size, 7, none⟩ = some (.int .i64 aX_leave) ∧ w'.cell? ⟨w.heap.size, 8, none⟩ = some (.int .i64 aX_arrive)) (first | exact ⟨kaX_0_0, kaX_0_1, kaX_0_2, kaX_0_3, kaX_0_4, kaX_0_5, kaX_0_6, kaX_0_7, kaX_0_8⟩)
        (first
          | (go_at_call 28
             refine (Go.Proofs.Ytlljmgphgmklcaa.GlToMailS.C (aMails) A0 c0 _   (Lib.hid (Cells.below M0.out HBwt_5.drew.out)) N0 qt_11).mono ?_
             rintro e_t_11 wt_11 ⟨At_11, ct_11, rfl, ot_11, bt_11⟩
             have Dt_11_aX_0 := Lib.hid (apart_callbox ot_11 kaX_0_0)
             have Ot_11 := Lib.hid (own_lower ot_11 HBwt_5.drew.out.size)
             clear ot_11
             have HBwt_11 := Lib.hid (Below.step HBwt_5.drew.out bt_11)
             replace kaX_0_0 := cell_below bt_11 kaX_0_0
             replace kaX_0_1 := cell_below bt_11 kaX_0_1
             replace kaX_0_2 := cell_below bt_11 kaX_0_2
             replace kaX_0_3 := cell_below bt_11 kaX_0_3
             replace kaX_0_4 := cell_below bt_11 kaX_0_4
             replace kaX_0_5 := cell_below bt_11 kaX_0_5
             replace kaX_0_6 := cell_below bt_11 kaX_0_6
             replace kaX_0_7 := cell_below bt_11 kaX_0_7
             replace kaX_0_8 := cell_below bt_11 kaX_0_8
             clear bt_11
             clear qt_11)
          | (go_at_call 17
             refine (Go.Proofs.Ytlljmgphgmklcaa.GlToCover.C ((Go.Proofs.Ytlljmgphgmklcaa.PCover.Cover.mk aX_id aX_day aX_zone aX_grams aX_paid aX_from_ aX_to_ aX_leave aX_arrive))  _    qt_13).mono ?_
             rintro e_t_13 wt_13 ⟨rfl, bt_13⟩
             unfold Go.Proofs.Ytlljmgphgmklcaa.PCover.Cover.val
             have HBwt_13 := Lib.hid (Below.step HBwt_11.out bt_13)
             replace kaX_0_0 := cell_below bt_13 kaX_0_0
             replace kaX_0_1 := cell_below bt_13 kaX_0_1
             replace kaX_0_2 := cell_below bt_13 kaX_0_2
             replace kaX_0_3 := cell_below bt_13 kaX_0_3
             replace kaX_0_4 := cell_below bt_13 kaX_0_4
             replace kaX_0_5 := cell_below bt_13 kaX_0_5
             replace kaX_0_6 := cell_below bt_13 kaX_0_6
             replace kaX_0_7 := cell_below bt_13 kaX_0_7
             replace kaX_0_8 := cell_below bt_13 kaX_0_8
             replace Ot_11 := Lib.hid (own_below Ot_11.out bt_13)
             clear bt_13
             clear qt_13)
          | (go_at_call 47
             refine (Go.Proofs.Ytlljmgphgmklcaa.GsSpareMinutes.C fuel (t_11) ((Go.Proofs.Ytlljmgphgmklcaa.PCover.Cover.mk t_13_id t_13_day t_13_zone t_13_grams t_13_paid t_13_from_ t_13_to_ t_13_leave t_13_arrive)) At_11 ct_11 _   (Lib.hid (own_cells Ot_11.out)) (Lib.hid (own_max Ot_11.out)) qt_14).mono ?_
             rintro e_t_14 wt_14 ⟨rfl, bt_14⟩
             have HBwt_14 := Lib.hid (Below.step HBwt_13.out bt_14)
             replace kaX_0_0 := cell_below bt_14 kaX_0_0
             replace kaX_0_1 := cell_below bt_14 kaX_0_1
             replace kaX_0_2 := cell_below bt_14 kaX_0_2
             replace kaX_0_3 := cell_below bt_14 kaX_0_3
             replace kaX_0_4 := cell_below bt_14 kaX_0_4
             replace kaX_0_5 := cell_below bt_14 kaX_0_5
             replace kaX_0_6 := cell_below bt_14 kaX_0_6
             replace kaX_0_7 := cell_below bt_14 kaX_0_7
             replace kaX_0_8 := cell_below bt_14 kaX_0_8
             replace Ot_11 := Lib.hid (own_below Ot_11.out bt_14)
             clear bt_14
             clear qt_14))
    replace H := bind_hid H
    obtain ⟨t_21, qt_21, H⟩ := H
    go_wp2_with fail
    go_at_call 28
    refine (Go.Proofs.Ytlljmgphgmklcaa.GlToMailS.C (aMails) A0 c0 _   (Lib.hid (Cells.below M0.out HBwt_14.out)) N0 qt_21).mono ?_
    rintro e_t_21 wt_21 ⟨At_21, ct_21, rfl, ot_21, bt_21⟩
    have Dt_21_t_11 := Lib.hid (apart_call ot_21 Ot_11.out)
    have Dt_21_aX_0 := Lib.hid (apart_callbox ot_21 kaX_0_0)
    have Ot_21 := Lib.hid (own_lower ot_21 HBwt_14.out.size)
    clear ot_21
    have HBwt_21 := Lib.hid (Below.step HBwt_14.out bt_21)
    replace kaX_0_0 := cell_below bt_21 kaX_0_0
    replace kaX_0_1 := cell_below bt_21 kaX_0_1
    replace kaX_0_2 := cell_below bt_21 kaX_0_2
    replace kaX_0_3 := cell_below bt_21 kaX_0_3
    replace kaX_0_4 := cell_below bt_21 kaX_0_4
    replace kaX_0_5 := cell_below bt_21 kaX_0_5
    replace kaX_0_6 := cell_below bt_21 kaX_0_6
    replace kaX_0_7 := cell_below bt_21 kaX_0_7
    replace kaX_0_8 := cell_below bt_21 kaX_0_8
    replace Ot_11 := Lib.hid (own_below Ot_11.out bt_21)
    clear bt_21
    replace H := bind_hid H
    obtain ⟨t_25, qt_25, H⟩ := H
    obtain ⟨t_25_id, t_25_day, t_25_zone, t_25_grams, t_25_paid, t_25_from_, t_25_to_, t_25_leave, t_25_arrive⟩ := t_25
    replace H := unCover_hid H
    go_wp2_with fail
    go_at_call 17
    refine (Go.Proofs.Ytlljmgphgmklcaa.GlToCover.C ((Go.Proofs.Ytlljmgphgmklcaa.PCover.Cover.mk aX_id aX_day aX_zone aX_grams aX_paid aX_from_ aX_to_ aX_leave aX_arrive))  _    qt_25).mono ?_
    rintro e_t_25 wt_25 ⟨rfl, bt_25⟩
    unfold Go.Proofs.Ytlljmgphgmklcaa.PCover.Cover.val
    have HBwt_25 := Lib.hid (Below.step HBwt_21.out bt_25)
    replace kaX_0_0 := cell_below bt_25 kaX_0_0
    replace kaX_0_1 := cell_below bt_25 kaX_0_1
    replace kaX_0_2 := cell_below bt_25 kaX_0_2
    replace kaX_0_3 := cell_below bt_25 kaX_0_3
    replace kaX_0_4 := cell_below bt_25 kaX_0_4
    replace kaX_0_5 := cell_below bt_25 kaX_0_5
    replace kaX_0_6 := cell_below bt_25 kaX_0_6
    replace kaX_0_7 := cell_below bt_25 kaX_0_7
    replace kaX_0_8 := cell_below bt_25 kaX_0_8
    replace Ot_11 := Lib.hid (own_below Ot_11.out bt_25)
    replace Ot_21 := Lib.hid (own_below Ot_21.out bt_25)
    clear bt_25
    replace H := bind2_hid H
    obtain ⟨t_26a, t_26b, qt_26, H⟩ := H
    go_wp2_with fail
    go_at_call 48
    refine (Go.Proofs.Ytlljmgphgmklcaa.GiSpareMinutes.C fuel (t_21) ((Go.Proofs.Ytlljmgphgmklcaa.PCover.Cover.mk t_25_id t_25_day t_25_zone t_25_grams t_25_paid t_25_from_ t_25_to_ t_25_leave t_25_arrive)) At_21 ct_21 _   (Lib.hid (own_cells Ot_21.out)) (Lib.hid (own_max Ot_21.out)) qt_26).mono ?_
    rintro e_t_26 wt_26 ⟨rfl, bt_26⟩
    have HBwt_26 := Lib.hid (Below.step HBwt_25.out bt_26)
    replace kaX_0_0 := cell_below bt_26 kaX_0_0
    replace kaX_0_1 := cell_below bt_26 kaX_0_1
    replace kaX_0_2 := cell_below bt_26 kaX_0_2
    replace kaX_0_3 := cell_below bt_26 kaX_0_3
    replace kaX_0_4 := cell_below bt_26 kaX_0_4
    replace kaX_0_5 := cell_below bt_26 kaX_0_5
    replace kaX_0_6 := cell_below bt_26 kaX_0_6
    replace kaX_0_7 := cell_below bt_26 kaX_0_7
    replace kaX_0_8 := cell_below bt_26 kaX_0_8
    replace Ot_11 := Lib.hid (own_below Ot_11.out bt_26)
    replace Ot_21 := Lib.hid (own_below Ot_21.out bt_26)
    clear bt_26
    replace H := let_hid H
    obtain ⟨t_34, ht_34, H⟩ := H
    replace H := join_hid H
    cases t_34 with
    | false =>
      replace H := ite_f H
      replace H := let_hid H
      obtain ⟨t_38, ht_38, H⟩ := H
      replace H := app_hid H
      cases t_38 with
      | false =>
        replace H := ite_f H
        replace H := bind_hid H
        obtain ⟨t_43, qt_43, H⟩ := H
        go_wp2_with fail
        go_at_call 28
        refine (Go.Proofs.Ytlljmgphgmklcaa.GlToMailS.C (aMails) A0 c0 _   (Lib.hid (Cells.below M0.out HBwt_26.out)) N0 qt_43).mono ?_
        rintro e_t_43 wt_43 ⟨At_43, ct_43, rfl, ot_43, bt_43⟩
        have Dt_43_t_11 := Lib.hid (apart_call ot_43 Ot_11.out)
        have Dt_43_t_21 := Lib.hid (apart_call ot_43 Ot_21.out)
        have Dt_43_aX_0 := Lib.hid (apart_callbox ot_43 kaX_0_0)
        have Ot_43 := Lib.hid (own_lower ot_43 HBwt_26.out.size)
        clear ot_43
        have HBwt_43 := Lib.hid (Below.step HBwt_26.out bt_43)
        replace kaX_0_0 := cell_below bt_43 kaX_0_0
        replace kaX_0_1 := cell_below bt_43 kaX_0_1
        replace kaX_0_2 := cell_below bt_43 kaX_0_2
        replace kaX_0_3 := cell_below bt_43 kaX_0_3
        replace kaX_0_4 := cell_below bt_43 kaX_0_4
        replace kaX_0_5 := cell_below bt_43 kaX_0_5
        replace kaX_0_6 := cell_below bt_43 kaX_0_6
        replace kaX_0_7 := cell_below bt_43 kaX_0_7
        replace kaX_0_8 := cell_below bt_43 kaX_0_8
        replace Ot_11 := Lib.hid (own_below Ot_11.out bt_43)
        replace Ot_21 := Lib.hid (own_below Ot_21.out bt_43)
        clear bt_43
        replace H := bind_hid H
        obtain ⟨t_44, qt_44, H⟩ := H
        go_wp2_with fail
        go_at_call 31
        refine (Go.Proofs.Ytlljmgphgmklcaa.GlEqMailS.C (t_21) (t_43) At_21 ct_21 At_43 ct_43 _   (Lib.hid (own_cells Ot_21.out)) (Lib.hid (own_max Ot_21.out)) (Lib.hid (own_cells Ot_43.out)) (Lib.hid (own_max Ot_43.out)) qt_44).mono ?_
        rintro e_t_44 wt_44 ⟨rfl, bt_44⟩
        have HBwt_44 := Lib.hid (Below.step HBwt_43.out bt_44)
        replace kaX_0_0 := cell_below bt_44 kaX_0_0
        replace kaX_0_1 := cell_below bt_44 kaX_0_1
        replace kaX_0_2 := cell_below bt_44 kaX_0_2
        replace kaX_0_3 := cell_below bt_44 kaX_0_3
        replace kaX_0_4 := cell_below bt_44 kaX_0_4
        replace kaX_0_5 := cell_below bt_44 kaX_0_5
        replace kaX_0_6 := cell_below bt_44 kaX_0_6
        replace kaX_0_7 := cell_below bt_44 kaX_0_7
        replace kaX_0_8 := cell_below bt_44 kaX_0_8
        replace Ot_11 := Lib.hid (own_below Ot_11.out bt_44)
        replace Ot_21 := Lib.hid (own_below Ot_21.out bt_44)
        replace Ot_43 := Lib.hid (own_below Ot_43.out bt_44)
        clear bt_44
        cases t_44 with
        | false =>
          replace H := let_hid H
          obtain ⟨t_45, ht_45, H⟩ := H
          obtain rfl : t_45 = true := ht_45.symm
          replace H := ite_t H
          obtain rfl := ret_hid H
          go_wp2_with fail
          go_ret
          exact ⟨rfl, HBwt_44.out⟩
        | true =>
          replace H := let_hid H
          obtain ⟨t_45, ht_45, H⟩ := H
          obtain rfl : t_45 = false := ht_45.symm
          replace H := ite_f H
          obtain rfl := ret_hid H
          go_wp2_with fail
          go_ret
          exact ⟨rfl, HBwt_44.out⟩
      | true =>
        replace H := ite_t H
        obtain rfl := ret_hid H
        go_wp2_with fail
        go_ret
        exact ⟨rfl, HBwt_26.out⟩
    | true =>
      replace H := ite_t H
      replace H := app_hid H
      replace H := ite_t H
      obtain rfl := ret_hid H
      go_wp2_with fail
      go_ret
      exact ⟨rfl, HBwt_26.out⟩
  | true =>
    replace H := ite_t H
    obtain rfl := ret_hid H
    go_wp2_with fail
    go_ret
    exact ⟨rfl, HBwt_5.out⟩
end Go.Proofs.Ytlljmgphgmklcaa.GlFnExactSpareMinutes

/- Chapter 9: mails and routes: the plain functions of the program and of the reference agree, and the laws answer true. (Q9Leave) No condition but those of each theorem. -/
namespace Go.Proofs.Ytlljmgphgmklcaa.Q9Leave
set_option linter.unusedVariables false
set_option linter.unusedSimpArgs false
open Go.RowKit
open Go.Proofs.Ytlljmgphgmklcaa.GoP Go.Proofs.Ytlljmgphgmklcaa.PlainStamp Go.Proofs.Ytlljmgphgmklcaa.QBase Go.Proofs.Ytlljmgphgmklcaa.Q9Late Go.Proofs.Ytlljmgphgmklcaa.Q9Early Go.Proofs.Ytlljmgphgmklcaa.QFoldS Go.Proofs.Ytlljmgphgmklcaa.Q9Cand Go.Proofs.Ytlljmgphgmklcaa.Q9Dual Go.Proofs.Ytlljmgphgmklcaa.Q9Arr Go.Proofs.Ytlljmgphgmklcaa.Q9List Go.Proofs.Ytlljmgphgmklcaa.Q9Mail Go.Proofs.Ytlljmgphgmklcaa.QUp Go.Proofs.Ytlljmgphgmklcaa.QAll Go.Proofs.Ytlljmgphgmklcaa.QLoop Go.Proofs.Ytlljmgphgmklcaa.PMail Go.Proofs.Ytlljmgphgmklcaa.PIntA10

def leaveRes (l : List Mail) (o p b : Int) : Int × Bool := if goodM l = true ∧ inB o 0 9 = true ∧ inB p 0 9 = true ∧ o ≠ p ∧ inB b 0 9999 = true ∧ at_ (lateM l p b) o ≠ -1 then (at_ (lateM l p b) o, true) else (0, false)
theorem leave_test {l : List Mail} (hg : goodM l = true) {o p b : Int} (hp : 0 ≤ p ∧ p ≤ 9) (hb : 0 ≤ b ∧ b ≤ 9999) {k : Nat} {x : Mail} (hx : l[k]? = some x) :
    (x.from_ = o ∧ x.arrive ≤ b ∧ at_ (earlyM l x.to_ x.arrive) p ≤ b) ↔ x.from_ = o ∧ x.arrive ≤ at_ (lateM (l.drop (k + 1)) p b) x.to_ := by
  have hm := okM_of (m_ok hg hx)
  rw [dual hg hm.2.1 hp (by omega) hb.2, ← late_behind hg hx p b]
  constructor
  · rintro ⟨h1, _, h2⟩; exact ⟨h1, h2⟩
  · rintro ⟨h1, h2⟩
    refine ⟨h1, ?_, h2⟩
    have h3 := (dual hg hm.2.1 hp (by omega) hb.2).2 h2
    have h4 := early_low hg hm.2.1 (m := x.arrive) (by omega) hp
    omega
/-- what is told by the last mail that leads on -/
theorem leave_last {l : List Mail} (hg : goodM l = true) {o p b : Int} {k : Nat} {x : Mail} (hx : l[k]? = some x) (h1 : x.from_ = o) (h2 : x.arrive ≤ at_ (lateM (l.drop (k + 1)) p b) x.to_) (h3 : at_ (lateM (l.drop (k + 1)) p b) o = -1) : at_ (lateM l p b) o = x.leave := by
  have hok := m_ok hg hx
  have hm := okM_of hok
  have hd := late_len (l.drop (k + 1)) p b
  subst h1
  have hs : at_ (stepL x (lateM (l.drop (k + 1)) p b)) x.from_ = x.leave := by
    rw [stepL_at hd hok hm.1, if_pos ⟨h2, rfl⟩, h3]; omega
  have hmem : ∀ y ∈ l.take k, okM y = true := fun y hy => m_mem hg (List.mem_of_mem_take hy)
  have h5 := foldL_up (l.take k) hmem hm.1 (t := stepL x (lateM (l.drop (k + 1)) p b)) (by rw [stepL_len, hd])
  have h6 := foldL_top (l.take k) hmem (aheadM hg hx) hm.1 (t := stepL x (lateM (l.drop (k + 1)) p b)) (by rw [stepL_len, hd])
  rw [late_cut hx p b]
  omega
theorem leave_spec {fuel : Nat} (l : List Mail) (hl : l.length ≤ 9223372036854775807) (o p b : Int) (hf : 20 < fuel) : GsLatestLeave.P fuel l o p b = some (leaveRes l o p b) := by
  simp only [GsLatestLeave.P, l9Asked_eq l hl, l9Office_eq, Option.bind_some, letK, joinK, appK, iteK_if]
  cases ha : askM l o b with
  | false =>
    have : leaveRes l o p b = (0, false) := by
      unfold leaveRes; rw [if_neg]
      rintro ⟨h1, h2, _, _, h3, _⟩
      unfold askM at ha; rw [h1, h2, h3] at ha; exact absurd ha (by simp)
    simp [this]
  | true =>
    obtain ⟨hg, ho, hb⟩ := ask_of ha
    have ha' := ha
    unfold askM at ha'
    simp only [Bool.and_eq_true] at ha'
    obtain ⟨⟨_, ho1⟩, hb1⟩ := ha'
    cases hp : inB p 0 9 with
    | false => simp [leaveRes, hp]
    | true =>
      have hp2 := inB_of hp
      by_cases he : o = p
      · simp [he, leaveRes]
      · have he2 : (o == p) = false := by simpa using he
        have hlen := m_len hg
        simp only [Bool.not_true, Bool.false_eq_true, if_false, he2]
        rw [wrap_in (by omega) (by omega)]
        refine lp_is (n := l.length) _ (fun k (s : Int) => s = (l.length : Int) - 1 - (k : Int) ∧ at_ (lateM (l.drop (l.length - k)) p b) o = -1) ?_ ?_ fuel 0 _ (by omega) (by omega) ?_
        · rintro k s nx hk ⟨rfl, hI⟩ hn
          have hq : l.length - k - 1 < l.length := by omega
          obtain ⟨x, hx⟩ : ∃ x, l[l.length - k - 1]? = some x := ⟨_, List.getElem?_eq_getElem hq⟩
          have hxe : l[l.length - k - 1] = x := by rw [List.getElem?_eq_getElem hq] at hx; exact Option.some.inj hx
          have hi : idx l ((l.length : Int) - 1 - (k : Int)) = some x := by
            rw [show (l.length : Int) - 1 - (k : Int) = ((l.length - k - 1 : Nat) : Int) by omega, idx_nat, hx]
          have hok := m_ok hg hx
          have hm := okM_of hok
          have hd : lateM (l.drop (l.length - (k + 1))) p b = stepL x (lateM (l.drop (l.length - k)) p b) := by
            unfold lateM
            rw [show l.length - (k + 1) = l.length - k - 1 by omega, List.drop_eq_getElem_cons hq, List.foldr_cons, hxe, show l.length - k - 1 + 1 = l.length - k by omega]
          have ht := leave_test hg hp2 hb hx (o := o)
          have hll := leave_last hg hx (o := o) (p := p) (b := b)
          rw [show l.length - k - 1 + 1 = l.length - k by omega] at ht hll
          have h0 : (0 : Int) ≤ (l.length : Int) - 1 - (k : Int) := by omega
          have hn2 := fun h => hn ((l.length : Int) - 1 - (k : Int) - 1) ⟨by omega, h⟩
          have ht1 := times_eq hg hm.2.1 x.arrive
          have hat := stepL_at (i := o) (late_len (l.drop (l.length - k)) p b) hok ho
          rw [hd] at hn2
          clear hx hxe hd
          obtain ⟨a, c, d, e⟩ := x
          dsimp only at hm ht hll ht1 hat
          have no : ¬ (c = o ∧ e ≤ b ∧ at_ (earlyM l d e) p ≤ b) → at_ (stepL ⟨a, c, d, e⟩ (lateM (l.drop (l.length - k)) p b)) o = -1 := by
            intro h
            rw [hat, if_neg (fun q => h (ht.2 ⟨q.2.symm, q.1⟩)), hI]
          simp only [GsLatestLeave.l0, letK, decide_eq_true h0, iteK_if, if_true, hi, Option.bind_some, unMail, joinK, appK]
          rw [wrap_in (by omega) (by omega)]
          by_cases h1 : c = o
          · by_cases h2 : e ≤ b
            · simp only [beq_iff_eq, h1, if_true, decide_eq_true h2, ht1, Option.bind_some, idx_at (early_len l d e) hp2]
              by_cases h3 : at_ (earlyM l d e) p ≤ b
              · have h4 := hll h1 (ht.1 ⟨h1, h2, h3⟩).2 hI
                have h5 : ¬ a = -1 := by omega
                simp [h3, leaveRes, hg, ho1, hp, he, hb1, h4, h5]
              · simp only [decide_eq_false h3, Bool.false_eq_true, if_false]
                exact hn2 (no (fun q => h3 q.2.2))
            · simp only [beq_iff_eq, h1, if_true, decide_eq_false h2, Bool.false_eq_true, if_false]
              exact hn2 (no (fun q => h2 q.2.1))
          · have h1' : (c == o) = false := by simpa using h1
            simp only [h1', Bool.false_eq_true, if_false]
            exact hn2 (no (fun q => h1 q.1))
        · rintro s nx ⟨rfl, hI⟩
          have h0 : ¬ (0 : Int) ≤ (l.length : Int) - 1 - (l.length : Int) := by omega
          rw [Nat.sub_self, List.drop_zero] at hI
          simp only [GsLatestLeave.l0, letK, decide_eq_false h0, iteK_if, Bool.false_eq_true, if_false, appK, GsLatestLeave.e0]
          simp [leaveRes, hI]
        · refine ⟨by simp, ?_⟩
          rw [Nat.sub_zero, List.drop_length]
          show at_ (startL p b) o = -1
          rw [startL_at hp2 ho, if_neg he]
end Go.Proofs.Ytlljmgphgmklcaa.Q9Leave

/- Chapter 10: covers: the plain functions of the program and of the reference agree, and the laws answer true. (Q10Spare) No condition but those of each theorem. -/
namespace Go.Proofs.Ytlljmgphgmklcaa.Q10Spare
set_option linter.unusedVariables false
set_option linter.unusedSimpArgs false
open Go.RowKit
open Go.Proofs.Ytlljmgphgmklcaa.GoP Go.Proofs.Ytlljmgphgmklcaa.PlainStamp Go.Proofs.Ytlljmgphgmklcaa.QBase Go.Proofs.Ytlljmgphgmklcaa.Q10Cover Go.Proofs.Ytlljmgphgmklcaa.Q9Leave Go.Proofs.Ytlljmgphgmklcaa.Q9Late Go.Proofs.Ytlljmgphgmklcaa.Q9Dual Go.Proofs.Ytlljmgphgmklcaa.Q9Arr Go.Proofs.Ytlljmgphgmklcaa.Q9List Go.Proofs.Ytlljmgphgmklcaa.QLoop Go.Proofs.Ytlljmgphgmklcaa.PCover Go.Proofs.Ytlljmgphgmklcaa.PMail Go.Proofs.Ytlljmgphgmklcaa.PIntA10

def spareRes (ms : List Mail) (x : Cover) : Int × Bool := if (goodM ms && okC x && decide (x.leave ≤ at_ (lateM ms x.to_ x.arrive) x.from_)) = true then (at_ (lateM ms x.to_ x.arrive) x.from_ - x.leave, true) else (0, false)
theorem spare_impl {fuel : Nat} {ms : List Mail} (hl : ms.length ≤ 9223372036854775807) (x : Cover) (hf : 20 < fuel) : GiSpareMinutes.P fuel ms x = some (spareRes ms x) := by
  have e1 := isCover_eq x
  have hof := fun h => okC_of (x := x) h
  obtain ⟨a, b, c, d, e, f, g, h, i⟩ := x
  simp only [GiSpareMinutes.P, unCover, isTime_eq ms hl, e1, Option.bind_some, letK, joinK, appK, iteK_if, spareRes]
  cases hm : goodM ms with
  | false => simp
  | true =>
    cases hc : okC ⟨a, b, c, d, e, f, g, h, i⟩ with
    | false => simp
    | true =>
      have ho := hof hc
      dsimp only at ho
      have htop := late_top hm (o := g) (m := i) (i := f) (by omega) (by omega) (by omega)
      simp only [Bool.not_true, Bool.false_eq_true, if_false, latest_eq hm (show 0 ≤ g ∧ g ≤ 9 by omega) i hf, Option.bind_some, un_eq, ten (late_len ms g i), idx_at (late_len ms g i) (show 0 ≤ f ∧ f ≤ 9 by omega)]
      by_cases h0 : h ≤ at_ (lateM ms g i) f
      · have h1 : ¬ at_ (lateM ms g i) f < h := by omega
        rw [wrap_in (by omega) (by omega)]
        simp [h0, h1]
      · have h1 : at_ (lateM ms g i) f < h := by omega
        simp [h0, h1]
theorem spare_spec {fuel : Nat} {ms : List Mail} (hl : ms.length ≤ 9223372036854775807) (x : Cover) (hf : 20 < fuel) : GsSpareMinutes.P fuel ms x = some (spareRes ms x) := by
  have e1 := l10One_eq x
  have hof := fun h => okC_of (x := x) h
  have e2 := leave_spec (fuel := fuel) ms hl x.from_ x.to_ x.arrive hf
  obtain ⟨a, b, c, d, e, f, g, h, i⟩ := x
  dsimp only at e2
  simp only [GsSpareMinutes.P, unCover, l9Good_eq ms hl, e1, e2, Option.bind_some, letK, joinK, appK, iteK_if, spareRes]
  cases hm : goodM ms with
  | false => simp
  | true =>
    cases hc : okC ⟨a, b, c, d, e, f, g, h, i⟩ with
    | false => simp
    | true =>
      have ho := hof hc
      dsimp only at ho
      have htop := late_top hm (o := g) (m := i) (i := f) (by omega) (by omega) (by omega)
      have b1 : inB f 0 9 = true := by unfold inB; simp; omega
      have b2 : inB g 0 9 = true := by unfold inB; simp; omega
      have b3 : inB i 0 9999 = true := by unfold inB; simp; omega
      have hfg : f ≠ g := ho.2.2.2.2.2.1
      have hL : leaveRes ms f g i = if at_ (lateM ms g i) f = -1 then (0, false) else (at_ (lateM ms g i) f, true) := by
        unfold leaveRes
        by_cases hn : at_ (lateM ms g i) f = -1
        · rw [if_pos hn, if_neg (fun q => q.2.2.2.2.2 hn)]
        · rw [if_neg hn, if_pos ⟨hm, b1, b2, hfg, b3, hn⟩]
      simp only [hL]
      by_cases hn : at_ (lateM ms g i) f = -1
      · have h1 : ¬ h ≤ at_ (lateM ms g i) f := by omega
        simp [bind2, h1, hn]
        omega
      · rw [if_neg hn]
        simp only [bind2_some, Bool.not_true, Bool.false_eq_true, if_false]
        by_cases h0 : h ≤ at_ (lateM ms g i) f
        · have h1 : ¬ at_ (lateM ms g i) f < h := by omega
          rw [wrap_in (by omega) (by omega)]
          simp [h0, h1]
        · have h1 : at_ (lateM ms g i) f < h := by omega
          simp [h0, h1]
end Go.Proofs.Ytlljmgphgmklcaa.Q10Spare

/- Chapter 10: covers: the plain functions of the program and of the reference agree, and the laws answer true. (QL10Spare) No condition but those of each theorem. -/
namespace Go.Proofs.Ytlljmgphgmklcaa.QL10Spare
set_option linter.unusedVariables false
set_option linter.unusedSimpArgs false
open Go.RowKit
open Go.Proofs.Ytlljmgphgmklcaa.GoP Go.Proofs.Ytlljmgphgmklcaa.PlainStamp Go.Proofs.Ytlljmgphgmklcaa.QBase Go.Proofs.Ytlljmgphgmklcaa.Q10Spare Go.Proofs.Ytlljmgphgmklcaa.QLoop Go.Proofs.Ytlljmgphgmklcaa.PCover Go.Proofs.Ytlljmgphgmklcaa.PMail Go.Proofs.Ytlljmgphgmklcaa.QHMailE Go.Proofs.Ytlljmgphgmklcaa.QHCoverE

theorem law_spare {fuel : Nat} (ms : List Mail) (x : Cover) (hl : ms.length ≤ 9223372036854775807) (hf : 20 < fuel) : GlFnExactSpareMinutes.P fuel ms x = some true := by
  have ht := QHCoverE.toOne x
  obtain ⟨⟨p, q⟩, hs⟩ : ∃ y, y = spareRes ms x := ⟨_, rfl⟩
  have e1 := spare_impl (fuel := fuel) hl x hf
  have e2 := spare_spec (fuel := fuel) hl x hf
  rw [← hs] at e1 e2
  obtain ⟨a, b, c, d, e, f, g, h, i⟩ := x
  simp only [GlFnExactSpareMinutes.P, unCover, QHMailE.szS ms hl, Option.bind_some, letK, iteK_if]
  by_cases h1 : ms.length ≤ 1048576
  · rw [if_neg (by rw [if_pos h1]; simp; omega)]
    simp [ht, QHMailE.toS ms h1, e1, e2, bind2, joinK, appK, iteK_if, QHMailE.eqS]
  · rw [if_pos (by rw [if_neg h1]; simp)]
end Go.Proofs.Ytlljmgphgmklcaa.QL10Spare

