/- Texts on which the proofs of several laws stand, one behind the other (7 of 11). No condition of their own. -/
import Derived.Test.YthkaeighfjadlaaChecked
import Derived.Test.YthkaeighfjadlaaU10P1
import Derived.Test.YthkaeighfjadlaaU10P2
import Derived.Test.YthkaeighfjadlaaU10P6
import Derived.WalkKit
import Derived.WalkSpells
import Derived.WalkLawsBesides
import Derived.BigQuiet
import Derived.OwnWalk
import Derived.Deep.LoopGhost
import Derived.Deep.QuietTactic
import Derived.IntWalk
import Derived.Lib.QuietBelow
import Derived.Test.YthkaeighfjadlaaU10P4
import Derived.Test.YthkaeighfjadlaaU10P5
import Derived.Deep.RegionHeld3
import Derived.Laws.EntriesVeiled
/- loop.example/g01062/spec.BestRoute as a plain function, and the contract of the program's: where the plain one has an answer, the program has it. Conditions: slices read as lists. -/
namespace Go.Proofs.Ythkaeighfjadlaa.GsBestRoute
set_option linter.unusedVariables false
set_option linter.unusedSimpArgs false
open Go.RowKit
open Go.Proofs.Ythkaeighfjadlaa.Rowed Go.Proofs.Ythkaeighfjadlaa.Turn Go.Proofs.Ythkaeighfjadlaa.Aid Go.Proofs.Ythkaeighfjadlaa.GoP Go.Proofs.Ythkaeighfjadlaa.GoM

def l1 (list : (List Go.Proofs.Ythkaeighfjadlaa.PMail.Mail)) (to_3 : Int) (t_8a : Int) (k1 : Nat) (s : Int × Int × (List Int)) (nx1 bk1 : Int × Int × (List Int) → Option ((List Int) × Bool)) : Option ((List Int) × Bool) :=
  unp3 s fun from_1l1 minute_2l1 out_10l1 =>
  Option.bind (idx list (k1 : Int)) fun (yt_34 : Go.Proofs.Ythkaeighfjadlaa.PMail.Mail) =>
  unMail yt_34 fun (t_34_leave : Int) (t_34_from_ : Int) (t_34_to_ : Int) (t_34_arrive : Int) =>
  letK (t_34_from_ == from_1l1) fun (t_41 : Bool) =>
  joinK (fun (t_47 : Bool) =>
  joinK (fun (t_60 : Bool) =>
  iteK t_60
  (guardK (out_10l1.length ≤ 1099511627776) <|
  letK (out_10l1 ++ [(k1 : Int)]) fun (t_64 : (List Int)) =>
  appK bk1 (t_34_to_, t_34_arrive, t_64))
  (appK nx1 (from_1l1, minute_2l1, out_10l1))) fun jt_60 => iteK t_47 (Option.bind (Go.Proofs.Ythkaeighfjadlaa.GsL9Times.P list t_34_to_ t_34_arrive) fun (t_54 : (List Int)) =>
  Option.bind (idx t_54 to_3) fun (yt_56 : Int) =>
  letK (yt_56 == t_8a) fun (t_59 : Bool) =>
  appK jt_60 t_59) (appK jt_60 false)) fun jt_47 => iteK t_41 (letK (decide (minute_2l1 ≤ t_34_leave)) fun (t_46 : Bool) =>
  appK jt_47 t_46) (appK jt_47 false)

def e1 (nx0 : (Int × Int × (List Int)) → Option ((List Int) × Bool)) (s : Int × Int × (List Int)) : Option ((List Int) × Bool) :=
  unp3 s fun from_1l1 minute_2l1 out_10l1 =>
  appK nx0 (from_1l1, minute_2l1, out_10l1)

def l0 (list : (List Go.Proofs.Ythkaeighfjadlaa.PMail.Mail)) (to_3 : Int) (t_8a : Int) (s : Int × Int × (List Int)) (nx0 bk0 : Int × Int × (List Int) → Option ((List Int) × Bool)) : Option ((List Int) × Bool) :=
  unp3 s fun from_1l0 minute_2l0 out_10l0 =>
  letK (from_1l0 != to_3) fun (t_21 : Bool) =>
  joinK (fun (t_26 : Bool) =>
  iteK t_26
  (cntK (l1 list to_3 t_8a) (list.length) 0 (from_1l0, minute_2l0, out_10l0) (e1 nx0))
  (appK bk0 (from_1l0, minute_2l0, out_10l0))) fun jt_26 => iteK t_21 (appK jt_26 true) (letK (minute_2l0 != t_8a) fun (t_25 : Bool) =>
  appK jt_26 t_25)

def e0  (s : Int × Int × (List Int)) : Option ((List Int) × Bool) :=
  unp3 s fun from_1l0 minute_2l0 out_10l0 =>
  some (out_10l0, true)

def P (fuel : Nat) (list : (List Go.Proofs.Ythkaeighfjadlaa.PMail.Mail)) (from_1 : Int) (minute : Int) (to_3 : Int) : Option ((List Int) × Bool) :=
  bind2 (Go.Proofs.Ythkaeighfjadlaa.GsEarliestAt.P list from_1 minute to_3) fun (t_8a : Int) (t_8b : Bool) =>
  letK (!t_8b) fun (t_15 : Bool) =>
  iteK t_15
  (some (([] : List Int), false))
  (loopK (l0 list to_3 t_8a) fuel (from_1, minute, ([] : List Int)) (e0 ))

set_option maxRecDepth 100000 in
set_option maxHeartbeats 2000000 in
theorem C (fuel : Nat) (list : (List Go.Proofs.Ythkaeighfjadlaa.PMail.Mail)) (from_1 : Int) (minute : Int) (to_3 : Int) (A0 : Option Addr) (c0 : Nat)  (w : World) (M0 : Hid (Cells w 4 A0 list.length (Go.Proofs.Ythkaeighfjadlaa.PMail.flat list))) (N0 : Hid (list.length ≤ 9223372036854775807))  {r0 : (List Int)} {r1 : Bool} (H : Hid (P fuel list from_1 minute to_3 = some (r0, r1))) :
    Calls Try.prog 11 #[.slice A0 list.length c0, .int .i64 from_1, .int .i64 minute, .int .i64 to_3] w (fun e w' => ∃ A_r0 c_r0, e = .returned (.tuple #[.slice A_r0 r0.length c_r0, .bool r1]) ∧ w'.ownsRow w.heap.size 3 1 (.slice A_r0 r0.length c_r0) r0.length (Go.Proofs.Ythkaeighfjadlaa.HelpInt.iv r0) ∧ Below w.heap.size w w') := by
  have HB := Lib.hid (Below.refl w.heap.size w)
  unfold P at H
  have N0o := N0.out
  obtain ⟨i0_3, hi_3, hz0_3, hz1_3, hz2_3⟩ := Aid.info_parts (P := Try.prog) (T := 3) (z := .int .i64 0) (s := 1) (b := 8) (by kernel_rfl)
  go_enter Try.func11, Try.ntmps11
  obtain ⟨w_t_2, hw_t_2⟩ : ∃ x, w.alloc (.cells #[] 3) = x := ⟨_, rfl⟩
  have bw_t_2 : Below w.heap.size w w_t_2 := by rw [← hw_t_2]; exact (Below.refl _ _).alloc (Nat.le_refl _) _
  have Ot_2 : Hid (w_t_2.ownsRow w.heap.size 3 1 (.slice (some ⟨w.heap.size, 0, none⟩) 0 0) 0 []) := Lib.hid (by rw [← hw_t_2]; exact own_empty HB.out.size)
  have HBw_t_2 := Lib.hid (Below.step HB.out bw_t_2)
  clear bw_t_2
  replace H := bind2_hid H
  obtain ⟨t_8a, t_8b, qt_8, H⟩ := H
  go_wp2_with fail
  go_at_call 16
  refine (Go.Proofs.Ythkaeighfjadlaa.GsEarliestAt.C (list) (from_1) (minute) (to_3) A0 c0 _   (Lib.hid (Cells.below M0.out HBw_t_2.out)) N0 qt_8).mono ?_
  rintro e_t_8 wt_8 ⟨rfl, bt_8⟩
  have HBwt_8 := Lib.hid (Below.step HBw_t_2.out bt_8)
  replace Ot_2 := Lib.hid (own_below Ot_2.out bt_8)
  clear bt_8
  cases t_8b with
  | false =>
    replace H := let_hid H
    obtain ⟨t_15, ht_15, H⟩ := H
    obtain rfl : t_15 = true := ht_15.symm
    replace H := ite_t H
    cases ret_hid H
    go_wp2_with fail
    go_ret2
    exact ⟨(some ⟨w.heap.size, 0, none⟩), 0, rfl, Ot_2.out, HBwt_8.out⟩
  | true =>
    replace H := let_hid H
    obtain ⟨t_15, ht_15, H⟩ := H
    obtain rfl : t_15 = false := ht_15.symm
    replace H := ite_f H
    go_wp2_with fail
    go_loopg [1, 2, 10] (fuel) (fun m_ v1_ v2_ v10_ wr => ∃ (from_1l0 : Int) (minute_2l0 : Int) (out_10l0 : (List Int)) (Aout_10l0 : Option Addr) (cout_10l0 : Nat), v1_ = .int .i64 from_1l0 ∧ v2_ = .int .i64 minute_2l0 ∧ v10_ = .slice Aout_10l0 out_10l0.length cout_10l0 ∧ Hid (loopK (l0 list to_3 t_8a) m_ (from_1l0, minute_2l0, out_10l0) (e0 ) = some (r0, r1)) ∧ Hid (Below w.heap.size w wr) ∧ Hid (wr.ownsRow w.heap.size 3 1 (.slice Aout_10l0 out_10l0.length cout_10l0) out_10l0.length (Go.Proofs.Ythkaeighfjadlaa.HelpInt.iv out_10l0)))
    case atStart => exact ⟨_, _, _, _, _, rfl, rfl, rfl, H, HBwt_8, Ot_2⟩
    case round =>
      obtain ⟨from_1l0, minute_2l0, out_10l0, Aout_10l0, cout_10l0, rfl, rfl, rfl, H, HBwr0, Oout_10l0⟩ := hrel
      rename World => wr0
      cases gk with
      | zero => exact (loop_zero H).elim
      | succ m0 =>
        replace H := loop_succ H
        unfold l0 at H
        replace H := unp3_hid H
        replace H := let_hid H
        obtain ⟨t_21, ht_21, H⟩ := H
        replace H := join_hid H
        cases t_21 with
        | false =>
          replace H := ite_f H
          replace H := let_hid H
          obtain ⟨t_25, ht_25, H⟩ := H
          replace H := app_hid H
          cases t_25 with
          | false =>
            replace H := ite_f H
            replace H := app_hid H
            unfold e0 at H
            replace H := unp3_hid H
            cases ret_hid H
            go_wp2_with fail
            go_ret2
            exact ⟨Aout_10l0, cout_10l0, rfl, Oout_10l0.out, HBwr0.out⟩
          | true =>
            replace H := ite_t H
            go_wp2_with fail
            go_loopg [13, 1, 2, 10] (list.length) (fun m_ v13_ v1_ v2_ v10_ wr => ∃ (k1 : Nat) (from_1l1 : Int) (minute_2l1 : Int) (out_10l1 : (List Int)) (Aout_10l1 : Option Addr) (cout_10l1 : Nat), k1 + m_ = list.length ∧ v13_ = .int .i64 (k1 : Int) ∧ v1_ = .int .i64 from_1l1 ∧ v2_ = .int .i64 minute_2l1 ∧ v10_ = .slice Aout_10l1 out_10l1.length cout_10l1 ∧ Hid (cntK (l1 list to_3 t_8a) m_ k1 (from_1l1, minute_2l1, out_10l1) (e1 (fun s' => loopK (l0 list to_3 t_8a) m0 s' (e0 ))) = some (r0, r1)) ∧ Hid (Below w.heap.size w wr) ∧ Hid (wr.ownsRow w.heap.size 3 1 (.slice Aout_10l1 out_10l1.length cout_10l1) out_10l1.length (Go.Proofs.Ythkaeighfjadlaa.HelpInt.iv out_10l1)))
            case atStart => exact ⟨0, _, _, _, _, _, by omega, rfl, rfl, rfl, rfl, H, HBwr0, Oout_10l0⟩
            case round =>
              obtain ⟨k1, from_1l1, minute_2l1, out_10l1, Aout_10l1, cout_10l1, hkm1, rfl, rfl, rfl, rfl, H, HBwr1, Oout_10l1⟩ := hrel
              rename World => wr1
              cases gk with
              | zero =>
                obtain rfl : k1 = list.length := by omega
                have hc1 : decide (((list.length : Nat) : Int) < ((list.length : Nat) : Int)) = false := by simp
                replace H := cnt_zero H
                unfold e1 at H
                replace H := unp3_hid H
                replace H := app_hid H
                go_wp2_with fail
                go_roundg m0
                case measure => omega
                case rel => exact ⟨_, _, _, _, _, rfl, rfl, rfl, H, HBwr1, Oout_10l1⟩
              | succ m1 =>
                have hlt1 : k1 < list.length := by omega
                have hc1 : decide ((k1 : Int) < ((list.length : Nat) : Int)) = true := by simp; omega
                replace H := cnt_succ H
                unfold l1 at H
                replace H := unp3_hid H
                replace H := idx_hid H
                obtain ⟨nt_34, yt_34, et_34, lt_34, gt_34, H⟩ := H
                obtain rfl : k1 = nt_34 := by omega
                clear et_34
                obtain ⟨t_34_leave, t_34_from_, t_34_to_, t_34_arrive⟩ := yt_34
                replace H := unMail_hid H
                obtain ⟨ab_t_34, ao_t_34, zt_34, At_34, z_t_34, ct_34_0, ct_34_1, ct_34_2, ct_34_3⟩ := Go.Proofs.Ythkaeighfjadlaa.OMail.at_ M0.out lt_34
                obtain rfl := Option.some.inj (gt_34.out.symm.trans z_t_34)
                subst At_34
                have ltt_34 := cell_lt ct_34_0
                replace ct_34_0 := cell_below HBwr1.out ct_34_0
                replace ct_34_1 := cell_below HBwr1.out ct_34_1
                replace ct_34_2 := cell_below HBwr1.out ct_34_2
                replace ct_34_3 := cell_below HBwr1.out ct_34_3
                clear z_t_34
                have b0t_34 : (0 : Int) ≤ (k1 : Int) := by omega
                have b1t_34 : (k1 : Int) < ((list.length : Nat) : Int) := by omega
                have b2t_34 : ((k1 : Int)).toNat = k1 := by omega
                obtain ⟨w_x_36, hw_x_36⟩ : ∃ x, wr1.alloc (.cells #[.int .i64 t_34_leave, .int .i64 t_34_from_, .int .i64 t_34_to_, .int .i64 t_34_arrive] 93) = x := ⟨_, rfl⟩
                have bw_x_36 : Below wr1.heap.size wr1 w_x_36 := by rw [← hw_x_36]; exact (Below.refl _ _).alloc (Nat.le_refl _) _
                have Dx_36_out_10l1 := Lib.hid (apart_fresh Oout_10l1.out)
                have HBw_x_36 := Lib.hid (Below.step HBwr1.out bw_x_36)
                have ct_34_0__339 := cell_below bw_x_36 ct_34_0
                have ct_34_1__340 := cell_below bw_x_36 ct_34_1
                have ct_34_2__341 := cell_below bw_x_36 ct_34_2
                have ct_34_3__342 := cell_below bw_x_36 ct_34_3
                replace Oout_10l1 := Lib.hid (own_below Oout_10l1.out bw_x_36)
                clear bw_x_36
                have kx_36_0 : w_x_36.cell? ⟨wr1.heap.size, 0, none⟩ = some (.int .i64 t_34_leave) := by rw [← hw_x_36]; exact box_new _ _ _ 0 _ rfl
                have kx_36_1 : w_x_36.cell? ⟨wr1.heap.size, 1, none⟩ = some (.int .i64 t_34_from_) := by rw [← hw_x_36]; exact box_new _ _ _ 1 _ rfl
                have kx_36_2 : w_x_36.cell? ⟨wr1.heap.size, 2, none⟩ = some (.int .i64 t_34_to_) := by rw [← hw_x_36]; exact box_new _ _ _ 2 _ rfl
                have kx_36_3 : w_x_36.cell? ⟨wr1.heap.size, 3, none⟩ = some (.int .i64 t_34_arrive) := by rw [← hw_x_36]; exact box_new _ _ _ 3 _ rfl
                replace H := let_hid H
                obtain ⟨t_41, ht_41, H⟩ := H
                replace H := join_hid H
                cases t_41 with
                | false =>
                  replace H := ite_f H
                  replace H := app_hid H
                  replace H := join_hid H
                  replace H := ite_f H
                  replace H := app_hid H
                  replace H := ite_f H
                  replace H := app_hid H
                  go_wp2_with fail
                  clear ct_34_0 ct_34_1 ct_34_2 ct_34_3
                  go_roundg m1
                  case measure => omega
                  case rel => exact ⟨k1 + 1, _, _, _, _, _, by omega, by go_num, rfl, rfl, rfl, H, HBw_x_36, Oout_10l1⟩
                | true =>
                  replace H := ite_t H
                  replace H := let_hid H
                  obtain ⟨t_46, ht_46, H⟩ := H
                  replace H := app_hid H
                  replace H := join_hid H
                  cases t_46 with
                  | false =>
                    replace H := ite_f H
                    replace H := app_hid H
                    replace H := ite_f H
                    replace H := app_hid H
                    go_wp2_with fail
                    clear ct_34_0 ct_34_1 ct_34_2 ct_34_3
                    go_roundg m1
                    case measure => omega
                    case rel => exact ⟨k1 + 1, _, _, _, _, _, by omega, by go_num, rfl, rfl, rfl, H, HBw_x_36, Oout_10l1⟩
                  | true =>
                    replace H := ite_t H
                    replace H := bind_hid H
                    obtain ⟨t_54, qt_54, H⟩ := H
                    go_wp2_with fail
                    clear ct_34_0 ct_34_1 ct_34_2 ct_34_3
                    go_at_call 62
                    refine (Go.Proofs.Ythkaeighfjadlaa.GsL9Times.C (list) (t_34_to_) (t_34_arrive) (some ⟨ab_t_34, ao_t_34, none⟩) c0 _   (Lib.hid (Cells.below M0.out HBw_x_36.out)) N0 qt_54).mono ?_
                    rintro e_t_54 wt_54 ⟨At_54, ct_54, rfl, ot_54, bt_54⟩
                    have Dt_54_out_10l1 := Lib.hid (apart_call ot_54 Oout_10l1.out)
                    have Dt_54_x_36 := Lib.hid (apart_callbox ot_54 kx_36_0)
                    have Ot_54 := Lib.hid (own_lower ot_54 HBw_x_36.out.size)
                    clear ot_54
                    have HBwt_54 := Lib.hid (Below.step HBw_x_36.out bt_54)
                    replace ct_34_0__339 := cell_below bt_54 ct_34_0__339
                    replace ct_34_1__340 := cell_below bt_54 ct_34_1__340
                    replace ct_34_2__341 := cell_below bt_54 ct_34_2__341
                    replace ct_34_3__342 := cell_below bt_54 ct_34_3__342
                    replace kx_36_0 := cell_below bt_54 kx_36_0
                    replace kx_36_1 := cell_below bt_54 kx_36_1
                    replace kx_36_2 := cell_below bt_54 kx_36_2
                    replace kx_36_3 := cell_below bt_54 kx_36_3
                    replace Oout_10l1 := Lib.hid (own_below Oout_10l1.out bt_54)
                    clear bt_54
                    replace H := idx_hid H
                    obtain ⟨nt_56, yt_56, et_56, lt_56, gt_56, H⟩ := H
                    subst et_56
                    obtain ⟨qt_56, Qt_56⟩ := own_some Ot_54.out (by omega)
                    subst Qt_56
                    obtain ⟨ab_t_56, ao_t_56, zt_56, At_56, z_t_56, ct_56_0⟩ := Go.Proofs.Ythkaeighfjadlaa.HelpInt.Ints.at_ (own_cells Ot_54.out) (k := nt_56) (by omega)
                    obtain rfl := Option.some.inj (gt_56.out.symm.trans z_t_56)
                    simp only [Option.some.injEq, Addr.mk.injEq] at At_56
                    obtain ⟨rfl, rfl, _⟩ := At_56
                    clear z_t_56
                    simp only [Nat.zero_add] at ct_56_0
                    have b0t_56 : (0 : Int) ≤ (nt_56 : Int) := by omega
                    have b1t_56 : (nt_56 : Int) < ((t_54.length : Nat) : Int) := by omega
                    have b2t_56 : ((nt_56 : Int)).toNat = nt_56 := by omega
                    replace H := let_hid H
                    obtain ⟨t_59, ht_59, H⟩ := H
                    replace H := app_hid H
                    cases t_59 with
                    | false =>
                      replace H := ite_f H
                      replace H := app_hid H
                      go_wp2_with fail
                      go_roundg m1
                      case measure => omega
                      case rel => exact ⟨k1 + 1, _, _, _, _, _, by omega, by go_num, rfl, rfl, rfl, H, HBwt_54, Oout_10l1⟩
                    | true =>
                      replace H := ite_t H
                      obtain ⟨w_t_63, hw_t_63⟩ : ∃ x, wt_54.alloc (.cells #[.int .i64 (k1 : Int)] 3) = x := ⟨_, rfl⟩
                      have bw_t_63 : Below wt_54.heap.size wt_54 w_t_63 := by rw [← hw_t_63]; exact (Below.refl _ _).alloc (Nat.le_refl _) _
                      have HBw_t_63 := Lib.hid (Below.step HBwt_54.out bw_t_63)
                      have ct_34_0__343 := cell_below bw_t_63 ct_34_0__339
                      have ct_34_1__344 := cell_below bw_t_63 ct_34_1__340
                      have ct_34_2__345 := cell_below bw_t_63 ct_34_2__341
                      have ct_34_3__346 := cell_below bw_t_63 ct_34_3__342
                      have kx_36_0__347 := cell_below bw_t_63 kx_36_0
                      have kx_36_1__348 := cell_below bw_t_63 kx_36_1
                      have kx_36_2__349 := cell_below bw_t_63 kx_36_2
                      have kx_36_3__350 := cell_below bw_t_63 kx_36_3
                      have ct_56_0__351 := cell_below bw_t_63 ct_56_0
                      replace Oout_10l1 := Lib.hid (own_below Oout_10l1.out bw_t_63)
                      replace Ot_54 := Lib.hid (own_below Ot_54.out bw_t_63)
                      clear bw_t_63
                      replace H := guard_hid H
                      obtain ⟨hlt_64, H⟩ := H
                      replace H := let_hid H
                      obtain ⟨t_64, ht_64, H⟩ := H
                      have hht_64 := Lib.hid ht_64
                      clear ht_64
                      have hst_64 := HBw_t_63.out.size
                      go_wp2_with (at_builtin; refine wpList_append_own_at _ rfl _ _ 27 rfl w.heap.size 3 i0_3 (.int .i64 0) 1 8 Try.underlying27 hi_3 hz0_3 hz1_3 hz2_3 rfl (by decide) _ _ _ rfl Oout_10l1.out ⟨wt_54.heap.size, 0, none⟩ 1 1 [.int .i64 (k1 : Int)] rfl rfl (news_new hw_t_63) (one_cells rfl) (by unfold maxLen; omega) (by omega) hst_64 ?_; intro vt_64 wt_64 ot_64 gt_64 zt_64 yt_64; clear zt_64; obtain ⟨qt_64, ct_64, rfl, pt_64⟩ := own_push hht_64.out (Go.Proofs.Ythkaeighfjadlaa.HelpInt.iv_snoc _ _) rfl ot_64; have Pt_64 := Lib.hid pt_64; have Yt_64 := Lib.hid yt_64; have Gt_64 := Lib.hid gt_64; clear ot_64 gt_64 pt_64 yt_64; refine stop_in ?_)
                      refine stop_out ?_
                      have HBwt_64 := Lib.hid (HBw_t_63.out.grown Gt_64.out hst_64 (fun q hq => (Oout_10l1.out.lt q hq).1))
                      clear hst_64
                      have Dt_64_x_36 : Hid (Apart (some ⟨qt_64, 0, none⟩) _) := Lib.hid (apart_app (Apart.symm Dx_36_out_10l1.out) (fun a_ ha_ => by cases ha_; exact cell_lt kx_36_0__347) Yt_64.out)
                      have Dt_64_t_54 : Hid (Apart (some ⟨qt_64, 0, none⟩) _) := Lib.hid (apart_app (Apart.symm Dt_54_out_10l1.out) (fun a_ ha_ => (own_lt Ot_54.out a_ ha_).2) Yt_64.out)
                      replace ct_34_0__343 := cell_other ct_34_0__343 Gt_64.out (apart_old Oout_10l1.out ltt_34)
                      replace ct_34_1__344 := cell_other ct_34_1__344 Gt_64.out (apart_old Oout_10l1.out ltt_34)
                      replace ct_34_2__345 := cell_other ct_34_2__345 Gt_64.out (apart_old Oout_10l1.out ltt_34)
                      replace ct_34_3__346 := cell_other ct_34_3__346 Gt_64.out (apart_old Oout_10l1.out ltt_34)
                      replace kx_36_0__347 := cell_other kx_36_0__347 Gt_64.out (Apart.symm Dx_36_out_10l1.out)
                      replace kx_36_1__348 := cell_other kx_36_1__348 Gt_64.out (Apart.symm Dx_36_out_10l1.out)
                      replace kx_36_2__349 := cell_other kx_36_2__349 Gt_64.out (Apart.symm Dx_36_out_10l1.out)
                      replace kx_36_3__350 := cell_other kx_36_3__350 Gt_64.out (Apart.symm Dx_36_out_10l1.out)
                      replace ct_56_0__351 := cell_other ct_56_0__351 Gt_64.out (Apart.symm Dt_54_out_10l1.out)
                      replace Ot_54 := Lib.hid (own_other Ot_54.out Gt_64.out (Apart.symm Dt_54_out_10l1.out))
                      clear ct_34_0__339 ct_34_1__340 ct_34_2__341 ct_34_3__342 kx_36_0 kx_36_1 kx_36_2 kx_36_3 ct_56_0
                      clear Oout_10l1 Yt_64 Gt_64
                      replace H := app_hid H
                      unfold e1 at H
                      replace H := unp3_hid H
                      replace H := app_hid H
                      go_wp2_with fail
                      go_roundg m0
                      case measure => omega
                      case rel => exact ⟨_, _, _, _, _, rfl, rfl, rfl, H, HBwt_64, Pt_64⟩
        | true =>
          replace H := ite_t H
          replace H := app_hid H
          replace H := ite_t H
          go_wp2_with fail
          go_loopg [13, 1, 2, 10] (list.length) (fun m_ v13_ v1_ v2_ v10_ wr => ∃ (k1 : Nat) (from_1l1 : Int) (minute_2l1 : Int) (out_10l1 : (List Int)) (Aout_10l1 : Option Addr) (cout_10l1 : Nat), k1 + m_ = list.length ∧ v13_ = .int .i64 (k1 : Int) ∧ v1_ = .int .i64 from_1l1 ∧ v2_ = .int .i64 minute_2l1 ∧ v10_ = .slice Aout_10l1 out_10l1.length cout_10l1 ∧ Hid (cntK (l1 list to_3 t_8a) m_ k1 (from_1l1, minute_2l1, out_10l1) (e1 (fun s' => loopK (l0 list to_3 t_8a) m0 s' (e0 ))) = some (r0, r1)) ∧ Hid (Below w.heap.size w wr) ∧ Hid (wr.ownsRow w.heap.size 3 1 (.slice Aout_10l1 out_10l1.length cout_10l1) out_10l1.length (Go.Proofs.Ythkaeighfjadlaa.HelpInt.iv out_10l1)))
          case atStart => exact ⟨0, _, _, _, _, _, by omega, rfl, rfl, rfl, rfl, H, HBwr0, Oout_10l0⟩
          case round =>
            obtain ⟨k1, from_1l1, minute_2l1, out_10l1, Aout_10l1, cout_10l1, hkm1, rfl, rfl, rfl, rfl, H, HBwr1, Oout_10l1⟩ := hrel
            rename World => wr1
            cases gk with
            | zero =>
              obtain rfl : k1 = list.length := by omega
              have hc1 : decide (((list.length : Nat) : Int) < ((list.length : Nat) : Int)) = false := by simp
              replace H := cnt_zero H
              unfold e1 at H
              replace H := unp3_hid H
              replace H := app_hid H
              go_wp2_with fail
              go_roundg m0
              case measure => omega
              case rel => exact ⟨_, _, _, _, _, rfl, rfl, rfl, H, HBwr1, Oout_10l1⟩
            | succ m1 =>
              have hlt1 : k1 < list.length := by omega
              have hc1 : decide ((k1 : Int) < ((list.length : Nat) : Int)) = true := by simp; omega
              replace H := cnt_succ H
              unfold l1 at H
              replace H := unp3_hid H
              replace H := idx_hid H
              obtain ⟨nt_34, yt_34, et_34, lt_34, gt_34, H⟩ := H
              obtain rfl : k1 = nt_34 := by omega
              clear et_34
              obtain ⟨t_34_leave, t_34_from_, t_34_to_, t_34_arrive⟩ := yt_34
              replace H := unMail_hid H
              obtain ⟨ab_t_34, ao_t_34, zt_34, At_34, z_t_34, ct_34_0, ct_34_1, ct_34_2, ct_34_3⟩ := Go.Proofs.Ythkaeighfjadlaa.OMail.at_ M0.out lt_34
              obtain rfl := Option.some.inj (gt_34.out.symm.trans z_t_34)
              subst At_34
              have ltt_34 := cell_lt ct_34_0
              replace ct_34_0 := cell_below HBwr1.out ct_34_0
              replace ct_34_1 := cell_below HBwr1.out ct_34_1
              replace ct_34_2 := cell_below HBwr1.out ct_34_2
              replace ct_34_3 := cell_below HBwr1.out ct_34_3
              clear z_t_34
              have b0t_34 : (0 : Int) ≤ (k1 : Int) := by omega
              have b1t_34 : (k1 : Int) < ((list.length : Nat) : Int) := by omega
              have b2t_34 : ((k1 : Int)).toNat = k1 := by omega
              obtain ⟨w_x_36, hw_x_36⟩ : ∃ x, wr1.alloc (.cells #[.int .i64 t_34_leave, .int .i64 t_34_from_, .int .i64 t_34_to_, .int .i64 t_34_arrive] 93) = x := ⟨_, rfl⟩
              have bw_x_36 : Below wr1.heap.size wr1 w_x_36 := by rw [← hw_x_36]; exact (Below.refl _ _).alloc (Nat.le_refl _) _
              have Dx_36_out_10l1 := Lib.hid (apart_fresh Oout_10l1.out)
              have HBw_x_36 := Lib.hid (Below.step HBwr1.out bw_x_36)
              have ct_34_0__352 := cell_below bw_x_36 ct_34_0
              have ct_34_1__353 := cell_below bw_x_36 ct_34_1
              have ct_34_2__354 := cell_below bw_x_36 ct_34_2
              have ct_34_3__355 := cell_below bw_x_36 ct_34_3
              replace Oout_10l1 := Lib.hid (own_below Oout_10l1.out bw_x_36)
              clear bw_x_36
              have kx_36_0 : w_x_36.cell? ⟨wr1.heap.size, 0, none⟩ = some (.int .i64 t_34_leave) := by rw [← hw_x_36]; exact box_new _ _ _ 0 _ rfl
              have kx_36_1 : w_x_36.cell? ⟨wr1.heap.size, 1, none⟩ = some (.int .i64 t_34_from_) := by rw [← hw_x_36]; exact box_new _ _ _ 1 _ rfl
              have kx_36_2 : w_x_36.cell? ⟨wr1.heap.size, 2, none⟩ = some (.int .i64 t_34_to_) := by rw [← hw_x_36]; exact box_new _ _ _ 2 _ rfl
              have kx_36_3 : w_x_36.cell? ⟨wr1.heap.size, 3, none⟩ = some (.int .i64 t_34_arrive) := by rw [← hw_x_36]; exact box_new _ _ _ 3 _ rfl
              replace H := let_hid H
              obtain ⟨t_41, ht_41, H⟩ := H
              replace H := join_hid H
              cases t_41 with
              | false =>
                replace H := ite_f H
                replace H := app_hid H
                replace H := join_hid H
                replace H := ite_f H
                replace H := app_hid H
                replace H := ite_f H
                replace H := app_hid H
                go_wp2_with fail
                clear ct_34_0 ct_34_1 ct_34_2 ct_34_3
                go_roundg m1
                case measure => omega
                case rel => exact ⟨k1 + 1, _, _, _, _, _, by omega, by go_num, rfl, rfl, rfl, H, HBw_x_36, Oout_10l1⟩
              | true =>
                replace H := ite_t H
                replace H := let_hid H
                obtain ⟨t_46, ht_46, H⟩ := H
                replace H := app_hid H
                replace H := join_hid H
                cases t_46 with
                | false =>
                  replace H := ite_f H
                  replace H := app_hid H
                  replace H := ite_f H
                  replace H := app_hid H
                  go_wp2_with fail
                  clear ct_34_0 ct_34_1 ct_34_2 ct_34_3
                  go_roundg m1
                  case measure => omega
                  case rel => exact ⟨k1 + 1, _, _, _, _, _, by omega, by go_num, rfl, rfl, rfl, H, HBw_x_36, Oout_10l1⟩
                | true =>
                  replace H := ite_t H
                  replace H := bind_hid H
                  obtain ⟨t_54, qt_54, H⟩ := H
                  go_wp2_with fail
                  clear ct_34_0 ct_34_1 ct_34_2 ct_34_3
                  go_at_call 62
                  refine (Go.Proofs.Ythkaeighfjadlaa.GsL9Times.C (list) (t_34_to_) (t_34_arrive) (some ⟨ab_t_34, ao_t_34, none⟩) c0 _   (Lib.hid (Cells.below M0.out HBw_x_36.out)) N0 qt_54).mono ?_
                  rintro e_t_54 wt_54 ⟨At_54, ct_54, rfl, ot_54, bt_54⟩
                  have Dt_54_out_10l1 := Lib.hid (apart_call ot_54 Oout_10l1.out)
                  have Dt_54_x_36 := Lib.hid (apart_callbox ot_54 kx_36_0)
                  have Ot_54 := Lib.hid (own_lower ot_54 HBw_x_36.out.size)
                  clear ot_54
                  have HBwt_54 := Lib.hid (Below.step HBw_x_36.out bt_54)
                  replace ct_34_0__352 := cell_below bt_54 ct_34_0__352
                  replace ct_34_1__353 := cell_below bt_54 ct_34_1__353
                  replace ct_34_2__354 := cell_below bt_54 ct_34_2__354
                  replace ct_34_3__355 := cell_below bt_54 ct_34_3__355
                  replace kx_36_0 := cell_below bt_54 kx_36_0
                  replace kx_36_1 := cell_below bt_54 kx_36_1
                  replace kx_36_2 := cell_below bt_54 kx_36_2
                  replace kx_36_3 := cell_below bt_54 kx_36_3
                  replace Oout_10l1 := Lib.hid (own_below Oout_10l1.out bt_54)
                  clear bt_54
                  replace H := idx_hid H
                  obtain ⟨nt_56, yt_56, et_56, lt_56, gt_56, H⟩ := H
                  subst et_56
                  obtain ⟨qt_56, Qt_56⟩ := own_some Ot_54.out (by omega)
                  subst Qt_56
                  obtain ⟨ab_t_56, ao_t_56, zt_56, At_56, z_t_56, ct_56_0⟩ := Go.Proofs.Ythkaeighfjadlaa.HelpInt.Ints.at_ (own_cells Ot_54.out) (k := nt_56) (by omega)
                  obtain rfl := Option.some.inj (gt_56.out.symm.trans z_t_56)
                  simp only [Option.some.injEq, Addr.mk.injEq] at At_56
                  obtain ⟨rfl, rfl, _⟩ := At_56
                  clear z_t_56
                  simp only [Nat.zero_add] at ct_56_0
                  have b0t_56 : (0 : Int) ≤ (nt_56 : Int) := by omega
                  have b1t_56 : (nt_56 : Int) < ((t_54.length : Nat) : Int) := by omega
                  have b2t_56 : ((nt_56 : Int)).toNat = nt_56 := by omega
                  replace H := let_hid H
                  obtain ⟨t_59, ht_59, H⟩ := H
                  replace H := app_hid H
                  cases t_59 with
                  | false =>
                    replace H := ite_f H
                    replace H := app_hid H
                    go_wp2_with fail
                    go_roundg m1
                    case measure => omega
                    case rel => exact ⟨k1 + 1, _, _, _, _, _, by omega, by go_num, rfl, rfl, rfl, H, HBwt_54, Oout_10l1⟩
                  | true =>
                    replace H := ite_t H
                    obtain ⟨w_t_63, hw_t_63⟩ : ∃ x, wt_54.alloc (.cells #[.int .i64 (k1 : Int)] 3) = x := ⟨_, rfl⟩
                    have bw_t_63 : Below wt_54.heap.size wt_54 w_t_63 := by rw [← hw_t_63]; exact (Below.refl _ _).alloc (Nat.le_refl _) _
                    have HBw_t_63 := Lib.hid (Below.step HBwt_54.out bw_t_63)
                    have ct_34_0__356 := cell_below bw_t_63 ct_34_0__352
                    have ct_34_1__357 := cell_below bw_t_63 ct_34_1__353
                    have ct_34_2__358 := cell_below bw_t_63 ct_34_2__354
                    have ct_34_3__359 := cell_below bw_t_63 ct_34_3__355
                    have kx_36_0__360 := cell_below bw_t_63 kx_36_0
                    have kx_36_1__361 := cell_below bw_t_63 kx_36_1
                    have kx_36_2__362 := cell_below bw_t_63 kx_36_2
                    have kx_36_3__363 := cell_below bw_t_63 kx_36_3
                    have ct_56_0__364 := cell_below bw_t_63 ct_56_0
                    replace Oout_10l1 := Lib.hid (own_below Oout_10l1.out bw_t_63)
                    replace Ot_54 := Lib.hid (own_below Ot_54.out bw_t_63)
                    clear bw_t_63
                    replace H := guard_hid H
                    obtain ⟨hlt_64, H⟩ := H
                    replace H := let_hid H
                    obtain ⟨t_64, ht_64, H⟩ := H
                    have hht_64 := Lib.hid ht_64
                    clear ht_64
                    have hst_64 := HBw_t_63.out.size
                    go_wp2_with (at_builtin; refine wpList_append_own_at _ rfl _ _ 27 rfl w.heap.size 3 i0_3 (.int .i64 0) 1 8 Try.underlying27 hi_3 hz0_3 hz1_3 hz2_3 rfl (by decide) _ _ _ rfl Oout_10l1.out ⟨wt_54.heap.size, 0, none⟩ 1 1 [.int .i64 (k1 : Int)] rfl rfl (news_new hw_t_63) (one_cells rfl) (by unfold maxLen; omega) (by omega) hst_64 ?_; intro vt_64 wt_64 ot_64 gt_64 zt_64 yt_64; clear zt_64; obtain ⟨qt_64, ct_64, rfl, pt_64⟩ := own_push hht_64.out (Go.Proofs.Ythkaeighfjadlaa.HelpInt.iv_snoc _ _) rfl ot_64; have Pt_64 := Lib.hid pt_64; have Yt_64 := Lib.hid yt_64; have Gt_64 := Lib.hid gt_64; clear ot_64 gt_64 pt_64 yt_64; refine stop_in ?_)
                    refine stop_out ?_
                    have HBwt_64 := Lib.hid (HBw_t_63.out.grown Gt_64.out hst_64 (fun q hq => (Oout_10l1.out.lt q hq).1))
                    clear hst_64
                    have Dt_64_x_36 : Hid (Apart (some ⟨qt_64, 0, none⟩) _) := Lib.hid (apart_app (Apart.symm Dx_36_out_10l1.out) (fun a_ ha_ => by cases ha_; exact cell_lt kx_36_0__360) Yt_64.out)
                    have Dt_64_t_54 : Hid (Apart (some ⟨qt_64, 0, none⟩) _) := Lib.hid (apart_app (Apart.symm Dt_54_out_10l1.out) (fun a_ ha_ => (own_lt Ot_54.out a_ ha_).2) Yt_64.out)
                    replace ct_34_0__356 := cell_other ct_34_0__356 Gt_64.out (apart_old Oout_10l1.out ltt_34)
                    replace ct_34_1__357 := cell_other ct_34_1__357 Gt_64.out (apart_old Oout_10l1.out ltt_34)
                    replace ct_34_2__358 := cell_other ct_34_2__358 Gt_64.out (apart_old Oout_10l1.out ltt_34)
                    replace ct_34_3__359 := cell_other ct_34_3__359 Gt_64.out (apart_old Oout_10l1.out ltt_34)
                    replace kx_36_0__360 := cell_other kx_36_0__360 Gt_64.out (Apart.symm Dx_36_out_10l1.out)
                    replace kx_36_1__361 := cell_other kx_36_1__361 Gt_64.out (Apart.symm Dx_36_out_10l1.out)
                    replace kx_36_2__362 := cell_other kx_36_2__362 Gt_64.out (Apart.symm Dx_36_out_10l1.out)
                    replace kx_36_3__363 := cell_other kx_36_3__363 Gt_64.out (Apart.symm Dx_36_out_10l1.out)
                    replace ct_56_0__364 := cell_other ct_56_0__364 Gt_64.out (Apart.symm Dt_54_out_10l1.out)
                    replace Ot_54 := Lib.hid (own_other Ot_54.out Gt_64.out (Apart.symm Dt_54_out_10l1.out))
                    clear ct_34_0__352 ct_34_1__353 ct_34_2__354 ct_34_3__355 kx_36_0 kx_36_1 kx_36_2 kx_36_3 ct_56_0
                    clear Oout_10l1 Yt_64 Gt_64
                    replace H := app_hid H
                    unfold e1 at H
                    replace H := unp3_hid H
                    replace H := app_hid H
                    go_wp2_with fail
                    go_roundg m0
                    case measure => omega
                    case rel => exact ⟨_, _, _, _, _, rfl, rfl, rfl, H, HBwt_64, Pt_64⟩
end Go.Proofs.Ythkaeighfjadlaa.GsBestRoute

/- loop.example/g01062/laws.vInts as a plain function, and the contract of the program's: where the plain one has an answer, the program has it. Conditions: slices read as lists. -/
namespace Go.Proofs.Ythkaeighfjadlaa.GlVInts
set_option linter.unusedVariables false
set_option linter.unusedSimpArgs false
open Go.RowKit
open Go.Proofs.Ythkaeighfjadlaa.Rowed Go.Proofs.Ythkaeighfjadlaa.Turn Go.Proofs.Ythkaeighfjadlaa.Aid Go.Proofs.Ythkaeighfjadlaa.GoP Go.Proofs.Ythkaeighfjadlaa.GoM

def l0 (a : (List Int)) (b : (List Int)) (k0 : Nat) (s : Unit) (nx0 bk0 : Unit → Option (Bool)) : Option (Bool) :=
  
  Option.bind (idx a (k0 : Int)) fun (yt_14 : Int) =>
  Option.bind (idx b (k0 : Int)) fun (yt_18 : Int) =>
  letK (yt_14 != yt_18) fun (t_20 : Bool) =>
  iteK t_20
  (some false)
  (appK nx0 ())

def e0  (s : Unit) : Option (Bool) :=
  
  some true

def P (a : (List Int)) (b : (List Int)) : Option (Bool) :=
  letK ((a.length : Int) != (b.length : Int)) fun (t_5 : Bool) =>
  iteK t_5
  (some false)
  (cntK (l0 a b) (a.length) 0 () (e0 ))

set_option maxRecDepth 100000 in
set_option maxHeartbeats 2000000 in
theorem C (a : (List Int)) (b : (List Int)) (A0 : Option Addr) (c0 : Nat) (A1 : Option Addr) (c1 : Nat)  (w : World) (M0 : Hid (Cells w 1 A0 a.length (Go.Proofs.Ythkaeighfjadlaa.HelpInt.iv a))) (N0 : Hid (a.length ≤ 9223372036854775807)) (M1 : Hid (Cells w 1 A1 b.length (Go.Proofs.Ythkaeighfjadlaa.HelpInt.iv b))) (N1 : Hid (b.length ≤ 9223372036854775807))  {r : Bool} (H : Hid (P a b = some r)) :
    Calls Try.prog 12 #[.slice A0 a.length c0, .slice A1 b.length c1] w (Gives (.bool r) w) := by
  have HB := Lib.hid (Below.refl w.heap.size w)
  unfold P at H
  have N0o := N0.out
  have N1o := N1.out
  go_enter Try.func12, Try.ntmps12
  replace H := let_hid H
  obtain ⟨t_5, ht_5, H⟩ := H
  cases t_5 with
  | false =>
    have Hht_5 : Hid (a.length = b.length) := Lib.hid (by have := bne_eq_false_iff_eq.1 ht_5; omega)
    have nht_5 : (a.length == b.length) = true := beq_iff_eq.2 Hht_5.out
    replace H := ite_f H
    go_wp2_with fail
    go_loopg [5] (a.length) (fun m_ v5_ wr => ∃ (k0 : Nat) , k0 + m_ = a.length ∧ v5_ = .int .i64 (k0 : Int) ∧ Hid (cntK (l0 a b) m_ k0 () (e0 ) = some r) ∧ Hid (Below w.heap.size w wr))
    case atStart => exact ⟨0, by omega, rfl, H, HB⟩
    case round =>
      obtain ⟨k0, hkm0, rfl, H, HBwr0⟩ := hrel
      rename World => wr0
      cases gk with
      | zero =>
        obtain rfl : k0 = a.length := by omega
        have hc0 : decide (((a.length : Nat) : Int) < ((a.length : Nat) : Int)) = false := by simp
        replace H := cnt_zero H
        unfold e0 at H
        obtain rfl := ret_hid H
        go_wp2_with fail
        go_ret
        exact ⟨rfl, HBwr0.out⟩
      | succ m0 =>
        have hlt0 : k0 < a.length := by omega
        have hc0 : decide ((k0 : Int) < ((a.length : Nat) : Int)) = true := by simp; omega
        replace H := cnt_succ H
        unfold l0 at H
        go_wp2_with fail
        replace H := idx_hid H
        obtain ⟨nt_14, yt_14, et_14, lt_14, gt_14, H⟩ := H
        obtain rfl : k0 = nt_14 := by omega
        clear et_14
        obtain ⟨ab_t_14, ao_t_14, zt_14, At_14, z_t_14, ct_14_0⟩ := Go.Proofs.Ythkaeighfjadlaa.HelpInt.Ints.at_ M0.out lt_14
        obtain rfl := Option.some.inj (gt_14.out.symm.trans z_t_14)
        subst At_14
        have ltt_14 := cell_lt ct_14_0
        replace ct_14_0 := cell_below HBwr0.out ct_14_0
        clear z_t_14
        have b0t_14 : (0 : Int) ≤ (k0 : Int) := by omega
        have b1t_14 : (k0 : Int) < ((a.length : Nat) : Int) := by omega
        have b2t_14 : ((k0 : Int)).toNat = k0 := by omega
        have Hct_14_0 := Lib.hid ct_14_0
        replace ct_14_0 := cell_regrown ct_14_0
        replace H := idx_hid H
        obtain ⟨nt_18, yt_18, et_18, lt_18, gt_18, H⟩ := H
        obtain rfl : k0 = nt_18 := by omega
        clear et_18
        obtain ⟨ab_t_18, ao_t_18, zt_18, At_18, z_t_18, ct_18_0⟩ := Go.Proofs.Ythkaeighfjadlaa.HelpInt.Ints.at_ M1.out lt_18
        obtain rfl := Option.some.inj (gt_18.out.symm.trans z_t_18)
        subst At_18
        have ltt_18 := cell_lt ct_18_0
        replace ct_18_0 := cell_below HBwr0.out ct_18_0
        clear z_t_18
        have b0t_18 : (0 : Int) ≤ (k0 : Int) := by omega
        have b1t_18 : (k0 : Int) < ((b.length : Nat) : Int) := by omega
        have b2t_18 : ((k0 : Int)).toNat = k0 := by omega
        have Hct_18_0 := Lib.hid ct_18_0
        replace ct_18_0 := cell_regrown ct_18_0
        replace H := let_hid H
        obtain ⟨t_20, ht_20, H⟩ := H
        refine wp_region_quiet_below (by kernel_rfl) (by kernel_rfl) ?_
        repeat (go_big_quiet_step (fail))
        refine wpQuiet_nil ?_
        intro Y6 hY6
        replace hY6 := below_class hY6
        replace ct_14_0 := Hct_14_0.out
        clear Hct_14_0
        replace ct_18_0 := Hct_18_0.out
        clear Hct_18_0
        have HBY6 := Lib.hid (Below.step HBwr0.out hY6)
        replace ct_14_0 := cell_below hY6 ct_14_0
        replace ct_18_0 := cell_below hY6 ct_18_0
        clear hY6
        cases t_20 with
        | false =>
          replace H := ite_f H
          replace H := app_hid H
          go_wp2_with fail
          go_roundg m0
          case measure => omega
          case rel => exact ⟨k0 + 1, by omega, by go_num, H, HBY6⟩
        | true =>
          replace H := ite_t H
          obtain rfl := ret_hid H
          go_wp2_with fail
          go_ret
          exact ⟨rfl, HBY6.out⟩
  | true =>
    have nht_5 : ¬ (a.length = b.length) := by have := bne_iff_ne.1 ht_5; omega
    replace H := ite_t H
    obtain rfl := ret_hid H
    go_wp2_with fail
    go_ret
    exact ⟨rfl, HB.out⟩
end Go.Proofs.Ythkaeighfjadlaa.GlVInts

/- loop.example/g01062/spec.IsTimetable as a plain function, and the contract of the program's: where the plain one has an answer, the program has it. Conditions: slices read as lists. -/
namespace Go.Proofs.Ythkaeighfjadlaa.GsIsTimetable
set_option linter.unusedVariables false
set_option linter.unusedSimpArgs false
open Go.RowKit
open Go.Proofs.Ythkaeighfjadlaa.Rowed Go.Proofs.Ythkaeighfjadlaa.Turn Go.Proofs.Ythkaeighfjadlaa.Aid Go.Proofs.Ythkaeighfjadlaa.GoP Go.Proofs.Ythkaeighfjadlaa.GoM

def P (list : (List Go.Proofs.Ythkaeighfjadlaa.PMail.Mail)) : Option (Bool) :=
  Option.bind (Go.Proofs.Ythkaeighfjadlaa.GsL9Good.P list) fun (t_2 : Bool) =>
  some t_2

set_option maxRecDepth 100000 in
set_option maxHeartbeats 2000000 in
theorem C (list : (List Go.Proofs.Ythkaeighfjadlaa.PMail.Mail)) (A0 : Option Addr) (c0 : Nat)  (w : World) (M0 : Hid (Cells w 4 A0 list.length (Go.Proofs.Ythkaeighfjadlaa.PMail.flat list))) (N0 : Hid (list.length ≤ 9223372036854775807))  {r : Bool} (H : Hid (P list = some r)) :
    Calls Try.prog 14 #[.slice A0 list.length c0] w (Gives (.bool r) w) := by
  have HB := Lib.hid (Below.refl w.heap.size w)
  unfold P at H
  have N0o := N0.out
  go_enter Try.func14, Try.ntmps14
  replace H := bind_hid H
  obtain ⟨t_2, qt_2, H⟩ := H
  go_wp2_with fail
  go_at_call 65
  refine (Go.Proofs.Ythkaeighfjadlaa.GsL9Good.C (list) A0 c0 _   (Lib.hid (Cells.below M0.out HB.out)) N0 qt_2).mono ?_
  rintro e_t_2 wt_2 ⟨rfl, bt_2⟩
  have HBwt_2 := Lib.hid (Below.step HB.out bt_2)
  clear bt_2
  obtain rfl := ret_hid H
  go_wp2_with fail
  go_ret
  exact ⟨rfl, HBwt_2.out⟩
end Go.Proofs.Ythkaeighfjadlaa.GsIsTimetable

/- loop.example/g01062/impl.EndOfRoute as a plain function, and the contract of the program's: where the plain one has an answer, the program has it. Conditions: slices read as lists. -/
namespace Go.Proofs.Ythkaeighfjadlaa.GiEndOfRoute
set_option linter.unusedVariables false
set_option linter.unusedSimpArgs false
open Go.RowKit
open Go.Proofs.Ythkaeighfjadlaa.Rowed Go.Proofs.Ythkaeighfjadlaa.Turn Go.Proofs.Ythkaeighfjadlaa.Aid Go.Proofs.Ythkaeighfjadlaa.GoP Go.Proofs.Ythkaeighfjadlaa.GoM

def l0 (list : (List Go.Proofs.Ythkaeighfjadlaa.PMail.Mail)) (route : (List Int)) (k0 : Nat) (s : Int × Int) (nx0 bk0 : Int × Int → Option (Int × Int × Bool)) : Option (Int × Int × Bool) :=
  unp2 s fun office_11l0 end_12l0 =>
  Option.bind (idx route (k0 : Int)) fun (yt_19 : Int) =>
  letK (IntKind.i64.wrap ((list.length : Int) - 1)) fun (t_25 : Int) =>
  Option.bind (Go.Proofs.Ythkaeighfjadlaa.GiWithin.P yt_19 0 t_25) fun (t_26 : Bool) =>
  letK (!t_26) fun (t_27 : Bool) =>
  joinK (fun (t_37 : Bool) =>
  iteK t_37
  (some (0, 0, false))
  (Option.bind (idx list yt_19) fun (yt_43 : Go.Proofs.Ythkaeighfjadlaa.PMail.Mail) =>
  unMail yt_43 fun (t_43_leave : Int) (t_43_from_ : Int) (t_43_to_ : Int) (t_43_arrive : Int) =>
  Option.bind (idx list yt_19) fun (yt_48 : Go.Proofs.Ythkaeighfjadlaa.PMail.Mail) =>
  unMail yt_48 fun (t_48_leave : Int) (t_48_from_ : Int) (t_48_to_ : Int) (t_48_arrive : Int) =>
  appK nx0 (t_43_to_, t_48_arrive))) fun jt_37 => iteK t_27 (appK jt_37 true) (Option.bind (idx list yt_19) fun (yt_31 : Go.Proofs.Ythkaeighfjadlaa.PMail.Mail) =>
  unMail yt_31 fun (t_31_leave : Int) (t_31_from_ : Int) (t_31_to_ : Int) (t_31_arrive : Int) =>
  Option.bind (Go.Proofs.Ythkaeighfjadlaa.GiCanTake.P (Go.Proofs.Ythkaeighfjadlaa.PMail.Mail.mk t_31_leave t_31_from_ t_31_to_ t_31_arrive) office_11l0 end_12l0) fun (t_35 : Bool) =>
  letK (!t_35) fun (t_36 : Bool) =>
  appK jt_37 t_36)

def e0  (s : Int × Int) : Option (Int × Int × Bool) :=
  unp2 s fun office_11l0 end_12l0 =>
  some (office_11l0, end_12l0, true)

def P (list : (List Go.Proofs.Ythkaeighfjadlaa.PMail.Mail)) (from_1 : Int) (minute : Int) (route : (List Int)) : Option (Int × Int × Bool) :=
  Option.bind (Go.Proofs.Ythkaeighfjadlaa.GiCanBegin.P list from_1 minute) fun (t_6 : Bool) =>
  letK (!t_6) fun (t_7 : Bool) =>
  iteK t_7
  (some (0, 0, false))
  (cntK (l0 list route) (route.length) 0 (from_1, minute) (e0 ))

set_option maxRecDepth 100000 in
set_option maxHeartbeats 2000000 in
theorem C (list : (List Go.Proofs.Ythkaeighfjadlaa.PMail.Mail)) (from_1 : Int) (minute : Int) (route : (List Int)) (A0 : Option Addr) (c0 : Nat) (A3 : Option Addr) (c3 : Nat)  (w : World) (M0 : Hid (Cells w 4 A0 list.length (Go.Proofs.Ythkaeighfjadlaa.PMail.flat list))) (N0 : Hid (list.length ≤ 9223372036854775807)) (M3 : Hid (Cells w 1 A3 route.length (Go.Proofs.Ythkaeighfjadlaa.HelpInt.iv route))) (N3 : Hid (route.length ≤ 9223372036854775807))  {r0 : Int} {r1 : Int} {r2 : Bool} (H : Hid (P list from_1 minute route = some (r0, r1, r2))) :
    Calls Try.prog 17 #[.slice A0 list.length c0, .int .i64 from_1, .int .i64 minute, .slice A3 route.length c3] w (Gives (.tuple #[.int .i64 r0, .int .i64 r1, .bool r2]) w) := by
  have HB := Lib.hid (Below.refl w.heap.size w)
  unfold P at H
  have N0o := N0.out
  have N3o := N3.out
  go_enter Try.func17, Try.ntmps17
  replace H := bind_hid H
  obtain ⟨t_6, qt_6, H⟩ := H
  go_wp2_with fail
  go_at_call 66
  refine (Go.Proofs.Ythkaeighfjadlaa.GiCanBegin.C (list) (from_1) (minute) A0 c0 _   (Lib.hid (Cells.below M0.out HB.out)) N0 qt_6).mono ?_
  rintro e_t_6 wt_6 ⟨rfl, bt_6⟩
  have HBwt_6 := Lib.hid (Below.step HB.out bt_6)
  clear bt_6
  cases t_6 with
  | false =>
    replace H := let_hid H
    obtain ⟨t_7, ht_7, H⟩ := H
    obtain rfl : t_7 = true := ht_7.symm
    replace H := ite_t H
    cases ret_hid H
    go_wp2_with fail
    go_ret3
    exact ⟨rfl, HBwt_6.out⟩
  | true =>
    replace H := let_hid H
    obtain ⟨t_7, ht_7, H⟩ := H
    obtain rfl : t_7 = false := ht_7.symm
    replace H := ite_f H
    go_wp2_with fail
    go_loopg [24, 11, 12] (route.length) (fun m_ v24_ v11_ v12_ wr => ∃ (k0 : Nat) (office_11l0 : Int) (end_12l0 : Int), k0 + m_ = route.length ∧ v24_ = .int .i64 (k0 : Int) ∧ v11_ = .int .i64 office_11l0 ∧ v12_ = .int .i64 end_12l0 ∧ Hid (cntK (l0 list route) m_ k0 (office_11l0, end_12l0) (e0 ) = some (r0, r1, r2)) ∧ Hid (Below w.heap.size w wr))
    case atStart => exact ⟨0, _, _, by omega, rfl, rfl, rfl, H, HBwt_6⟩
    case round =>
      obtain ⟨k0, office_11l0, end_12l0, hkm0, rfl, rfl, rfl, H, HBwr0⟩ := hrel
      rename World => wr0
      cases gk with
      | zero =>
        obtain rfl : k0 = route.length := by omega
        have hc0 : decide (((route.length : Nat) : Int) < ((route.length : Nat) : Int)) = false := by simp
        replace H := cnt_zero H
        unfold e0 at H
        replace H := unp2_hid H
        cases ret_hid H
        go_wp2_with fail
        go_ret3
        exact ⟨rfl, HBwr0.out⟩
      | succ m0 =>
        have hlt0 : k0 < route.length := by omega
        have hc0 : decide ((k0 : Int) < ((route.length : Nat) : Int)) = true := by simp; omega
        replace H := cnt_succ H
        unfold l0 at H
        replace H := unp2_hid H
        replace H := idx_hid H
        obtain ⟨nt_19, yt_19, et_19, lt_19, gt_19, H⟩ := H
        obtain rfl : k0 = nt_19 := by omega
        clear et_19
        obtain ⟨ab_t_19, ao_t_19, zt_19, At_19, z_t_19, ct_19_0⟩ := Go.Proofs.Ythkaeighfjadlaa.HelpInt.Ints.at_ M3.out lt_19
        obtain rfl := Option.some.inj (gt_19.out.symm.trans z_t_19)
        subst At_19
        have ltt_19 := cell_lt ct_19_0
        replace ct_19_0 := cell_below HBwr0.out ct_19_0
        clear z_t_19
        have b0t_19 : (0 : Int) ≤ (k0 : Int) := by omega
        have b1t_19 : (k0 : Int) < ((route.length : Nat) : Int) := by omega
        have b2t_19 : ((k0 : Int)).toNat = k0 := by omega
        replace H := let_hid H
        obtain ⟨t_25, ht_25, H⟩ := H
        try have hv_t_25 : (list.length : Int) - 1 = t_25 := by rw [← ht_25]; exact (IntWalk.i64_in _ (by omega)).symm
        try have hv2_t_25 : IntKind.i64.wrap t_25 = t_25 := by rw [← hv_t_25]; exact IntWalk.i64_in _ (by omega)
        replace H := bind_hid H
        obtain ⟨t_26, qt_26, H⟩ := H
        go_wp2_with fail
        go_at_call 71
        refine (Go.Proofs.Ythkaeighfjadlaa.GiWithin.C (yt_19) (0) (t_25)  _    qt_26).mono ?_
        rintro e_t_26 wt_26 ⟨rfl, bt_26⟩
        have HBwt_26 := Lib.hid (Below.step HBwr0.out bt_26)
        replace ct_19_0 := cell_below bt_26 ct_19_0
        clear bt_26
        cases t_26 with
        | false =>
          replace H := let_hid H
          obtain ⟨t_27, ht_27, H⟩ := H
          obtain rfl : t_27 = true := ht_27.symm
          replace H := join_hid H
          replace H := ite_t H
          replace H := app_hid H
          replace H := ite_t H
          cases ret_hid H
          go_wp2_with fail
          go_ret3
          exact ⟨rfl, HBwt_26.out⟩
        | true =>
          replace H := let_hid H
          obtain ⟨t_27, ht_27, H⟩ := H
          obtain rfl : t_27 = false := ht_27.symm
          replace H := join_hid H
          replace H := ite_f H
          replace H := idx_hid H
          obtain ⟨nt_31, yt_31, et_31, lt_31, gt_31, H⟩ := H
          subst et_31
          obtain ⟨t_31_leave, t_31_from_, t_31_to_, t_31_arrive⟩ := yt_31
          replace H := unMail_hid H
          obtain ⟨ab_t_31, ao_t_31, zt_31, At_31, z_t_31, ct_31_0, ct_31_1, ct_31_2, ct_31_3⟩ := Go.Proofs.Ythkaeighfjadlaa.OMail.at_ M0.out lt_31
          obtain rfl := Option.some.inj (gt_31.out.symm.trans z_t_31)
          subst At_31
          have ltt_31 := cell_lt ct_31_0
          replace ct_31_0 := cell_below HBwt_26.out ct_31_0
          replace ct_31_1 := cell_below HBwt_26.out ct_31_1
          replace ct_31_2 := cell_below HBwt_26.out ct_31_2
          replace ct_31_3 := cell_below HBwt_26.out ct_31_3
          clear z_t_31
          have b0t_31 : (0 : Int) ≤ (nt_31 : Int) := by omega
          have b1t_31 : (nt_31 : Int) < ((list.length : Nat) : Int) := by omega
          have b2t_31 : ((nt_31 : Int)).toNat = nt_31 := by omega
          replace H := bind_hid H
          obtain ⟨t_35, qt_35, H⟩ := H
          go_wp2_with fail
          go_at_call 72
          refine (Go.Proofs.Ythkaeighfjadlaa.GiCanTake.C ((Go.Proofs.Ythkaeighfjadlaa.PMail.Mail.mk t_31_leave t_31_from_ t_31_to_ t_31_arrive)) (office_11l0) (end_12l0)  _    qt_35).mono ?_
          rintro e_t_35 wt_35 ⟨rfl, bt_35⟩
          have HBwt_35 := Lib.hid (Below.step HBwt_26.out bt_35)
          replace ct_19_0 := cell_below bt_35 ct_19_0
          replace ct_31_0 := cell_below bt_35 ct_31_0
          replace ct_31_1 := cell_below bt_35 ct_31_1
          replace ct_31_2 := cell_below bt_35 ct_31_2
          replace ct_31_3 := cell_below bt_35 ct_31_3
          clear bt_35
          cases t_35 with
          | false =>
            replace H := let_hid H
            obtain ⟨t_36, ht_36, H⟩ := H
            obtain rfl : t_36 = true := ht_36.symm
            replace H := app_hid H
            replace H := ite_t H
            cases ret_hid H
            go_wp2_with fail
            go_ret3
            exact ⟨rfl, HBwt_35.out⟩
          | true =>
            replace H := let_hid H
            obtain ⟨t_36, ht_36, H⟩ := H
            obtain rfl : t_36 = false := ht_36.symm
            replace H := app_hid H
            replace H := ite_f H
            go_wp2_with fail
            have Hct_19_0 := Lib.hid ct_19_0
            replace ct_19_0 := cell_regrown ct_19_0
            have Hct_31_0 := Lib.hid ct_31_0
            replace ct_31_0 := cell_regrown ct_31_0
            have Hct_31_1 := Lib.hid ct_31_1
            replace ct_31_1 := cell_regrown ct_31_1
            have Hct_31_2 := Lib.hid ct_31_2
            replace ct_31_2 := cell_regrown ct_31_2
            have Hct_31_3 := Lib.hid ct_31_3
            replace ct_31_3 := cell_regrown ct_31_3
            replace H := idx_hid H
            obtain ⟨nt_43, yt_43, et_43, lt_43, gt_43, H⟩ := H
            obtain rfl : nt_31 = nt_43 := by omega
            clear et_43
            obtain rfl := Option.some.inj (gt_31.out.symm.trans gt_43.out)
            clear gt_43 lt_43
            replace H := unMail_hid H
            replace H := idx_hid H
            obtain ⟨nt_48, yt_48, et_48, lt_48, gt_48, H⟩ := H
            obtain rfl : nt_31 = nt_48 := by omega
            clear et_48
            obtain rfl := Option.some.inj (gt_31.out.symm.trans gt_48.out)
            clear gt_48 lt_48
            replace H := unMail_hid H
            refine wp_region_quiet_below (by kernel_rfl) (by kernel_rfl) ?_
            repeat (go_big_quiet_step (fail))
            refine wpQuiet_nil ?_
            intro Y9 hY9
            replace hY9 := below_class hY9
            replace ct_19_0 := Hct_19_0.out
            clear Hct_19_0
            replace ct_31_0 := Hct_31_0.out
            clear Hct_31_0
            replace ct_31_1 := Hct_31_1.out
            clear Hct_31_1
            replace ct_31_2 := Hct_31_2.out
            clear Hct_31_2
            replace ct_31_3 := Hct_31_3.out
            clear Hct_31_3
            have HBY9 := Lib.hid (Below.step HBwt_35.out hY9)
            replace ct_19_0 := cell_below hY9 ct_19_0
            replace ct_31_0 := cell_below hY9 ct_31_0
            replace ct_31_1 := cell_below hY9 ct_31_1
            replace ct_31_2 := cell_below hY9 ct_31_2
            replace ct_31_3 := cell_below hY9 ct_31_3
            clear hY9
            replace H := app_hid H
            go_wp2_with fail
            go_roundg m0
            case measure => omega
            case rel => exact ⟨k0 + 1, _, _, by omega, by go_num, rfl, rfl, H, HBY9⟩
end Go.Proofs.Ythkaeighfjadlaa.GiEndOfRoute

/- loop.example/g01062/impl.ReachedBy as a plain function, and the contract of the program's: where the plain one has an answer, the program has it. Conditions: slices read as lists. -/
namespace Go.Proofs.Ythkaeighfjadlaa.GiReachedBy
set_option linter.unusedVariables false
set_option linter.unusedSimpArgs false
open Go.RowKit
open Go.Proofs.Ythkaeighfjadlaa.Rowed Go.Proofs.Ythkaeighfjadlaa.Turn Go.Proofs.Ythkaeighfjadlaa.Aid Go.Proofs.Ythkaeighfjadlaa.GoP Go.Proofs.Ythkaeighfjadlaa.GoM

def l0 (by_3 : Int) (t_25_x0 : Int) (t_25_x1 : Int) (t_25_x2 : Int) (t_25_x3 : Int) (t_25_x4 : Int) (t_25_x5 : Int) (t_25_x6 : Int) (t_25_x7 : Int) (t_25_x8 : Int) (t_25_x9 : Int) (k0 : Nat) (s : (List Int)) (nx0 bk0 : (List Int) → Option ((List Int) × Bool)) : Option ((List Int) × Bool) :=
  letK s fun reached_10l0 =>
  Option.bind (idx [t_25_x0, t_25_x1, t_25_x2, t_25_x3, t_25_x4, t_25_x5, t_25_x6, t_25_x7, t_25_x8, t_25_x9] (k0 : Int)) fun (yt_29 : Int) =>
  letK (decide (yt_29 ≤ by_3)) fun (t_34 : Bool) =>
  iteK t_34
  (guardK (reached_10l0.length ≤ 1099511627776) <|
  letK (reached_10l0 ++ [(k0 : Int)]) fun (t_38 : (List Int)) =>
  appK nx0 (t_38))
  (appK nx0 (reached_10l0))

def e0  (s : (List Int)) : Option ((List Int) × Bool) :=
  letK s fun reached_10l0 =>
  some (reached_10l0, true)

def P (list : (List Go.Proofs.Ythkaeighfjadlaa.PMail.Mail)) (from_1 : Int) (minute : Int) (by_3 : Int) : Option ((List Int) × Bool) :=
  Option.bind (Go.Proofs.Ythkaeighfjadlaa.GiCanBegin.P list from_1 minute) fun (t_5 : Bool) =>
  letK (!t_5) fun (t_6 : Bool) =>
  joinK (fun (t_11 : Bool) =>
  joinK (fun (t_16 : Bool) =>
  iteK t_16
  (some (([] : List Int), false))
  (Option.bind (Go.Proofs.Ythkaeighfjadlaa.GiEarliestMinutes.P list from_1 minute) fun (t_25 : Go.Proofs.Ythkaeighfjadlaa.PIntA10.IntA10) =>
  unIntA10 t_25 fun (t_25_x0 : Int) (t_25_x1 : Int) (t_25_x2 : Int) (t_25_x3 : Int) (t_25_x4 : Int) (t_25_x5 : Int) (t_25_x6 : Int) (t_25_x7 : Int) (t_25_x8 : Int) (t_25_x9 : Int) =>
  cntK (l0 by_3 t_25_x0 t_25_x1 t_25_x2 t_25_x3 t_25_x4 t_25_x5 t_25_x6 t_25_x7 t_25_x8 t_25_x9) (10) 0 (([] : List Int)) (e0 ))) fun jt_16 => iteK t_11 (appK jt_16 true) (letK (decide (by_3 < minute)) fun (t_15 : Bool) =>
  appK jt_16 t_15)) fun jt_11 => iteK t_6 (appK jt_11 true) (Option.bind (Go.Proofs.Ythkaeighfjadlaa.GiIsMinute.P by_3) fun (t_9 : Bool) =>
  letK (!t_9) fun (t_10 : Bool) =>
  appK jt_11 t_10)

set_option maxRecDepth 100000 in
set_option maxHeartbeats 2000000 in
theorem C (list : (List Go.Proofs.Ythkaeighfjadlaa.PMail.Mail)) (from_1 : Int) (minute : Int) (by_3 : Int) (A0 : Option Addr) (c0 : Nat)  (w : World) (M0 : Hid (Cells w 4 A0 list.length (Go.Proofs.Ythkaeighfjadlaa.PMail.flat list))) (N0 : Hid (list.length ≤ 9223372036854775807))  {r0 : (List Int)} {r1 : Bool} (H : Hid (P list from_1 minute by_3 = some (r0, r1))) :
    Calls Try.prog 18 #[.slice A0 list.length c0, .int .i64 from_1, .int .i64 minute, .int .i64 by_3] w (fun e w' => ∃ A_r0 c_r0, e = .returned (.tuple #[.slice A_r0 r0.length c_r0, .bool r1]) ∧ w'.ownsRow w.heap.size 3 1 (.slice A_r0 r0.length c_r0) r0.length (Go.Proofs.Ythkaeighfjadlaa.HelpInt.iv r0) ∧ Below w.heap.size w w') := by
  have HB := Lib.hid (Below.refl w.heap.size w)
  unfold P at H
  have N0o := N0.out
  obtain ⟨i0_3, hi_3, hz0_3, hz1_3, hz2_3⟩ := Aid.info_parts (P := Try.prog) (T := 3) (z := .int .i64 0) (s := 1) (b := 8) (by kernel_rfl)
  go_enter Try.func18, Try.ntmps18
  replace H := bind_hid H
  obtain ⟨t_5, qt_5, H⟩ := H
  go_wp2_with fail
  go_at_call 66
  refine (Go.Proofs.Ythkaeighfjadlaa.GiCanBegin.C (list) (from_1) (minute) A0 c0 _   (Lib.hid (Cells.below M0.out HB.out)) N0 qt_5).mono ?_
  rintro e_t_5 wt_5 ⟨rfl, bt_5⟩
  have HBwt_5 := Lib.hid (Below.step HB.out bt_5)
  clear bt_5
  cases t_5 with
  | false =>
    replace H := let_hid H
    obtain ⟨t_6, ht_6, H⟩ := H
    obtain rfl : t_6 = true := ht_6.symm
    replace H := join_hid H
    replace H := ite_t H
    replace H := app_hid H
    replace H := join_hid H
    replace H := ite_t H
    replace H := app_hid H
    replace H := ite_t H
    obtain ⟨w_t_17, hw_t_17⟩ : ∃ x, wt_5.alloc (.cells #[] 3) = x := ⟨_, rfl⟩
    have bw_t_17 : Below wt_5.heap.size wt_5 w_t_17 := by rw [← hw_t_17]; exact (Below.refl _ _).alloc (Nat.le_refl _) _
    have Ot_17 : Hid (w_t_17.ownsRow w.heap.size 3 1 (.slice (some ⟨wt_5.heap.size, 0, none⟩) 0 0) 0 []) := Lib.hid (by rw [← hw_t_17]; exact own_empty HBwt_5.out.size)
    have HBw_t_17 := Lib.hid (Below.step HBwt_5.out bw_t_17)
    clear bw_t_17
    cases ret_hid H
    go_wp2_with fail
    go_ret2
    exact ⟨(some ⟨wt_5.heap.size, 0, none⟩), 0, rfl, Ot_17.out, HBw_t_17.out⟩
  | true =>
    replace H := let_hid H
    obtain ⟨t_6, ht_6, H⟩ := H
    obtain rfl : t_6 = false := ht_6.symm
    replace H := join_hid H
    replace H := ite_f H
    replace H := bind_hid H
    obtain ⟨t_9, qt_9, H⟩ := H
    go_wp2_with fail
    go_at_call 73
    refine (Go.Proofs.Ythkaeighfjadlaa.GiIsMinute.C (by_3)  _    qt_9).mono ?_
    rintro e_t_9 wt_9 ⟨rfl, bt_9⟩
    have HBwt_9 := Lib.hid (Below.step HBwt_5.out bt_9)
    clear bt_9
    cases t_9 with
    | false =>
      replace H := let_hid H
      obtain ⟨t_10, ht_10, H⟩ := H
      obtain rfl : t_10 = true := ht_10.symm
      replace H := app_hid H
      replace H := join_hid H
      replace H := ite_t H
      replace H := app_hid H
      replace H := ite_t H
      obtain ⟨w_t_17, hw_t_17⟩ : ∃ x, wt_9.alloc (.cells #[] 3) = x := ⟨_, rfl⟩
      have bw_t_17 : Below wt_9.heap.size wt_9 w_t_17 := by rw [← hw_t_17]; exact (Below.refl _ _).alloc (Nat.le_refl _) _
      have Ot_17 : Hid (w_t_17.ownsRow w.heap.size 3 1 (.slice (some ⟨wt_9.heap.size, 0, none⟩) 0 0) 0 []) := Lib.hid (by rw [← hw_t_17]; exact own_empty HBwt_9.out.size)
      have HBw_t_17 := Lib.hid (Below.step HBwt_9.out bw_t_17)
      clear bw_t_17
      cases ret_hid H
      go_wp2_with fail
      go_ret2
      exact ⟨(some ⟨wt_9.heap.size, 0, none⟩), 0, rfl, Ot_17.out, HBw_t_17.out⟩
    | true =>
      replace H := let_hid H
      obtain ⟨t_10, ht_10, H⟩ := H
      obtain rfl : t_10 = false := ht_10.symm
      replace H := app_hid H
      replace H := join_hid H
      replace H := ite_f H
      replace H := let_hid H
      obtain ⟨t_15, ht_15, H⟩ := H
      replace H := app_hid H
      cases t_15 with
      | false =>
        replace H := ite_f H
        obtain ⟨w_t_20, hw_t_20⟩ : ∃ x, wt_9.alloc (.cells #[] 3) = x := ⟨_, rfl⟩
        have bw_t_20 : Below wt_9.heap.size wt_9 w_t_20 := by rw [← hw_t_20]; exact (Below.refl _ _).alloc (Nat.le_refl _) _
        have Ot_20 : Hid (w_t_20.ownsRow w.heap.size 3 1 (.slice (some ⟨wt_9.heap.size, 0, none⟩) 0 0) 0 []) := Lib.hid (by rw [← hw_t_20]; exact own_empty HBwt_9.out.size)
        have HBw_t_20 := Lib.hid (Below.step HBwt_9.out bw_t_20)
        clear bw_t_20
        replace H := bind_hid H
        obtain ⟨t_25, qt_25, H⟩ := H
        obtain ⟨t_25_x0, t_25_x1, t_25_x2, t_25_x3, t_25_x4, t_25_x5, t_25_x6, t_25_x7, t_25_x8, t_25_x9⟩ := t_25
        replace H := unIntA10_hid H
        go_wp2_with fail
        go_at_call 68
        refine (Go.Proofs.Ythkaeighfjadlaa.GiEarliestMinutes.C (list) (from_1) (minute) A0 c0 _   (Lib.hid (Cells.below M0.out HBw_t_20.out)) N0 qt_25).mono ?_
        rintro e_t_25 wt_25 ⟨rfl, bt_25⟩
        unfold Go.Proofs.Ythkaeighfjadlaa.PIntA10.IntA10.val
        have HBwt_25 := Lib.hid (Below.step HBw_t_20.out bt_25)
        replace Ot_20 := Lib.hid (own_below Ot_20.out bt_25)
        clear bt_25
        go_wp2_with fail
        go_loopg [34, 10] (10) (fun m_ v34_ v10_ wr => ∃ (k0 : Nat) (reached_10l0 : (List Int)) (Areached_10l0 : Option Addr) (creached_10l0 : Nat), k0 + m_ = 10 ∧ v34_ = .int .i64 (k0 : Int) ∧ v10_ = .slice Areached_10l0 reached_10l0.length creached_10l0 ∧ Hid (cntK (l0 by_3 t_25_x0 t_25_x1 t_25_x2 t_25_x3 t_25_x4 t_25_x5 t_25_x6 t_25_x7 t_25_x8 t_25_x9) m_ k0 (reached_10l0) (e0 ) = some (r0, r1)) ∧ Hid (Below w.heap.size w wr) ∧ Hid (wr.ownsRow w.heap.size 3 1 (.slice Areached_10l0 reached_10l0.length creached_10l0) reached_10l0.length (Go.Proofs.Ythkaeighfjadlaa.HelpInt.iv reached_10l0)))
        case atStart => exact ⟨0, _, _, _, by omega, rfl, rfl, H, HBwt_25, Ot_20⟩
        case round =>
          obtain ⟨k0, reached_10l0, Areached_10l0, creached_10l0, hkm0, rfl, rfl, H, HBwr0, Oreached_10l0⟩ := hrel
          rename World => wr0
          cases gk with
          | zero =>
            obtain rfl : k0 = 10 := by omega
            have hc0 : decide (((10 : Nat) : Int) < ((10 : Nat) : Int)) = false := by simp
            replace H := cnt_zero H
            unfold e0 at H
            replace H := let_hid H
            obtain ⟨_, rfl, H⟩ := H
            cases ret_hid H
            go_wp2_with fail
            go_ret2
            exact ⟨Areached_10l0, creached_10l0, rfl, Oreached_10l0.out, HBwr0.out⟩
          | succ m0 =>
            have hlt0 : k0 < 10 := by omega
            have hc0 : decide ((k0 : Int) < ((10 : Nat) : Int)) = true := by simp; omega
            replace H := cnt_succ H
            have hd0 : decide ((k0 : Int) < 10) = true := by simp; omega
            unfold l0 at H
            replace H := let_hid H
            obtain ⟨_, rfl, H⟩ := H
            replace H := idx_hid H
            obtain ⟨nt_29, yt_29, et_29, lt_29, gt_29, H⟩ := H
            obtain rfl : k0 = nt_29 := by omega
            clear et_29
            have it_29 : ∀ w, (Instr.index 90 (.agg #[.int .i64 t_25_x0, .int .i64 t_25_x1, .int .i64 t_25_x2, .int .i64 t_25_x3, .int .i64 t_25_x4, .int .i64 t_25_x5, .int .i64 t_25_x6, .int .i64 t_25_x7, .int .i64 t_25_x8, .int .i64 t_25_x9]) (.int .i64 (k0 : Int))).run Try.prog w = .ok (.int .i64 yt_29) w := by
              intro w
              have hl := lt_29
              have hg := gt_29.out
              clear gt_29 H
              rcases k0 with _ | _ | _ | _ | _ | _ | _ | _ | _ | _ | _
              · obtain rfl := Option.some.inj hg; rfl
              · obtain rfl := Option.some.inj hg; rfl
              · obtain rfl := Option.some.inj hg; rfl
              · obtain rfl := Option.some.inj hg; rfl
              · obtain rfl := Option.some.inj hg; rfl
              · obtain rfl := Option.some.inj hg; rfl
              · obtain rfl := Option.some.inj hg; rfl
              · obtain rfl := Option.some.inj hg; rfl
              · obtain rfl := Option.some.inj hg; rfl
              · obtain rfl := Option.some.inj hg; rfl
              · simp at hl; omega
            replace H := let_hid H
            obtain ⟨t_34, ht_34, H⟩ := H
            cases t_34 with
            | false =>
              replace H := ite_f H
              replace H := app_hid H
              go_wp2_with fail
              go_roundg m0
              case measure => omega
              case rel => exact ⟨k0 + 1, _, _, _, by omega, by go_num, rfl, H, HBwr0, Oreached_10l0⟩
            | true =>
              replace H := ite_t H
              obtain ⟨w_t_37, hw_t_37⟩ : ∃ x, wr0.alloc (.cells #[.int .i64 (k0 : Int)] 3) = x := ⟨_, rfl⟩
              have bw_t_37 : Below wr0.heap.size wr0 w_t_37 := by rw [← hw_t_37]; exact (Below.refl _ _).alloc (Nat.le_refl _) _
              have HBw_t_37 := Lib.hid (Below.step HBwr0.out bw_t_37)
              replace Oreached_10l0 := Lib.hid (own_below Oreached_10l0.out bw_t_37)
              clear bw_t_37
              replace H := guard_hid H
              obtain ⟨hlt_38, H⟩ := H
              replace H := let_hid H
              obtain ⟨t_38, ht_38, H⟩ := H
              have hht_38 := Lib.hid ht_38
              clear ht_38
              have hst_38 := HBw_t_37.out.size
              go_wp2_with (at_builtin; refine wpList_append_own_at _ rfl _ _ 27 rfl w.heap.size 3 i0_3 (.int .i64 0) 1 8 Try.underlying27 hi_3 hz0_3 hz1_3 hz2_3 rfl (by decide) _ _ _ rfl Oreached_10l0.out ⟨wr0.heap.size, 0, none⟩ 1 1 [.int .i64 (k0 : Int)] rfl rfl (news_new hw_t_37) (one_cells rfl) (by unfold maxLen; omega) (by omega) hst_38 ?_; intro vt_38 wt_38 ot_38 gt_38 zt_38 yt_38; clear zt_38; obtain ⟨qt_38, ct_38, rfl, pt_38⟩ := own_push hht_38.out (Go.Proofs.Ythkaeighfjadlaa.HelpInt.iv_snoc _ _) rfl ot_38; have Pt_38 := Lib.hid pt_38; have Yt_38 := Lib.hid yt_38; have Gt_38 := Lib.hid gt_38; clear ot_38 gt_38 pt_38 yt_38; refine stop_in ?_)
              refine stop_out ?_
              have HBwt_38 := Lib.hid (HBw_t_37.out.grown Gt_38.out hst_38 (fun q hq => (Oreached_10l0.out.lt q hq).1))
              clear hst_38
              clear Oreached_10l0 Yt_38 Gt_38
              replace H := app_hid H
              go_wp2_with fail
              go_roundg m0
              case measure => omega
              case rel => exact ⟨k0 + 1, _, _, _, by omega, by go_num, rfl, H, HBwt_38, Pt_38⟩
      | true =>
        replace H := ite_t H
        obtain ⟨w_t_17, hw_t_17⟩ : ∃ x, wt_9.alloc (.cells #[] 3) = x := ⟨_, rfl⟩
        have bw_t_17 : Below wt_9.heap.size wt_9 w_t_17 := by rw [← hw_t_17]; exact (Below.refl _ _).alloc (Nat.le_refl _) _
        have Ot_17 : Hid (w_t_17.ownsRow w.heap.size 3 1 (.slice (some ⟨wt_9.heap.size, 0, none⟩) 0 0) 0 []) := Lib.hid (by rw [← hw_t_17]; exact own_empty HBwt_9.out.size)
        have HBw_t_17 := Lib.hid (Below.step HBwt_9.out bw_t_17)
        clear bw_t_17
        cases ret_hid H
        go_wp2_with fail
        go_ret2
        exact ⟨(some ⟨wt_9.heap.size, 0, none⟩), 0, rfl, Ot_17.out, HBw_t_17.out⟩
end Go.Proofs.Ythkaeighfjadlaa.GiReachedBy

/- loop.example/g01062/laws.vHas as a plain function, and the contract of the program's: where the plain one has an answer, the program has it. Conditions: slices read as lists. -/
namespace Go.Proofs.Ythkaeighfjadlaa.GlVHas
set_option linter.unusedVariables false
set_option linter.unusedSimpArgs false
open Go.RowKit
open Go.Proofs.Ythkaeighfjadlaa.Rowed Go.Proofs.Ythkaeighfjadlaa.Turn Go.Proofs.Ythkaeighfjadlaa.Aid Go.Proofs.Ythkaeighfjadlaa.GoP Go.Proofs.Ythkaeighfjadlaa.GoM

def l0 (l : (List Int)) (x : Int) (k0 : Nat) (s : Unit) (nx0 bk0 : Unit → Option (Bool)) : Option (Bool) :=
  
  Option.bind (idx l (k0 : Int)) fun (yt_8 : Int) =>
  letK (yt_8 == x) fun (t_11 : Bool) =>
  iteK t_11
  (some true)
  (appK nx0 ())

def e0  (s : Unit) : Option (Bool) :=
  
  some false

def P (l : (List Int)) (x : Int) : Option (Bool) :=
  cntK (l0 l x) (l.length) 0 () (e0 )

set_option maxRecDepth 100000 in
set_option maxHeartbeats 2000000 in
theorem C (l : (List Int)) (x : Int) (A0 : Option Addr) (c0 : Nat)  (w : World) (M0 : Hid (Cells w 1 A0 l.length (Go.Proofs.Ythkaeighfjadlaa.HelpInt.iv l))) (N0 : Hid (l.length ≤ 9223372036854775807))  {r : Bool} (H : Hid (P l x = some r)) :
    Calls Try.prog 19 #[.slice A0 l.length c0, .int .i64 x] w (Gives (.bool r) w) := by
  have HB := Lib.hid (Below.refl w.heap.size w)
  unfold P at H
  have N0o := N0.out
  go_enter Try.func19, Try.ntmps19
  go_wp2_with fail
  go_loopg [5] (l.length) (fun m_ v5_ wr => ∃ (k0 : Nat) , k0 + m_ = l.length ∧ v5_ = .int .i64 (k0 : Int) ∧ Hid (cntK (l0 l x) m_ k0 () (e0 ) = some r) ∧ Hid (Below w.heap.size w wr))
  case atStart => exact ⟨0, by omega, rfl, H, HB⟩
  case round =>
    obtain ⟨k0, hkm0, rfl, H, HBwr0⟩ := hrel
    rename World => wr0
    cases gk with
    | zero =>
      obtain rfl : k0 = l.length := by omega
      have hc0 : decide (((l.length : Nat) : Int) < ((l.length : Nat) : Int)) = false := by simp
      replace H := cnt_zero H
      unfold e0 at H
      obtain rfl := ret_hid H
      go_wp2_with fail
      go_ret
      exact ⟨rfl, HBwr0.out⟩
    | succ m0 =>
      have hlt0 : k0 < l.length := by omega
      have hc0 : decide ((k0 : Int) < ((l.length : Nat) : Int)) = true := by simp; omega
      replace H := cnt_succ H
      unfold l0 at H
      replace H := idx_hid H
      obtain ⟨nt_8, yt_8, et_8, lt_8, gt_8, H⟩ := H
      obtain rfl : k0 = nt_8 := by omega
      clear et_8
      obtain ⟨ab_t_8, ao_t_8, zt_8, At_8, z_t_8, ct_8_0⟩ := Go.Proofs.Ythkaeighfjadlaa.HelpInt.Ints.at_ M0.out lt_8
      obtain rfl := Option.some.inj (gt_8.out.symm.trans z_t_8)
      subst At_8
      have ltt_8 := cell_lt ct_8_0
      replace ct_8_0 := cell_below HBwr0.out ct_8_0
      clear z_t_8
      have b0t_8 : (0 : Int) ≤ (k0 : Int) := by omega
      have b1t_8 : (k0 : Int) < ((l.length : Nat) : Int) := by omega
      have b2t_8 : ((k0 : Int)).toNat = k0 := by omega
      replace H := let_hid H
      obtain ⟨t_11, ht_11, H⟩ := H
      cases t_11 with
      | false =>
        replace H := ite_f H
        replace H := app_hid H
        go_wp2_with fail
        go_roundg m0
        case measure => omega
        case rel => exact ⟨k0 + 1, by omega, by go_num, H, HBwr0⟩
      | true =>
        replace H := ite_t H
        obtain rfl := ret_hid H
        go_wp2_with fail
        go_ret
        exact ⟨rfl, HBwr0.out⟩
end Go.Proofs.Ythkaeighfjadlaa.GlVHas

/- What is held of the worlds of a region that draws its order may grow on the way. No condition. -/
namespace Go.Proofs.Ythkaeighfjadlaa.GoR
set_option linter.unusedVariables false
theorem wpAnyH_more {P : Program} {ops : Array Oper} {Q : Exit → Act → World → Prop} {md : Region.Mode} {S S' : World → Prop} (h : ∀ w, S' w → S w) : ∀ (fuel : Nat) (listed : Array Bool) (a : Act) (w : World), wpAnyH P md ops Q S' fuel listed a w → wpAnyH P md ops Q S fuel listed a w
  | 0, _, _, _, H => H
  | fuel + 1, _, _, _, H => ⟨H.1, fun i hi => wpOp_mono (fun a' w' h' => ⟨h _ h'.1, wpAnyH_more h fuel _ a' w' h'.2⟩) (H.2 i hi)⟩
theorem flat_pos {α : Type} {f : α → List Value} {l : List α} (h : 0 < (l.flatMap f).length) : 0 < l.length := by cases l <;> simp_all
theorem results_tmp5 {fn : Func} {t0 t1 t2 t3 t4 : Tmp} (h : fn.results = #[.tmp t0, .tmp t1, .tmp t2, .tmp t3, .tmp t4]) (tmps : Array Value) (P : Program) (w : World) :
    (results fn tmps).run P w = .ok (.tuple #[tmps.getD t0 undef, tmps.getD t1 undef, tmps.getD t2 undef, tmps.getD t3 undef, tmps.getD t4 undef]) w := by
  simp [results, h]
theorem results_tmp6 {fn : Func} {t0 t1 t2 t3 t4 t5 : Tmp} (h : fn.results = #[.tmp t0, .tmp t1, .tmp t2, .tmp t3, .tmp t4, .tmp t5]) (tmps : Array Value) (P : Program) (w : World) :
    (results fn tmps).run P w = .ok (.tuple #[tmps.getD t0 undef, tmps.getD t1 undef, tmps.getD t2 undef, tmps.getD t3 undef, tmps.getD t4 undef, tmps.getD t5 undef]) w := by
  simp [results, h]
end Go.Proofs.Ythkaeighfjadlaa.GoR

/- (*loop.example/g01062/spec.l1Cur).routeOf as a plain function, and the contract of the program's: where the plain one has an answer, the program has it. Conditions: slices read as lists. -/
namespace Go.Proofs.Ythkaeighfjadlaa.GsL1CurRouteOf
set_option linter.unusedVariables false
set_option linter.unusedSimpArgs false
open Go.RowKit
open Go.Proofs.Ythkaeighfjadlaa.Rowed Go.Proofs.Ythkaeighfjadlaa.Turn Go.Proofs.Ythkaeighfjadlaa.Aid Go.Proofs.Ythkaeighfjadlaa.GoP Go.Proofs.Ythkaeighfjadlaa.GoM

def j0 (list : (List Go.Proofs.Ythkaeighfjadlaa.PMail.Mail)) (s : (List Int) × Go.Proofs.Ythkaeighfjadlaa.GoC.Tape) : Option ((List Int) × Go.Proofs.Ythkaeighfjadlaa.GoC.Tape) :=
  unp2 s fun out_9j0 c0_c0j0 =>
  bind2 (Go.Proofs.Ythkaeighfjadlaa.GsL1CurPick.P c0_c0j0 12) fun (t_52 : Int) (t_52_tp : Go.Proofs.Ythkaeighfjadlaa.GoC.Tape) =>
  letK (t_52 == 0) fun (t_53 : Bool) =>
  iteK t_53
  (letK ([0, (-1), (list.length : Int)]) fun (t_59 : (List Int)) =>
  bind2 (Go.Proofs.Ythkaeighfjadlaa.GsL1CurAmong.P t_52_tp t_59) fun (t_60 : Int) (t_60_tp : Go.Proofs.Ythkaeighfjadlaa.GoC.Tape) =>
  guardK (out_9j0.length ≤ 1099511627776) <|
  letK (out_9j0 ++ [t_60]) fun (t_62 : (List Int)) =>
  some (t_62, t_60_tp))
  (letK (t_52 == 1) fun (t_64 : Bool) =>
  iteK t_64
  (letK (decide (1 < (out_9j0.length : Int))) fun (t_68 : Bool) =>
  iteK t_68
  (guardK ((0 : Int) ≤ 1 ∧ (1 : Int) ≤ (out_9j0.length : Int)) <|
  letK (List.drop (Int.toNat 1) out_9j0) fun (t_70 : (List Int)) =>
  some (t_70, t_52_tp))
  (some (out_9j0, t_52_tp)))
  (some (out_9j0, t_52_tp)))

def l0 (list : (List Go.Proofs.Ythkaeighfjadlaa.PMail.Mail)) (k0 : Nat) (s : Int × Int × (List Int) × Go.Proofs.Ythkaeighfjadlaa.GoC.Tape) (nx0 bk0 : Int × Int × (List Int) × Go.Proofs.Ythkaeighfjadlaa.GoC.Tape → Option ((List Int) × Go.Proofs.Ythkaeighfjadlaa.GoC.Tape)) : Option ((List Int) × Go.Proofs.Ythkaeighfjadlaa.GoC.Tape) :=
  unp4 s fun from_2l0 minute_3l0 out_9l0 c0_c0l0 =>
  Option.bind (idx list (k0 : Int)) fun (yt_12 : Go.Proofs.Ythkaeighfjadlaa.PMail.Mail) =>
  unMail yt_12 fun (t_12_leave : Int) (t_12_from_ : Int) (t_12_to_ : Int) (t_12_arrive : Int) =>
  letK (t_12_from_ == from_2l0) fun (t_16 : Bool) =>
  joinK (fun (t_25 : Bool) =>
  joinK (fun (st_30 : Bool × Go.Proofs.Ythkaeighfjadlaa.GoC.Tape) => unp2 st_30 fun t_30 t_30_tp =>
  iteK t_30
  (guardK (out_9l0.length ≤ 1099511627776) <|
  letK (out_9l0 ++ [(k0 : Int)]) fun (t_34 : (List Int)) =>
  Option.bind (idx list (k0 : Int)) fun (yt_38 : Go.Proofs.Ythkaeighfjadlaa.PMail.Mail) =>
  unMail yt_38 fun (t_38_leave : Int) (t_38_from_ : Int) (t_38_to_ : Int) (t_38_arrive : Int) =>
  Option.bind (idx list (k0 : Int)) fun (yt_44 : Go.Proofs.Ythkaeighfjadlaa.PMail.Mail) =>
  unMail yt_44 fun (t_44_leave : Int) (t_44_from_ : Int) (t_44_to_ : Int) (t_44_arrive : Int) =>
  appK nx0 (t_38_to_, t_44_arrive, t_34, t_30_tp))
  (appK nx0 (from_2l0, minute_3l0, out_9l0, t_30_tp))) fun jt_30 => iteK t_25 (bind2 (Go.Proofs.Ythkaeighfjadlaa.GsL1CurOne.P c0_c0l0 4) fun (t_28 : Bool) (t_28_tp : Go.Proofs.Ythkaeighfjadlaa.GoC.Tape) =>
  letK (!t_28) fun (t_29 : Bool) =>
  appK jt_30 (t_29, t_28_tp)) (appK jt_30 (false, c0_c0l0))) fun jt_25 => iteK t_16 (Option.bind (idx list (k0 : Int)) fun (yt_20 : Go.Proofs.Ythkaeighfjadlaa.PMail.Mail) =>
  unMail yt_20 fun (t_20_leave : Int) (t_20_from_ : Int) (t_20_to_ : Int) (t_20_arrive : Int) =>
  letK (decide (minute_3l0 ≤ t_20_leave)) fun (t_24 : Bool) =>
  appK jt_25 t_24) (appK jt_25 false)

def e0 (c : Go.Proofs.Ythkaeighfjadlaa.GoC.Tape) (list : (List Go.Proofs.Ythkaeighfjadlaa.PMail.Mail)) (from_2 : Int) (minute : Int) (t_4 : Bool) (s : Int × Int × (List Int) × Go.Proofs.Ythkaeighfjadlaa.GoC.Tape) : Option ((List Int) × Go.Proofs.Ythkaeighfjadlaa.GoC.Tape) :=
  unp4 s fun from_2l0 minute_3l0 out_9l0 c0_c0l0 =>
  j0 list (out_9l0, c0_c0l0)

def P (c : Go.Proofs.Ythkaeighfjadlaa.GoC.Tape) (list : (List Go.Proofs.Ythkaeighfjadlaa.PMail.Mail)) (from_2 : Int) (minute : Int) : Option ((List Int) × Go.Proofs.Ythkaeighfjadlaa.GoC.Tape) :=
  Option.bind (Go.Proofs.Ythkaeighfjadlaa.GsL9Good.P list) fun (t_4 : Bool) =>
  iteK t_4
  (cntK (l0 list) (list.length) 0 (from_2, minute, ([] : List Int), c) (e0 c list from_2 minute t_4))
  (j0 list (([] : List Int), c))

set_option maxRecDepth 100000 in
set_option maxHeartbeats 2000000 in
theorem C (c : Go.Proofs.Ythkaeighfjadlaa.GoC.Tape) (list : (List Go.Proofs.Ythkaeighfjadlaa.PMail.Mail)) (from_2 : Int) (minute : Int) (A1 : Option Addr) (c1 : Nat)  (g0 : Nat) (Ac0 : Option Addr) (cc0 : Nat) (bc0 : Nat) (w : World) (M1 : Hid (Cells w 4 A1 list.length (Go.Proofs.Ythkaeighfjadlaa.PMail.flat list))) (N1 : Hid (list.length ≤ 9223372036854775807))  (K0 : Hid (Go.Proofs.Ythkaeighfjadlaa.GoC.CurIs w bc0 g0 Ac0 cc0 c)) (X1 : Hid (0 < list.length → Apart A1 (some ⟨g0, 0, none⟩))) {r : (List Int)} {t_ : Go.Proofs.Ythkaeighfjadlaa.GoC.Tape} (H : Hid (P c list from_2 minute = some (r, t_))) :
    Calls Try.prog 76 #[.pointer (some ⟨g0, 0, none⟩), .slice A1 list.length c1, .int .i64 from_2, .int .i64 minute] w (fun e w' => ∃ A_r c_r, e = .returned (.slice A_r r.length c_r) ∧ (Cells w' 1 A_r r.length (Go.Proofs.Ythkaeighfjadlaa.HelpInt.iv r) ∧ r.length ≤ 9223372036854775807 ∧ Room A_r r.length c_r) ∧ Go.Proofs.Ythkaeighfjadlaa.GoC.CurIs w' bc0 g0 Ac0 cc0 t_ ∧ w.grownBy w' (Value.slice (some ⟨g0, 0, none⟩) 1 1).ownBlock) := by
  have HB := Lib.hid (Aid.grown_refl w (Value.slice (some ⟨g0, 0, none⟩) 1 1).ownBlock)
  unfold P at H
  have N1o := N1.out
  have L0 : bc0 ≤ w.heap.size := by have := Go.Proofs.Ythkaeighfjadlaa.GoC.cur_lt K0.out; omega
  obtain ⟨i0_3, hi_3, hz0_3, hz1_3, hz2_3⟩ := Aid.info_parts (P := Try.prog) (T := 3) (z := .int .i64 0) (s := 1) (b := 8) (by kernel_rfl)
  go_enter Try.func76, Try.ntmps76
  obtain ⟨w_t_1, hw_t_1⟩ : ∃ x, w.alloc (.cells #[] 3) = x := ⟨_, rfl⟩
  have bw_t_1 : Below w.heap.size w w_t_1 := by rw [← hw_t_1]; exact (Below.refl _ _).alloc (Nat.le_refl _) _
  have Ot_1 : Hid (w_t_1.ownsRow w.heap.size 3 1 (.slice (some ⟨w.heap.size, 0, none⟩) 0 0) 0 []) := Lib.hid (by rw [← hw_t_1]; exact own_empty HB.out.size)
  have Dt_1_c0 := Lib.hid (Go.Proofs.Ythkaeighfjadlaa.GoC.apart_cur K0.out)
  have HBw_t_1 := Lib.hid (grown_below HB.out bw_t_1)
  replace K0 := Lib.hid (Go.Proofs.Ythkaeighfjadlaa.GoC.cur_below K0.out bw_t_1)
  clear bw_t_1
  replace H := bind_hid H
  obtain ⟨t_4, qt_4, H⟩ := H
  go_wp2_with fail
  go_at_call 65
  refine (Go.Proofs.Ythkaeighfjadlaa.GsL9Good.C (list) A1 c1 _   (Lib.hid (Go.Proofs.Ythkaeighfjadlaa.GoC.cells_io M1.out HBw_t_1.out X1.out (hm := fun h_ => Go.Proofs.Ythkaeighfjadlaa.GoR.flat_pos h_))) N1 qt_4).mono ?_
  rintro e_t_4 wt_4 ⟨rfl, bt_4⟩
  have HBwt_4 := Lib.hid (grown_below HBw_t_1.out bt_4)
  replace Ot_1 := Lib.hid (own_below Ot_1.out bt_4)
  replace K0 := Lib.hid (Go.Proofs.Ythkaeighfjadlaa.GoC.cur_below K0.out bt_4)
  clear bt_4
  cases t_4 with
  | false =>
    replace H := ite_f H
    unfold j0 at H
    replace H := unp2_hid H
    replace H := bind2_hid H
    obtain ⟨t_52, t_52_tp, qt_52, H⟩ := H
    go_wp2_with fail
    go_at_call 122
    refine (Go.Proofs.Ythkaeighfjadlaa.GsL1CurPick.C (c) (12) (g0) (Ac0) (cc0) (bc0) _   K0 qt_52).mono ?_
    rintro e_t_52 wt_52 ⟨rfl, kt_52, gt_52⟩
    have Kt_52 := Lib.hid kt_52
    have Gt_52 : Hid (wt_4.grownBy wt_52 (Value.slice (some ⟨g0, 0, none⟩) 1 1).ownBlock) := Lib.hid gt_52
    clear kt_52 gt_52
    have HBwt_52 := Lib.hid (Aid.grown_tr HBwt_4.out Gt_52.out)
    replace Ot_1 := Lib.hid (own_other Ot_1.out Gt_52.out (Apart.symm Dt_1_c0.out))
    clear K0 Gt_52
    replace H := let_hid H
    obtain ⟨t_53, ht_53, H⟩ := H
    cases t_53 with
    | false =>
      replace H := ite_f H
      replace H := let_hid H
      obtain ⟨t_64, ht_64, H⟩ := H
      cases t_64 with
      | false =>
        replace H := ite_f H
        cases ret_hid H
        go_wp2_with fail
        go_ret
        exact ⟨(some ⟨w.heap.size, 0, none⟩), 0, rfl, ⟨own_cells Ot_1.out, own_max Ot_1.out, own_room Ot_1.out⟩, Kt_52.out, HBwt_52.out⟩
      | true =>
        replace H := ite_t H
        replace H := let_hid H
        obtain ⟨t_68, ht_68, H⟩ := H
        cases t_68 with
        | false =>
          have nht_68 : ¬ (1 < ([] : List Int).length) := by have := of_decide_eq_false ht_68; omega
          replace H := ite_f H
          cases ret_hid H
          go_wp2_with fail
          go_ret
          exact ⟨(some ⟨w.heap.size, 0, none⟩), 0, rfl, ⟨own_cells Ot_1.out, own_max Ot_1.out, own_room Ot_1.out⟩, Kt_52.out, HBwt_52.out⟩
        | true =>
          have nht_68 : 1 < ([] : List Int).length := by have := of_decide_eq_true ht_68; omega
          replace H := ite_t H
          replace H := guard_hid H
          obtain ⟨hl_t_70, H⟩ := H
          exact absurd hl_t_70.2 (by simp)
    | true =>
      replace H := ite_t H
      replace H := let_hid H
      obtain ⟨t_59, ht_59, H⟩ := H
      obtain ⟨w_t_59, hw_t_59⟩ : ∃ x, wt_52.alloc (.cells #[.int .i64 0, .int .i64 (-1), .int .i64 (list.length : Int)] 3) = x := ⟨_, rfl⟩
      have bw_t_59 : Below wt_52.heap.size wt_52 w_t_59 := by rw [← hw_t_59]; exact (Below.refl _ _).alloc (Nat.le_refl _) _
      have hs_t_59 := HBwt_52.out.size
      have nt_59 : t_59.length = 3 := by rw [← ht_59]; rfl
      have Ot_59 : Hid (w_t_59.ownsRow w.heap.size 3 1 (.slice (some ⟨wt_52.heap.size, 0, none⟩) 3 3) 3 (Go.Proofs.Ythkaeighfjadlaa.HelpInt.iv t_59)) := by
        rw [← hw_t_59, ← ht_59]
        have e_ : ([.int .i64 0, .int .i64 (-1), .int .i64 (list.length : Int)] : List Value) = (Go.Proofs.Ythkaeighfjadlaa.HelpInt.iv ([0, (-1), (list.length : Int)] : List Int)) := rfl
        exact Lib.hid (own_laid (n := 3) hs_t_59 e_ rfl (by unfold maxLen; omega))
      clear hs_t_59
      have hht_59 := Lib.hid ht_59
      clear ht_59
      replace nt_59 := Lib.hid nt_59
      have Dt_59_t_1 := Lib.hid (apart_fresh Ot_1.out)
      have Dt_59_c0 := Lib.hid (Go.Proofs.Ythkaeighfjadlaa.GoC.apart_cur Kt_52.out)
      have HBw_t_59 := Lib.hid (grown_below HBwt_52.out bw_t_59)
      replace Ot_1 := Lib.hid (own_below Ot_1.out bw_t_59)
      replace Kt_52 := Lib.hid (Go.Proofs.Ythkaeighfjadlaa.GoC.cur_below Kt_52.out bw_t_59)
      clear bw_t_59
      replace H := bind2_hid H
      obtain ⟨t_60, t_60_tp, qt_60, H⟩ := H
      go_wp2_with fail
      have hc_ := nt_59.out
      have hv_ : (Value.slice (some ⟨wt_52.heap.size, 0, none⟩) 3 3 : Value) = Value.slice (some ⟨wt_52.heap.size, 0, none⟩) t_59.length 3 := by rw [hc_]
      try rw [hv_]
      replace Ot_59 := Lib.hid (own_len hc_ Ot_59.out)
      clear hc_ hv_
      go_wp2_with fail
      go_at_call 75
      refine (Go.Proofs.Ythkaeighfjadlaa.GsL1CurAmong.C (t_52_tp) (t_59) (some ⟨wt_52.heap.size, 0, none⟩) 3 (g0) (Ac0) (cc0) (bc0) _   (Lib.hid (own_cells Ot_59.out)) (Lib.hid (own_max Ot_59.out)) Kt_52 (Lib.hid (fun _ => Dt_59_c0.out)) qt_60).mono ?_
      rintro e_t_60 wt_60 ⟨rfl, kt_60, gt_60⟩
      have Kt_60 := Lib.hid kt_60
      have Gt_60 : Hid (w_t_59.grownBy wt_60 (Value.slice (some ⟨g0, 0, none⟩) 1 1).ownBlock) := Lib.hid gt_60
      clear kt_60 gt_60
      have HBwt_60 := Lib.hid (Aid.grown_tr HBw_t_59.out Gt_60.out)
      replace Ot_1 := Lib.hid (own_other Ot_1.out Gt_60.out (Apart.symm Dt_1_c0.out))
      replace Ot_59 := Lib.hid (own_other Ot_59.out Gt_60.out (Apart.symm Dt_59_c0.out))
      clear Kt_52 Gt_60
      obtain ⟨w_t_61, hw_t_61⟩ : ∃ x, wt_60.alloc (.cells #[.int .i64 t_60] 3) = x := ⟨_, rfl⟩
      have bw_t_61 : Below wt_60.heap.size wt_60 w_t_61 := by rw [← hw_t_61]; exact (Below.refl _ _).alloc (Nat.le_refl _) _
      have HBw_t_61 := Lib.hid (grown_below HBwt_60.out bw_t_61)
      replace Ot_1 := Lib.hid (own_below Ot_1.out bw_t_61)
      replace Ot_59 := Lib.hid (own_below Ot_59.out bw_t_61)
      replace Kt_60 := Lib.hid (Go.Proofs.Ythkaeighfjadlaa.GoC.cur_below Kt_60.out bw_t_61)
      clear bw_t_61
      replace H := guard_hid H
      obtain ⟨hlt_62, H⟩ := H
      replace H := let_hid H
      obtain ⟨t_62, ht_62, H⟩ := H
      have hht_62 := Lib.hid ht_62
      clear ht_62
      have hst_62 := HBw_t_61.out.size
      go_wp2_with (at_builtin; refine wpList_append_own_at _ rfl _ _ 27 rfl w.heap.size 3 i0_3 (.int .i64 0) 1 8 Try.underlying27 hi_3 hz0_3 hz1_3 hz2_3 rfl (by decide) _ _ _ rfl Ot_1.out ⟨wt_60.heap.size, 0, none⟩ 1 1 [.int .i64 t_60] rfl rfl (news_new hw_t_61) (one_cells rfl) (by unfold maxLen; omega) (by omega) hst_62 ?_; intro vt_62 wt_62 ot_62 gt_62 zt_62 yt_62; clear zt_62; obtain ⟨qt_62, ct_62, rfl, pt_62⟩ := own_push hht_62.out (Go.Proofs.Ythkaeighfjadlaa.HelpInt.iv_snoc _ _) rfl ot_62; have Pt_62 := Lib.hid pt_62; have Yt_62 := Lib.hid yt_62; have Gt_62 := Lib.hid gt_62; clear ot_62 gt_62 pt_62 yt_62; refine stop_in ?_)
      refine stop_out ?_
      have HBwt_62 := Lib.hid (Go.Proofs.Ythkaeighfjadlaa.GoC.grown_new HBw_t_61.out Gt_62.out (Go.Proofs.Ythkaeighfjadlaa.GoC.own_ge Ot_1.out))
      clear hst_62
      have Dt_62_c0 : Hid (Apart (some ⟨qt_62, 0, none⟩) _) := Lib.hid (apart_app Dt_1_c0.out (fun a_ ha_ => by cases ha_; exact (Go.Proofs.Ythkaeighfjadlaa.GoC.cur_lt Kt_60.out).2) Yt_62.out)
      have Dt_62_t_59 : Hid (Apart (some ⟨qt_62, 0, none⟩) _) := Lib.hid (apart_app (Apart.symm Dt_59_t_1.out) (fun a_ ha_ => (own_lt Ot_59.out a_ ha_).2) Yt_62.out)
      replace Ot_59 := Lib.hid (own_other Ot_59.out Gt_62.out (Apart.symm Dt_59_t_1.out))
      replace Kt_60 := Lib.hid (Go.Proofs.Ythkaeighfjadlaa.GoC.cur_otherO Kt_60.out Gt_62.out Dt_1_c0.out L0 Ot_1.out)
      clear Ot_1 Yt_62 Gt_62
      cases ret_hid H
      go_wp2_with fail
      go_ret
      exact ⟨(some ⟨qt_62, 0, none⟩), ct_62, rfl, ⟨own_cells Pt_62.out, own_max Pt_62.out, own_room Pt_62.out⟩, Kt_60.out, HBwt_62.out⟩
  | true =>
    replace H := ite_t H
    go_wp2_with fail
    go_loopg [10, 2, 3, 9] (list.length) (fun m_ v10_ v2_ v3_ v9_ wr => ∃ (k0 : Nat) (from_2l0 : Int) (minute_3l0 : Int) (out_9l0 : (List Int)) (c0_c0l0 : Go.Proofs.Ythkaeighfjadlaa.GoC.Tape) (Aout_9l0 : Option Addr) (cout_9l0 : Nat), k0 + m_ = list.length ∧ v10_ = .int .i64 (k0 : Int) ∧ v2_ = .int .i64 from_2l0 ∧ v3_ = .int .i64 minute_3l0 ∧ v9_ = .slice Aout_9l0 out_9l0.length cout_9l0 ∧ Hid (cntK (l0 list) m_ k0 (from_2l0, minute_3l0, out_9l0, c0_c0l0) (e0 c list from_2 minute true) = some (r, t_)) ∧ Hid (w.grownBy wr (Value.slice (some ⟨g0, 0, none⟩) 1 1).ownBlock) ∧ Hid (wr.ownsRow w.heap.size 3 1 (.slice Aout_9l0 out_9l0.length cout_9l0) out_9l0.length (Go.Proofs.Ythkaeighfjadlaa.HelpInt.iv out_9l0)) ∧ Hid (Apart Aout_9l0 (some ⟨g0, 0, none⟩)) ∧ Hid (Go.Proofs.Ythkaeighfjadlaa.GoC.CurIs wr bc0 g0 Ac0 cc0 c0_c0l0))
    case atStart => exact ⟨0, _, _, _, _, _, _, by omega, rfl, rfl, rfl, rfl, H, HBwt_4, Ot_1, Lib.hid Dt_1_c0.out, K0⟩
    case round =>
      obtain ⟨k0, from_2l0, minute_3l0, out_9l0, c0_c0l0, Aout_9l0, cout_9l0, hkm0, rfl, rfl, rfl, rfl, H, HBwr0, Oout_9l0, Dout_9l0_c0, Kl0_0⟩ := hrel
      rename World => wr0
      cases gk with
      | zero =>
        obtain rfl : k0 = list.length := by omega
        have hc0 : decide (((list.length : Nat) : Int) < ((list.length : Nat) : Int)) = false := by simp
        replace H := cnt_zero H
        unfold e0 at H
        replace H := unp4_hid H
        unfold j0 at H
        replace H := unp2_hid H
        replace H := bind2_hid H
        obtain ⟨t_52, t_52_tp, qt_52, H⟩ := H
        go_wp2_with fail
        go_at_call 122
        refine (Go.Proofs.Ythkaeighfjadlaa.GsL1CurPick.C (c0_c0l0) (12) (g0) (Ac0) (cc0) (bc0) _   Kl0_0 qt_52).mono ?_
        rintro e_t_52 wt_52 ⟨rfl, kt_52, gt_52⟩
        have Kt_52 := Lib.hid kt_52
        have Gt_52 : Hid (wr0.grownBy wt_52 (Value.slice (some ⟨g0, 0, none⟩) 1 1).ownBlock) := Lib.hid gt_52
        clear kt_52 gt_52
        have HBwt_52 := Lib.hid (Aid.grown_tr HBwr0.out Gt_52.out)
        replace Oout_9l0 := Lib.hid (own_other Oout_9l0.out Gt_52.out (Apart.symm Dout_9l0_c0.out))
        clear Kl0_0 Gt_52
        replace H := let_hid H
        obtain ⟨t_53, ht_53, H⟩ := H
        cases t_53 with
        | false =>
          replace H := ite_f H
          replace H := let_hid H
          obtain ⟨t_64, ht_64, H⟩ := H
          cases t_64 with
          | false =>
            replace H := ite_f H
            cases ret_hid H
            go_wp2_with fail
            go_ret
            exact ⟨Aout_9l0, cout_9l0, rfl, ⟨own_cells Oout_9l0.out, own_max Oout_9l0.out, own_room Oout_9l0.out⟩, Kt_52.out, HBwt_52.out⟩
          | true =>
            replace H := ite_t H
            replace H := let_hid H
            obtain ⟨t_68, ht_68, H⟩ := H
            cases t_68 with
            | false =>
              have nht_68 : ¬ (1 < out_9l0.length) := by have := of_decide_eq_false ht_68; omega
              replace H := ite_f H
              cases ret_hid H
              go_wp2_with fail
              go_ret
              exact ⟨Aout_9l0, cout_9l0, rfl, ⟨own_cells Oout_9l0.out, own_max Oout_9l0.out, own_room Oout_9l0.out⟩, Kt_52.out, HBwt_52.out⟩
            | true =>
              have nht_68 : 1 < out_9l0.length := by have := of_decide_eq_true ht_68; omega
              replace H := ite_t H
              replace H := guard_hid H
              obtain ⟨hl_t_70, H⟩ := H
              replace H := let_hid H
              obtain ⟨t_70, ht_70, H⟩ := H
              have hht_70 := Lib.hid ht_70
              have hgt_70 := Lib.hid hl_t_70
              clear ht_70
              clear hl_t_70
              obtain ⟨At_70, ct_70, rt_70, mt_70, qt_70⟩ := Go.Proofs.Ythkaeighfjadlaa.GoD.slice_view (P := Try.prog) (t := 27) (e := 3) (k := .i64) (ys := (Go.Proofs.Ythkaeighfjadlaa.HelpInt.iv t_70)) (m := t_70.length) (by kernel_rfl) (by kernel_rfl) hi_3 hz1_3 Oout_9l0.out (by have h_ := hgt_70.out; omega) (by rw [← hht_70.out, List.length_drop] <;> omega) (by rw [← hht_70.out]; simp [Go.Proofs.Ythkaeighfjadlaa.HelpInt.iv, List.map_drop])
              have Mt_70 := Lib.hid mt_70
              have Qt_70 := Lib.hid qt_70
              have Nt_70 : Hid (t_70.length ≤ 9223372036854775807) := Lib.hid (by have h_ := own_max Oout_9l0.out; rw [← hht_70.out, List.length_drop] <;> omega)
              cases ret_hid H
              go_wp2_with fail
              go_ret
              exact ⟨At_70, ct_70, rfl, ⟨(Mt_70.out _ Oout_9l0.out), Nt_70.out, Qt_70.out⟩, Kt_52.out, HBwt_52.out⟩
        | true =>
          replace H := ite_t H
          replace H := let_hid H
          obtain ⟨t_59, ht_59, H⟩ := H
          obtain ⟨w_t_59, hw_t_59⟩ : ∃ x, wt_52.alloc (.cells #[.int .i64 0, .int .i64 (-1), .int .i64 (list.length : Int)] 3) = x := ⟨_, rfl⟩
          have bw_t_59 : Below wt_52.heap.size wt_52 w_t_59 := by rw [← hw_t_59]; exact (Below.refl _ _).alloc (Nat.le_refl _) _
          have hs_t_59 := HBwt_52.out.size
          have nt_59 : t_59.length = 3 := by rw [← ht_59]; rfl
          have Ot_59 : Hid (w_t_59.ownsRow w.heap.size 3 1 (.slice (some ⟨wt_52.heap.size, 0, none⟩) 3 3) 3 (Go.Proofs.Ythkaeighfjadlaa.HelpInt.iv t_59)) := by
            rw [← hw_t_59, ← ht_59]
            have e_ : ([.int .i64 0, .int .i64 (-1), .int .i64 (list.length : Int)] : List Value) = (Go.Proofs.Ythkaeighfjadlaa.HelpInt.iv ([0, (-1), (list.length : Int)] : List Int)) := rfl
            exact Lib.hid (own_laid (n := 3) hs_t_59 e_ rfl (by unfold maxLen; omega))
          clear hs_t_59
          have hht_59 := Lib.hid ht_59
          clear ht_59
          replace nt_59 := Lib.hid nt_59
          have Dt_59_out_9l0 := Lib.hid (apart_fresh Oout_9l0.out)
          have Dt_59_c0 := Lib.hid (Go.Proofs.Ythkaeighfjadlaa.GoC.apart_cur Kt_52.out)
          have HBw_t_59 := Lib.hid (grown_below HBwt_52.out bw_t_59)
          replace Oout_9l0 := Lib.hid (own_below Oout_9l0.out bw_t_59)
          replace Kt_52 := Lib.hid (Go.Proofs.Ythkaeighfjadlaa.GoC.cur_below Kt_52.out bw_t_59)
          clear bw_t_59
          replace H := bind2_hid H
          obtain ⟨t_60, t_60_tp, qt_60, H⟩ := H
          go_wp2_with fail
          have hc0_ := nt_59.out
          have Oct_60_1 := Lib.hid (own_len hc0_ Ot_59.out)
          have con_ := Go.Proofs.Ythkaeighfjadlaa.GsL1CurAmong.C (t_52_tp) (t_59) (some ⟨wt_52.heap.size, 0, none⟩) 3 (g0) (Ac0) (cc0) (bc0) _   (Lib.hid (own_cells Oct_60_1.out)) (Lib.hid (own_max Oct_60_1.out)) Kt_52 (Lib.hid (fun _ => Dt_59_c0.out)) qt_60
          rw [hc0_] at con_
          clear hc0_ Oct_60_1
          go_at_call 75
          refine con_.mono ?_
          rintro e_t_60 wt_60 ⟨rfl, kt_60, gt_60⟩
          have Kt_60 := Lib.hid kt_60
          have Gt_60 : Hid (w_t_59.grownBy wt_60 (Value.slice (some ⟨g0, 0, none⟩) 1 1).ownBlock) := Lib.hid gt_60
          clear kt_60 gt_60
          have HBwt_60 := Lib.hid (Aid.grown_tr HBw_t_59.out Gt_60.out)
          replace Oout_9l0 := Lib.hid (own_other Oout_9l0.out Gt_60.out (Apart.symm Dout_9l0_c0.out))
          replace Ot_59 := Lib.hid (own_other Ot_59.out Gt_60.out (Apart.symm Dt_59_c0.out))
          clear Kt_52 Gt_60
          obtain ⟨w_t_61, hw_t_61⟩ : ∃ x, wt_60.alloc (.cells #[.int .i64 t_60] 3) = x := ⟨_, rfl⟩
          have bw_t_61 : Below wt_60.heap.size wt_60 w_t_61 := by rw [← hw_t_61]; exact (Below.refl _ _).alloc (Nat.le_refl _) _
          have HBw_t_61 := Lib.hid (grown_below HBwt_60.out bw_t_61)
          replace Oout_9l0 := Lib.hid (own_below Oout_9l0.out bw_t_61)
          replace Ot_59 := Lib.hid (own_below Ot_59.out bw_t_61)
          replace Kt_60 := Lib.hid (Go.Proofs.Ythkaeighfjadlaa.GoC.cur_below Kt_60.out bw_t_61)
          clear bw_t_61
          replace H := guard_hid H
          obtain ⟨hlt_62, H⟩ := H
          replace H := let_hid H
          obtain ⟨t_62, ht_62, H⟩ := H
          have hht_62 := Lib.hid ht_62
          clear ht_62
          have hst_62 := HBw_t_61.out.size
          go_wp2_with (at_builtin; refine wpList_append_own_at _ rfl _ _ 27 rfl w.heap.size 3 i0_3 (.int .i64 0) 1 8 Try.underlying27 hi_3 hz0_3 hz1_3 hz2_3 rfl (by decide) _ _ _ rfl Oout_9l0.out ⟨wt_60.heap.size, 0, none⟩ 1 1 [.int .i64 t_60] rfl rfl (news_new hw_t_61) (one_cells rfl) (by unfold maxLen; omega) (by omega) hst_62 ?_; intro vt_62 wt_62 ot_62 gt_62 zt_62 yt_62; clear zt_62; obtain ⟨qt_62, ct_62, rfl, pt_62⟩ := own_push hht_62.out (Go.Proofs.Ythkaeighfjadlaa.HelpInt.iv_snoc _ _) rfl ot_62; have Pt_62 := Lib.hid pt_62; have Yt_62 := Lib.hid yt_62; have Gt_62 := Lib.hid gt_62; clear ot_62 gt_62 pt_62 yt_62; refine stop_in ?_)
          refine stop_out ?_
          have HBwt_62 := Lib.hid (Go.Proofs.Ythkaeighfjadlaa.GoC.grown_new HBw_t_61.out Gt_62.out (Go.Proofs.Ythkaeighfjadlaa.GoC.own_ge Oout_9l0.out))
          clear hst_62
          have Dt_62_c0 : Hid (Apart (some ⟨qt_62, 0, none⟩) _) := Lib.hid (apart_app Dout_9l0_c0.out (fun a_ ha_ => by cases ha_; exact (Go.Proofs.Ythkaeighfjadlaa.GoC.cur_lt Kt_60.out).2) Yt_62.out)
          have Dt_62_t_59 : Hid (Apart (some ⟨qt_62, 0, none⟩) _) := Lib.hid (apart_app (Apart.symm Dt_59_out_9l0.out) (fun a_ ha_ => (own_lt Ot_59.out a_ ha_).2) Yt_62.out)
          replace Ot_59 := Lib.hid (own_other Ot_59.out Gt_62.out (Apart.symm Dt_59_out_9l0.out))
          replace Kt_60 := Lib.hid (Go.Proofs.Ythkaeighfjadlaa.GoC.cur_otherO Kt_60.out Gt_62.out Dout_9l0_c0.out L0 Oout_9l0.out)
          clear Oout_9l0 Yt_62 Gt_62
          cases ret_hid H
          go_wp2_with fail
          go_ret
          exact ⟨(some ⟨qt_62, 0, none⟩), ct_62, rfl, ⟨own_cells Pt_62.out, own_max Pt_62.out, own_room Pt_62.out⟩, Kt_60.out, HBwt_62.out⟩
      | succ m0 =>
        have hlt0 : k0 < list.length := by omega
        have hc0 : decide ((k0 : Int) < ((list.length : Nat) : Int)) = true := by simp; omega
        replace H := cnt_succ H
        unfold l0 at H
        replace H := unp4_hid H
        replace H := idx_hid H
        obtain ⟨nt_12, yt_12, et_12, lt_12, gt_12, H⟩ := H
        obtain rfl : k0 = nt_12 := by omega
        clear et_12
        obtain ⟨t_12_leave, t_12_from_, t_12_to_, t_12_arrive⟩ := yt_12
        replace H := unMail_hid H
        obtain ⟨ab_t_12, ao_t_12, zt_12, At_12, z_t_12, ct_12_0, ct_12_1, ct_12_2, ct_12_3⟩ := Go.Proofs.Ythkaeighfjadlaa.OMail.at_ M1.out lt_12
        obtain rfl := Option.some.inj (gt_12.out.symm.trans z_t_12)
        subst At_12
        have ltt_12 := cell_lt ct_12_0
        replace ct_12_0 := cell_other ct_12_0 HBwr0.out (Go.Proofs.Ythkaeighfjadlaa.GoC.apart_x X1.out (by omega))
        replace ct_12_1 := cell_other ct_12_1 HBwr0.out (Go.Proofs.Ythkaeighfjadlaa.GoC.apart_x X1.out (by omega))
        replace ct_12_2 := cell_other ct_12_2 HBwr0.out (Go.Proofs.Ythkaeighfjadlaa.GoC.apart_x X1.out (by omega))
        replace ct_12_3 := cell_other ct_12_3 HBwr0.out (Go.Proofs.Ythkaeighfjadlaa.GoC.apart_x X1.out (by omega))
        clear z_t_12
        have b0t_12 : (0 : Int) ≤ (k0 : Int) := by omega
        have b1t_12 : (k0 : Int) < ((list.length : Nat) : Int) := by omega
        have b2t_12 : ((k0 : Int)).toNat = k0 := by omega
        replace H := let_hid H
        obtain ⟨t_16, ht_16, H⟩ := H
        replace H := join_hid H
        cases t_16 with
        | false =>
          replace H := ite_f H
          replace H := app_hid H
          replace H := join_hid H
          replace H := ite_f H
          replace H := app_hid H
          replace H := unp2_hid H
          replace H := ite_f H
          replace H := app_hid H
          go_wp2_with fail
          go_roundg m0
          case measure => omega
          case rel => exact ⟨k0 + 1, _, _, _, _, _, _, by omega, by go_num, rfl, rfl, rfl, H, HBwr0, Oout_9l0, Lib.hid Dout_9l0_c0.out, Kl0_0⟩
        | true =>
          replace H := ite_t H
          replace H := idx_hid H
          obtain ⟨nt_20, yt_20, et_20, lt_20, gt_20, H⟩ := H
          obtain rfl : k0 = nt_20 := by omega
          clear et_20
          obtain rfl := Option.some.inj (gt_12.out.symm.trans gt_20.out)
          clear gt_20 lt_20
          replace H := unMail_hid H
          replace H := let_hid H
          obtain ⟨t_24, ht_24, H⟩ := H
          replace H := app_hid H
          replace H := join_hid H
          cases t_24 with
          | false =>
            replace H := ite_f H
            replace H := app_hid H
            replace H := unp2_hid H
            replace H := ite_f H
            replace H := app_hid H
            go_wp2_with fail
            go_roundg m0
            case measure => omega
            case rel => exact ⟨k0 + 1, _, _, _, _, _, _, by omega, by go_num, rfl, rfl, rfl, H, HBwr0, Oout_9l0, Lib.hid Dout_9l0_c0.out, Kl0_0⟩
          | true =>
            replace H := ite_t H
            replace H := bind2_hid H
            obtain ⟨t_28, t_28_tp, qt_28, H⟩ := H
            go_wp2_with fail
            go_at_call 124
            refine (Go.Proofs.Ythkaeighfjadlaa.GsL1CurOne.C (c0_c0l0) (4) (g0) (Ac0) (cc0) (bc0) _   Kl0_0 qt_28).mono ?_
            rintro e_t_28 wt_28 ⟨rfl, kt_28, gt_28⟩
            have Kt_28 := Lib.hid kt_28
            have Gt_28 : Hid (wr0.grownBy wt_28 (Value.slice (some ⟨g0, 0, none⟩) 1 1).ownBlock) := Lib.hid gt_28
            clear kt_28 gt_28
            have HBwt_28 := Lib.hid (Aid.grown_tr HBwr0.out Gt_28.out)
            replace ct_12_0 := cell_other ct_12_0 Gt_28.out (Go.Proofs.Ythkaeighfjadlaa.GoC.apart_x X1.out (by have := lt_12; omega))
            replace ct_12_1 := cell_other ct_12_1 Gt_28.out (Go.Proofs.Ythkaeighfjadlaa.GoC.apart_x X1.out (by have := lt_12; omega))
            replace ct_12_2 := cell_other ct_12_2 Gt_28.out (Go.Proofs.Ythkaeighfjadlaa.GoC.apart_x X1.out (by have := lt_12; omega))
            replace ct_12_3 := cell_other ct_12_3 Gt_28.out (Go.Proofs.Ythkaeighfjadlaa.GoC.apart_x X1.out (by have := lt_12; omega))
            replace Oout_9l0 := Lib.hid (own_other Oout_9l0.out Gt_28.out (Apart.symm Dout_9l0_c0.out))
            clear Kl0_0 Gt_28
            cases t_28 with
            | false =>
              replace H := let_hid H
              obtain ⟨t_29, ht_29, H⟩ := H
              obtain rfl : t_29 = true := ht_29.symm
              replace H := app_hid H
              replace H := unp2_hid H
              replace H := ite_t H
              obtain ⟨w_t_33, hw_t_33⟩ : ∃ x, wt_28.alloc (.cells #[.int .i64 (k0 : Int)] 3) = x := ⟨_, rfl⟩
              have bw_t_33 : Below wt_28.heap.size wt_28 w_t_33 := by rw [← hw_t_33]; exact (Below.refl _ _).alloc (Nat.le_refl _) _
              have HBw_t_33 := Lib.hid (grown_below HBwt_28.out bw_t_33)
              have ct_12_0__365 := cell_below bw_t_33 ct_12_0
              have ct_12_1__366 := cell_below bw_t_33 ct_12_1
              have ct_12_2__367 := cell_below bw_t_33 ct_12_2
              have ct_12_3__368 := cell_below bw_t_33 ct_12_3
              replace Oout_9l0 := Lib.hid (own_below Oout_9l0.out bw_t_33)
              replace Kt_28 := Lib.hid (Go.Proofs.Ythkaeighfjadlaa.GoC.cur_below Kt_28.out bw_t_33)
              clear bw_t_33
              replace H := guard_hid H
              obtain ⟨hlt_34, H⟩ := H
              replace H := let_hid H
              obtain ⟨t_34, ht_34, H⟩ := H
              have hht_34 := Lib.hid ht_34
              clear ht_34
              have hst_34 := HBw_t_33.out.size
              go_wp2_with (at_builtin; refine wpList_append_own_at _ rfl _ _ 27 rfl w.heap.size 3 i0_3 (.int .i64 0) 1 8 Try.underlying27 hi_3 hz0_3 hz1_3 hz2_3 rfl (by decide) _ _ _ rfl Oout_9l0.out ⟨wt_28.heap.size, 0, none⟩ 1 1 [.int .i64 (k0 : Int)] rfl rfl (news_new hw_t_33) (one_cells rfl) (by unfold maxLen; omega) (by omega) hst_34 ?_; intro vt_34 wt_34 ot_34 gt_34 zt_34 yt_34; clear zt_34; obtain ⟨qt_34, ct_34, rfl, pt_34⟩ := own_push hht_34.out (Go.Proofs.Ythkaeighfjadlaa.HelpInt.iv_snoc _ _) rfl ot_34; have Pt_34 := Lib.hid pt_34; have Yt_34 := Lib.hid yt_34; have Gt_34 := Lib.hid gt_34; clear ot_34 gt_34 pt_34 yt_34; refine stop_in ?_)
              refine stop_out ?_
              have HBwt_34 := Lib.hid (Go.Proofs.Ythkaeighfjadlaa.GoC.grown_new HBw_t_33.out Gt_34.out (Go.Proofs.Ythkaeighfjadlaa.GoC.own_ge Oout_9l0.out))
              clear hst_34
              have Dt_34_c0 : Hid (Apart (some ⟨qt_34, 0, none⟩) _) := Lib.hid (apart_app Dout_9l0_c0.out (fun a_ ha_ => by cases ha_; exact (Go.Proofs.Ythkaeighfjadlaa.GoC.cur_lt Kt_28.out).2) Yt_34.out)
              replace ct_12_0__365 := cell_other ct_12_0__365 Gt_34.out (apart_old Oout_9l0.out ltt_12)
              replace ct_12_1__366 := cell_other ct_12_1__366 Gt_34.out (apart_old Oout_9l0.out ltt_12)
              replace ct_12_2__367 := cell_other ct_12_2__367 Gt_34.out (apart_old Oout_9l0.out ltt_12)
              replace ct_12_3__368 := cell_other ct_12_3__368 Gt_34.out (apart_old Oout_9l0.out ltt_12)
              replace Kt_28 := Lib.hid (Go.Proofs.Ythkaeighfjadlaa.GoC.cur_otherO Kt_28.out Gt_34.out Dout_9l0_c0.out L0 Oout_9l0.out)
              clear ct_12_0 ct_12_1 ct_12_2 ct_12_3
              clear Oout_9l0 Yt_34 Gt_34
              replace H := idx_hid H
              obtain ⟨nt_38, yt_38, et_38, lt_38, gt_38, H⟩ := H
              obtain rfl : k0 = nt_38 := by omega
              clear et_38
              obtain rfl := Option.some.inj (gt_12.out.symm.trans gt_38.out)
              clear gt_38 lt_38
              replace H := unMail_hid H
              replace H := idx_hid H
              obtain ⟨nt_44, yt_44, et_44, lt_44, gt_44, H⟩ := H
              obtain rfl : k0 = nt_44 := by omega
              clear et_44
              obtain rfl := Option.some.inj (gt_12.out.symm.trans gt_44.out)
              clear gt_44 lt_44
              replace H := unMail_hid H
              replace H := app_hid H
              go_wp2_with fail
              go_roundg m0
              case measure => omega
              case rel => exact ⟨k0 + 1, _, _, _, _, _, _, by omega, by go_num, rfl, rfl, rfl, H, HBwt_34, Pt_34, Lib.hid Dt_34_c0.out, Kt_28⟩
            | true =>
              replace H := let_hid H
              obtain ⟨t_29, ht_29, H⟩ := H
              obtain rfl : t_29 = false := ht_29.symm
              replace H := app_hid H
              replace H := unp2_hid H
              replace H := ite_f H
              replace H := app_hid H
              go_wp2_with fail
              go_roundg m0
              case measure => omega
              case rel => exact ⟨k0 + 1, _, _, _, _, _, _, by omega, by go_num, rfl, rfl, rfl, H, HBwt_28, Oout_9l0, Lib.hid Dout_9l0_c0.out, Kt_28⟩
end Go.Proofs.Ythkaeighfjadlaa.GsL1CurRouteOf

