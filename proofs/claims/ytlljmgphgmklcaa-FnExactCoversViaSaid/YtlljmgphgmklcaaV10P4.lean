/- Texts on which the proofs of several laws stand, one behind the other (4 of 13). No condition of their own. -/
import Derived.Test.YtlljmgphgmklcaaChecked
import Derived.Test.YtlljmgphgmklcaaV10P1
import Derived.Test.YtlljmgphgmklcaaV10P2
import Derived.Test.YtlljmgphgmklcaaV10P3
import Derived.WalkKit
import Derived.WalkSpells
import Derived.WalkLawsBesides
import Derived.BigQuiet
import Derived.OwnWalk
import Derived.Deep.LoopGhost
import Derived.Deep.QuietTactic
import Derived.IntWalk
import Derived.Lib.QuietBelow
import Derived.Deep.RegionHeld3
import Derived.Laws.EntriesVeiled
/- loop.example/g01062/spec.BestRoute as a plain function, and the contract of the program's: where the plain one has an answer, the program has it. Conditions: slices read as lists. -/
namespace Go.Proofs.Ytlljmgphgmklcaa.GsBestRoute
set_option linter.unusedVariables false
set_option linter.unusedSimpArgs false
open Go.RowKit
open Go.Proofs.Ytlljmgphgmklcaa.Rowed Go.Proofs.Ytlljmgphgmklcaa.Turn Go.Proofs.Ytlljmgphgmklcaa.Aid Go.Proofs.Ytlljmgphgmklcaa.GoP Go.Proofs.Ytlljmgphgmklcaa.GoM

def l1 (list : (List Go.Proofs.Ytlljmgphgmklcaa.PMail.Mail)) (to_3 : Int) (t_8a : Int) (k1 : Nat) (s : Int × Int × (List Int)) (nx1 bk1 : Int × Int × (List Int) → Option ((List Int) × Bool)) : Option ((List Int) × Bool) :=
  unp3 s fun from_1l1 minute_2l1 out_10l1 =>
  Option.bind (idx list (k1 : Int)) fun (yt_34 : Go.Proofs.Ytlljmgphgmklcaa.PMail.Mail) =>
  unMail yt_34 fun (t_34_leave : Int) (t_34_from_ : Int) (t_34_to_ : Int) (t_34_arrive : Int) =>
  letK (t_34_from_ == from_1l1) fun (t_41 : Bool) =>
  joinK (fun (t_47 : Bool) =>
  joinK (fun (t_60 : Bool) =>
  iteK t_60
  (guardK (out_10l1.length ≤ 1099511627776) <|
  letK (out_10l1 ++ [(k1 : Int)]) fun (t_64 : (List Int)) =>
  appK bk1 (t_34_to_, t_34_arrive, t_64))
  (appK nx1 (from_1l1, minute_2l1, out_10l1))) fun jt_60 => iteK t_47 (Option.bind (Go.Proofs.Ytlljmgphgmklcaa.GsL9Times.P list t_34_to_ t_34_arrive) fun (t_54 : (List Int)) =>
  Option.bind (idx t_54 to_3) fun (yt_56 : Int) =>
  letK (yt_56 == t_8a) fun (t_59 : Bool) =>
  appK jt_60 t_59) (appK jt_60 false)) fun jt_47 => iteK t_41 (letK (decide (minute_2l1 ≤ t_34_leave)) fun (t_46 : Bool) =>
  appK jt_47 t_46) (appK jt_47 false)

def e1 (nx0 : (Int × Int × (List Int)) → Option ((List Int) × Bool)) (s : Int × Int × (List Int)) : Option ((List Int) × Bool) :=
  unp3 s fun from_1l1 minute_2l1 out_10l1 =>
  appK nx0 (from_1l1, minute_2l1, out_10l1)

def l0 (list : (List Go.Proofs.Ytlljmgphgmklcaa.PMail.Mail)) (to_3 : Int) (t_8a : Int) (s : Int × Int × (List Int)) (nx0 bk0 : Int × Int × (List Int) → Option ((List Int) × Bool)) : Option ((List Int) × Bool) :=
  unp3 s fun from_1l0 minute_2l0 out_10l0 =>
  letK (from_1l0 != to_3) fun (t_21 : Bool) =>
  joinK (fun (t_26 : Bool) =>
  iteK t_26
  (cntK (l1 list to_3 t_8a) (list.length) 0 (from_1l0, minute_2l0, out_10l0) (e1 nx0))
  (appK bk0 (from_1l0, minute_2l0, out_10l0))) fun jt_26 => iteK t_21 (appK jt_26 true) (letK (minute_2l0 != t_8a) fun (t_25 : Bool) =>
  appK jt_26 t_25)

def e0  (s : Int × Int × (List Int)) : Option ((List Int) × Bool) :=
  unp3 s fun from_1l0 minute_2l0 out_10l0 =>
  some (out_10l0, true)

def P (fuel : Nat) (list : (List Go.Proofs.Ytlljmgphgmklcaa.PMail.Mail)) (from_1 : Int) (minute : Int) (to_3 : Int) : Option ((List Int) × Bool) :=
  bind2 (Go.Proofs.Ytlljmgphgmklcaa.GsEarliestAt.P list from_1 minute to_3) fun (t_8a : Int) (t_8b : Bool) =>
  letK (!t_8b) fun (t_15 : Bool) =>
  iteK t_15
  (some (([] : List Int), false))
  (loopK (l0 list to_3 t_8a) fuel (from_1, minute, ([] : List Int)) (e0 ))

set_option maxRecDepth 100000 in
set_option maxHeartbeats 2000000 in
theorem C (fuel : Nat) (list : (List Go.Proofs.Ytlljmgphgmklcaa.PMail.Mail)) (from_1 : Int) (minute : Int) (to_3 : Int) (A0 : Option Addr) (c0 : Nat)  (w : World) (M0 : Hid (Cells w 4 A0 list.length (Go.Proofs.Ytlljmgphgmklcaa.PMail.flat list))) (N0 : Hid (list.length ≤ 9223372036854775807))  {r0 : (List Int)} {r1 : Bool} (H : Hid (P fuel list from_1 minute to_3 = some (r0, r1))) :
    Calls Try.prog 147 #[.slice A0 list.length c0, .int .i64 from_1, .int .i64 minute, .int .i64 to_3] w (fun e w' => ∃ A_r0 c_r0, e = .returned (.tuple #[.slice A_r0 r0.length c_r0, .bool r1]) ∧ w'.ownsRow w.heap.size 3 1 (.slice A_r0 r0.length c_r0) r0.length (Go.Proofs.Ytlljmgphgmklcaa.HelpInt.iv r0) ∧ Below w.heap.size w w') := by
  have HB := Lib.hid (Below.refl w.heap.size w)
  unfold P at H
  have N0o := N0.out
  obtain ⟨i0_3, hi_3, hz0_3, hz1_3, hz2_3⟩ := Aid.info_parts (P := Try.prog) (T := 3) (z := .int .i64 0) (s := 1) (b := 8) (by kernel_rfl)
  go_enter Try.func147, Try.ntmps147
  obtain ⟨w_t_2, hw_t_2⟩ : ∃ x, w.alloc (.cells #[] 3) = x := ⟨_, rfl⟩
  have bw_t_2 : Below w.heap.size w w_t_2 := by rw [← hw_t_2]; exact (Below.refl _ _).alloc (Nat.le_refl _) _
  have Ot_2 : Hid (w_t_2.ownsRow w.heap.size 3 1 (.slice (some ⟨w.heap.size, 0, none⟩) 0 0) 0 []) := Lib.hid (by rw [← hw_t_2]; exact own_empty HB.out.size)
  have HBw_t_2 := Lib.hid (Below.step HB.out bw_t_2)
  clear bw_t_2
  replace H := bind2_hid H
  obtain ⟨t_8a, t_8b, qt_8, H⟩ := H
  go_wp2_with fail
  go_at_call 146
  refine (Go.Proofs.Ytlljmgphgmklcaa.GsEarliestAt.C (list) (from_1) (minute) (to_3) A0 c0 _   (Lib.hid (Cells.below M0.out HBw_t_2.out)) N0 qt_8).mono ?_
  rintro e_t_8 wt_8 ⟨rfl, bt_8⟩
  have HBwt_8 := Lib.hid (Below.step HBw_t_2.out bt_8)
  replace Ot_2 := Lib.hid (own_below Ot_2.out bt_8)
  clear bt_8
  cases t_8b with
  | false =>
    replace H := let_hid H
    obtain ⟨t_15, ht_15, H⟩ := H
    obtain rfl : t_15 = true := ht_15.symm
    replace H := ite_t H
    cases ret_hid H
    go_wp2_with fail
    go_ret2
    exact ⟨(some ⟨w.heap.size, 0, none⟩), 0, rfl, Ot_2.out, HBwt_8.out⟩
  | true =>
    replace H := let_hid H
    obtain ⟨t_15, ht_15, H⟩ := H
    obtain rfl : t_15 = false := ht_15.symm
    replace H := ite_f H
    go_wp2_with fail
    go_loopg [1, 2, 10] (fuel) (fun m_ v1_ v2_ v10_ wr => ∃ (from_1l0 : Int) (minute_2l0 : Int) (out_10l0 : (List Int)) (Aout_10l0 : Option Addr) (cout_10l0 : Nat), v1_ = .int .i64 from_1l0 ∧ v2_ = .int .i64 minute_2l0 ∧ v10_ = .slice Aout_10l0 out_10l0.length cout_10l0 ∧ Hid (loopK (l0 list to_3 t_8a) m_ (from_1l0, minute_2l0, out_10l0) (e0 ) = some (r0, r1)) ∧ Hid (Below w.heap.size w wr) ∧ Hid (wr.ownsRow w.heap.size 3 1 (.slice Aout_10l0 out_10l0.length cout_10l0) out_10l0.length (Go.Proofs.Ytlljmgphgmklcaa.HelpInt.iv out_10l0)))
    case atStart => exact ⟨_, _, _, _, _, rfl, rfl, rfl, H, HBwt_8, Ot_2⟩
    case round =>
      obtain ⟨from_1l0, minute_2l0, out_10l0, Aout_10l0, cout_10l0, rfl, rfl, rfl, H, HBwr0, Oout_10l0⟩ := hrel
      rename World => wr0
      cases gk with
      | zero => exact (loop_zero H).elim
      | succ m0 =>
        replace H := loop_succ H
        unfold l0 at H
        replace H := unp3_hid H
        replace H := let_hid H
        obtain ⟨t_21, ht_21, H⟩ := H
        replace H := join_hid H
        cases t_21 with
        | false =>
          replace H := ite_f H
          replace H := let_hid H
          obtain ⟨t_25, ht_25, H⟩ := H
          replace H := app_hid H
          cases t_25 with
          | false =>
            replace H := ite_f H
            replace H := app_hid H
            unfold e0 at H
            replace H := unp3_hid H
            cases ret_hid H
            go_wp2_with fail
            go_ret2
            exact ⟨Aout_10l0, cout_10l0, rfl, Oout_10l0.out, HBwr0.out⟩
          | true =>
            replace H := ite_t H
            go_wp2_with fail
            go_loopg [13, 1, 2, 10] (list.length) (fun m_ v13_ v1_ v2_ v10_ wr => ∃ (k1 : Nat) (from_1l1 : Int) (minute_2l1 : Int) (out_10l1 : (List Int)) (Aout_10l1 : Option Addr) (cout_10l1 : Nat), k1 + m_ = list.length ∧ v13_ = .int .i64 (k1 : Int) ∧ v1_ = .int .i64 from_1l1 ∧ v2_ = .int .i64 minute_2l1 ∧ v10_ = .slice Aout_10l1 out_10l1.length cout_10l1 ∧ Hid (cntK (l1 list to_3 t_8a) m_ k1 (from_1l1, minute_2l1, out_10l1) (e1 (fun s' => loopK (l0 list to_3 t_8a) m0 s' (e0 ))) = some (r0, r1)) ∧ Hid (Below w.heap.size w wr) ∧ Hid (wr.ownsRow w.heap.size 3 1 (.slice Aout_10l1 out_10l1.length cout_10l1) out_10l1.length (Go.Proofs.Ytlljmgphgmklcaa.HelpInt.iv out_10l1)))
            case atStart => exact ⟨0, _, _, _, _, _, by omega, rfl, rfl, rfl, rfl, H, HBwr0, Oout_10l0⟩
            case round =>
              obtain ⟨k1, from_1l1, minute_2l1, out_10l1, Aout_10l1, cout_10l1, hkm1, rfl, rfl, rfl, rfl, H, HBwr1, Oout_10l1⟩ := hrel
              rename World => wr1
              cases gk with
              | zero =>
                obtain rfl : k1 = list.length := by omega
                have hc1 : decide (((list.length : Nat) : Int) < ((list.length : Nat) : Int)) = false := by simp
                replace H := cnt_zero H
                unfold e1 at H
                replace H := unp3_hid H
                replace H := app_hid H
                go_wp2_with fail
                go_roundg m0
                case measure => omega
                case rel => exact ⟨_, _, _, _, _, rfl, rfl, rfl, H, HBwr1, Oout_10l1⟩
              | succ m1 =>
                have hlt1 : k1 < list.length := by omega
                have hc1 : decide ((k1 : Int) < ((list.length : Nat) : Int)) = true := by simp; omega
                replace H := cnt_succ H
                unfold l1 at H
                replace H := unp3_hid H
                replace H := idx_hid H
                obtain ⟨nt_34, yt_34, et_34, lt_34, gt_34, H⟩ := H
                obtain rfl : k1 = nt_34 := by omega
                clear et_34
                obtain ⟨t_34_leave, t_34_from_, t_34_to_, t_34_arrive⟩ := yt_34
                replace H := unMail_hid H
                obtain ⟨ab_t_34, ao_t_34, zt_34, At_34, z_t_34, ct_34_0, ct_34_1, ct_34_2, ct_34_3⟩ := Go.Proofs.Ytlljmgphgmklcaa.OMail.at_ M0.out lt_34
                obtain rfl := Option.some.inj (gt_34.out.symm.trans z_t_34)
                subst At_34
                have ltt_34 := cell_lt ct_34_0
                replace ct_34_0 := cell_below HBwr1.out ct_34_0
                replace ct_34_1 := cell_below HBwr1.out ct_34_1
                replace ct_34_2 := cell_below HBwr1.out ct_34_2
                replace ct_34_3 := cell_below HBwr1.out ct_34_3
                clear z_t_34
                have b0t_34 : (0 : Int) ≤ (k1 : Int) := by omega
                have b1t_34 : (k1 : Int) < ((list.length : Nat) : Int) := by omega
                have b2t_34 : ((k1 : Int)).toNat = k1 := by omega
                obtain ⟨w_x_36, hw_x_36⟩ : ∃ x, wr1.alloc (.cells #[.int .i64 t_34_leave, .int .i64 t_34_from_, .int .i64 t_34_to_, .int .i64 t_34_arrive] 108) = x := ⟨_, rfl⟩
                have bw_x_36 : Below wr1.heap.size wr1 w_x_36 := by rw [← hw_x_36]; exact (Below.refl _ _).alloc (Nat.le_refl _) _
                have Dx_36_out_10l1 := Lib.hid (apart_fresh Oout_10l1.out)
                have HBw_x_36 := Lib.hid (Below.step HBwr1.out bw_x_36)
                have ct_34_0__395 := cell_below bw_x_36 ct_34_0
                have ct_34_1__396 := cell_below bw_x_36 ct_34_1
                have ct_34_2__397 := cell_below bw_x_36 ct_34_2
                have ct_34_3__398 := cell_below bw_x_36 ct_34_3
                replace Oout_10l1 := Lib.hid (own_below Oout_10l1.out bw_x_36)
                clear bw_x_36
                have kx_36_0 : w_x_36.cell? ⟨wr1.heap.size, 0, none⟩ = some (.int .i64 t_34_leave) := by rw [← hw_x_36]; exact box_new _ _ _ 0 _ rfl
                have kx_36_1 : w_x_36.cell? ⟨wr1.heap.size, 1, none⟩ = some (.int .i64 t_34_from_) := by rw [← hw_x_36]; exact box_new _ _ _ 1 _ rfl
                have kx_36_2 : w_x_36.cell? ⟨wr1.heap.size, 2, none⟩ = some (.int .i64 t_34_to_) := by rw [← hw_x_36]; exact box_new _ _ _ 2 _ rfl
                have kx_36_3 : w_x_36.cell? ⟨wr1.heap.size, 3, none⟩ = some (.int .i64 t_34_arrive) := by rw [← hw_x_36]; exact box_new _ _ _ 3 _ rfl
                replace H := let_hid H
                obtain ⟨t_41, ht_41, H⟩ := H
                replace H := join_hid H
                cases t_41 with
                | false =>
                  replace H := ite_f H
                  replace H := app_hid H
                  replace H := join_hid H
                  replace H := ite_f H
                  replace H := app_hid H
                  replace H := ite_f H
                  replace H := app_hid H
                  go_wp2_with fail
                  clear ct_34_0 ct_34_1 ct_34_2 ct_34_3
                  go_roundg m1
                  case measure => omega
                  case rel => exact ⟨k1 + 1, _, _, _, _, _, by omega, by go_num, rfl, rfl, rfl, H, HBw_x_36, Oout_10l1⟩
                | true =>
                  replace H := ite_t H
                  replace H := let_hid H
                  obtain ⟨t_46, ht_46, H⟩ := H
                  replace H := app_hid H
                  replace H := join_hid H
                  cases t_46 with
                  | false =>
                    replace H := ite_f H
                    replace H := app_hid H
                    replace H := ite_f H
                    replace H := app_hid H
                    go_wp2_with fail
                    clear ct_34_0 ct_34_1 ct_34_2 ct_34_3
                    go_roundg m1
                    case measure => omega
                    case rel => exact ⟨k1 + 1, _, _, _, _, _, by omega, by go_num, rfl, rfl, rfl, H, HBw_x_36, Oout_10l1⟩
                  | true =>
                    replace H := ite_t H
                    replace H := bind_hid H
                    obtain ⟨t_54, qt_54, H⟩ := H
                    go_wp2_with fail
                    clear ct_34_0 ct_34_1 ct_34_2 ct_34_3
                    go_at_call 145
                    refine (Go.Proofs.Ytlljmgphgmklcaa.GsL9Times.C (list) (t_34_to_) (t_34_arrive) (some ⟨ab_t_34, ao_t_34, none⟩) c0 _   (Lib.hid (Cells.below M0.out HBw_x_36.out)) N0 qt_54).mono ?_
                    rintro e_t_54 wt_54 ⟨At_54, ct_54, rfl, ot_54, bt_54⟩
                    have Dt_54_out_10l1 := Lib.hid (apart_call ot_54 Oout_10l1.out)
                    have Dt_54_x_36 := Lib.hid (apart_callbox ot_54 kx_36_0)
                    have Ot_54 := Lib.hid (own_lower ot_54 HBw_x_36.out.size)
                    clear ot_54
                    have HBwt_54 := Lib.hid (Below.step HBw_x_36.out bt_54)
                    replace ct_34_0__395 := cell_below bt_54 ct_34_0__395
                    replace ct_34_1__396 := cell_below bt_54 ct_34_1__396
                    replace ct_34_2__397 := cell_below bt_54 ct_34_2__397
                    replace ct_34_3__398 := cell_below bt_54 ct_34_3__398
                    replace kx_36_0 := cell_below bt_54 kx_36_0
                    replace kx_36_1 := cell_below bt_54 kx_36_1
                    replace kx_36_2 := cell_below bt_54 kx_36_2
                    replace kx_36_3 := cell_below bt_54 kx_36_3
                    replace Oout_10l1 := Lib.hid (own_below Oout_10l1.out bt_54)
                    clear bt_54
                    replace H := idx_hid H
                    obtain ⟨nt_56, yt_56, et_56, lt_56, gt_56, H⟩ := H
                    subst et_56
                    obtain ⟨qt_56, Qt_56⟩ := own_some Ot_54.out (by omega)
                    subst Qt_56
                    obtain ⟨ab_t_56, ao_t_56, zt_56, At_56, z_t_56, ct_56_0⟩ := Go.Proofs.Ytlljmgphgmklcaa.HelpInt.Ints.at_ (own_cells Ot_54.out) (k := nt_56) (by omega)
                    obtain rfl := Option.some.inj (gt_56.out.symm.trans z_t_56)
                    simp only [Option.some.injEq, Addr.mk.injEq] at At_56
                    obtain ⟨rfl, rfl, _⟩ := At_56
                    clear z_t_56
                    simp only [Nat.zero_add] at ct_56_0
                    have b0t_56 : (0 : Int) ≤ (nt_56 : Int) := by omega
                    have b1t_56 : (nt_56 : Int) < ((t_54.length : Nat) : Int) := by omega
                    have b2t_56 : ((nt_56 : Int)).toNat = nt_56 := by omega
                    replace H := let_hid H
                    obtain ⟨t_59, ht_59, H⟩ := H
                    replace H := app_hid H
                    cases t_59 with
                    | false =>
                      replace H := ite_f H
                      replace H := app_hid H
                      go_wp2_with fail
                      go_roundg m1
                      case measure => omega
                      case rel => exact ⟨k1 + 1, _, _, _, _, _, by omega, by go_num, rfl, rfl, rfl, H, HBwt_54, Oout_10l1⟩
                    | true =>
                      replace H := ite_t H
                      obtain ⟨w_t_63, hw_t_63⟩ : ∃ x, wt_54.alloc (.cells #[.int .i64 (k1 : Int)] 3) = x := ⟨_, rfl⟩
                      have bw_t_63 : Below wt_54.heap.size wt_54 w_t_63 := by rw [← hw_t_63]; exact (Below.refl _ _).alloc (Nat.le_refl _) _
                      have HBw_t_63 := Lib.hid (Below.step HBwt_54.out bw_t_63)
                      have ct_34_0__399 := cell_below bw_t_63 ct_34_0__395
                      have ct_34_1__400 := cell_below bw_t_63 ct_34_1__396
                      have ct_34_2__401 := cell_below bw_t_63 ct_34_2__397
                      have ct_34_3__402 := cell_below bw_t_63 ct_34_3__398
                      have kx_36_0__403 := cell_below bw_t_63 kx_36_0
                      have kx_36_1__404 := cell_below bw_t_63 kx_36_1
                      have kx_36_2__405 := cell_below bw_t_63 kx_36_2
                      have kx_36_3__406 := cell_below bw_t_63 kx_36_3
                      have ct_56_0__407 := cell_below bw_t_63 ct_56_0
                      replace Oout_10l1 := Lib.hid (own_below Oout_10l1.out bw_t_63)
                      replace Ot_54 := Lib.hid (own_below Ot_54.out bw_t_63)
                      clear bw_t_63
                      replace H := guard_hid H
                      obtain ⟨hlt_64, H⟩ := H
                      replace H := let_hid H
                      obtain ⟨t_64, ht_64, H⟩ := H
                      have hht_64 := Lib.hid ht_64
                      clear ht_64
                      have hst_64 := HBw_t_63.out.size
                      go_wp2_with (at_builtin; refine wpList_append_own_at _ rfl _ _ 48 rfl w.heap.size 3 i0_3 (.int .i64 0) 1 8 Try.underlying48 hi_3 hz0_3 hz1_3 hz2_3 rfl (by decide) _ _ _ rfl Oout_10l1.out ⟨wt_54.heap.size, 0, none⟩ 1 1 [.int .i64 (k1 : Int)] rfl rfl (news_new hw_t_63) (one_cells rfl) (by unfold maxLen; omega) (by omega) hst_64 ?_; intro vt_64 wt_64 ot_64 gt_64 zt_64 yt_64; clear zt_64; obtain ⟨qt_64, ct_64, rfl, pt_64⟩ := own_push hht_64.out (Go.Proofs.Ytlljmgphgmklcaa.HelpInt.iv_snoc _ _) rfl ot_64; have Pt_64 := Lib.hid pt_64; have Yt_64 := Lib.hid yt_64; have Gt_64 := Lib.hid gt_64; clear ot_64 gt_64 pt_64 yt_64; refine stop_in ?_)
                      refine stop_out ?_
                      have HBwt_64 := Lib.hid (HBw_t_63.out.grown Gt_64.out hst_64 (fun q hq => (Oout_10l1.out.lt q hq).1))
                      clear hst_64
                      have Dt_64_x_36 : Hid (Apart (some ⟨qt_64, 0, none⟩) _) := Lib.hid (apart_app (Apart.symm Dx_36_out_10l1.out) (fun a_ ha_ => by cases ha_; exact cell_lt kx_36_0__403) Yt_64.out)
                      have Dt_64_t_54 : Hid (Apart (some ⟨qt_64, 0, none⟩) _) := Lib.hid (apart_app (Apart.symm Dt_54_out_10l1.out) (fun a_ ha_ => (own_lt Ot_54.out a_ ha_).2) Yt_64.out)
                      replace ct_34_0__399 := cell_other ct_34_0__399 Gt_64.out (apart_old Oout_10l1.out ltt_34)
                      replace ct_34_1__400 := cell_other ct_34_1__400 Gt_64.out (apart_old Oout_10l1.out ltt_34)
                      replace ct_34_2__401 := cell_other ct_34_2__401 Gt_64.out (apart_old Oout_10l1.out ltt_34)
                      replace ct_34_3__402 := cell_other ct_34_3__402 Gt_64.out (apart_old Oout_10l1.out ltt_34)
                      replace kx_36_0__403 := cell_other kx_36_0__403 Gt_64.out (Apart.symm Dx_36_out_10l1.out)
                      replace kx_36_1__404 := cell_other kx_36_1__404 Gt_64.out (Apart.symm Dx_36_out_10l1.out)
                      replace kx_36_2__405 := cell_other kx_36_2__405 Gt_64.out (Apart.symm Dx_36_out_10l1.out)
                      replace kx_36_3__406 := cell_other kx_36_3__406 Gt_64.out (Apart.symm Dx_36_out_10l1.out)
                      replace ct_56_0__407 := cell_other ct_56_0__407 Gt_64.out (Apart.symm Dt_54_out_10l1.out)
                      replace Ot_54 := Lib.hid (own_other Ot_54.out Gt_64.out (Apart.symm Dt_54_out_10l1.out))
                      clear ct_34_0__395 ct_34_1__396 ct_34_2__397 ct_34_3__398 kx_36_0 kx_36_1 kx_36_2 kx_36_3 ct_56_0
                      clear Oout_10l1 Yt_64 Gt_64
                      replace H := app_hid H
                      unfold e1 at H
                      replace H := unp3_hid H
                      replace H := app_hid H
                      go_wp2_with fail
                      go_roundg m0
                      case measure => omega
                      case rel => exact ⟨_, _, _, _, _, rfl, rfl, rfl, H, HBwt_64, Pt_64⟩
        | true =>
          replace H := ite_t H
          replace H := app_hid H
          replace H := ite_t H
          go_wp2_with fail
          go_loopg [13, 1, 2, 10] (list.length) (fun m_ v13_ v1_ v2_ v10_ wr => ∃ (k1 : Nat) (from_1l1 : Int) (minute_2l1 : Int) (out_10l1 : (List Int)) (Aout_10l1 : Option Addr) (cout_10l1 : Nat), k1 + m_ = list.length ∧ v13_ = .int .i64 (k1 : Int) ∧ v1_ = .int .i64 from_1l1 ∧ v2_ = .int .i64 minute_2l1 ∧ v10_ = .slice Aout_10l1 out_10l1.length cout_10l1 ∧ Hid (cntK (l1 list to_3 t_8a) m_ k1 (from_1l1, minute_2l1, out_10l1) (e1 (fun s' => loopK (l0 list to_3 t_8a) m0 s' (e0 ))) = some (r0, r1)) ∧ Hid (Below w.heap.size w wr) ∧ Hid (wr.ownsRow w.heap.size 3 1 (.slice Aout_10l1 out_10l1.length cout_10l1) out_10l1.length (Go.Proofs.Ytlljmgphgmklcaa.HelpInt.iv out_10l1)))
          case atStart => exact ⟨0, _, _, _, _, _, by omega, rfl, rfl, rfl, rfl, H, HBwr0, Oout_10l0⟩
          case round =>
            obtain ⟨k1, from_1l1, minute_2l1, out_10l1, Aout_10l1, cout_10l1, hkm1, rfl, rfl, rfl, rfl, H, HBwr1, Oout_10l1⟩ := hrel
            rename World => wr1
            cases gk with
            | zero =>
              obtain rfl : k1 = list.length := by omega
              have hc1 : decide (((list.length : Nat) : Int) < ((list.length : Nat) : Int)) = false := by simp
              replace H := cnt_zero H
              unfold e1 at H
              replace H := unp3_hid H
              replace H := app_hid H
              go_wp2_with fail
              go_roundg m0
              case measure => omega
              case rel => exact ⟨_, _, _, _, _, rfl, rfl, rfl, H, HBwr1, Oout_10l1⟩
            | succ m1 =>
              have hlt1 : k1 < list.length := by omega
              have hc1 : decide ((k1 : Int) < ((list.length : Nat) : Int)) = true := by simp; omega
              replace H := cnt_succ H
              unfold l1 at H
              replace H := unp3_hid H
              replace H := idx_hid H
              obtain ⟨nt_34, yt_34, et_34, lt_34, gt_34, H⟩ := H
              obtain rfl : k1 = nt_34 := by omega
              clear et_34
              obtain ⟨t_34_leave, t_34_from_, t_34_to_, t_34_arrive⟩ := yt_34
              replace H := unMail_hid H
              obtain ⟨ab_t_34, ao_t_34, zt_34, At_34, z_t_34, ct_34_0, ct_34_1, ct_34_2, ct_34_3⟩ := Go.Proofs.Ytlljmgphgmklcaa.OMail.at_ M0.out lt_34
              obtain rfl := Option.some.inj (gt_34.out.symm.trans z_t_34)
              subst At_34
              have ltt_34 := cell_lt ct_34_0
              replace ct_34_0 := cell_below HBwr1.out ct_34_0
              replace ct_34_1 := cell_below HBwr1.out ct_34_1
              replace ct_34_2 := cell_below HBwr1.out ct_34_2
              replace ct_34_3 := cell_below HBwr1.out ct_34_3
              clear z_t_34
              have b0t_34 : (0 : Int) ≤ (k1 : Int) := by omega
              have b1t_34 : (k1 : Int) < ((list.length : Nat) : Int) := by omega
              have b2t_34 : ((k1 : Int)).toNat = k1 := by omega
              obtain ⟨w_x_36, hw_x_36⟩ : ∃ x, wr1.alloc (.cells #[.int .i64 t_34_leave, .int .i64 t_34_from_, .int .i64 t_34_to_, .int .i64 t_34_arrive] 108) = x := ⟨_, rfl⟩
              have bw_x_36 : Below wr1.heap.size wr1 w_x_36 := by rw [← hw_x_36]; exact (Below.refl _ _).alloc (Nat.le_refl _) _
              have Dx_36_out_10l1 := Lib.hid (apart_fresh Oout_10l1.out)
              have HBw_x_36 := Lib.hid (Below.step HBwr1.out bw_x_36)
              have ct_34_0__408 := cell_below bw_x_36 ct_34_0
              have ct_34_1__409 := cell_below bw_x_36 ct_34_1
              have ct_34_2__410 := cell_below bw_x_36 ct_34_2
              have ct_34_3__411 := cell_below bw_x_36 ct_34_3
              replace Oout_10l1 := Lib.hid (own_below Oout_10l1.out bw_x_36)
              clear bw_x_36
              have kx_36_0 : w_x_36.cell? ⟨wr1.heap.size, 0, none⟩ = some (.int .i64 t_34_leave) := by rw [← hw_x_36]; exact box_new _ _ _ 0 _ rfl
              have kx_36_1 : w_x_36.cell? ⟨wr1.heap.size, 1, none⟩ = some (.int .i64 t_34_from_) := by rw [← hw_x_36]; exact box_new _ _ _ 1 _ rfl
              have kx_36_2 : w_x_36.cell? ⟨wr1.heap.size, 2, none⟩ = some (.int .i64 t_34_to_) := by rw [← hw_x_36]; exact box_new _ _ _ 2 _ rfl
              have kx_36_3 : w_x_36.cell? ⟨wr1.heap.size, 3, none⟩ = some (.int .i64 t_34_arrive) := by rw [← hw_x_36]; exact box_new _ _ _ 3 _ rfl
              replace H := let_hid H
              obtain ⟨t_41, ht_41, H⟩ := H
              replace H := join_hid H
              cases t_41 with
              | false =>
                replace H := ite_f H
                replace H := app_hid H
                replace H := join_hid H
                replace H := ite_f H
                replace H := app_hid H
                replace H := ite_f H
                replace H := app_hid H
                go_wp2_with fail
                clear ct_34_0 ct_34_1 ct_34_2 ct_34_3
                go_roundg m1
                case measure => omega
                case rel => exact ⟨k1 + 1, _, _, _, _, _, by omega, by go_num, rfl, rfl, rfl, H, HBw_x_36, Oout_10l1⟩
              | true =>
                replace H := ite_t H
                replace H := let_hid H
                obtain ⟨t_46, ht_46, H⟩ := H
                replace H := app_hid H
                replace H := join_hid H
                cases t_46 with
                | false =>
                  replace H := ite_f H
                  replace H := app_hid H
                  replace H := ite_f H
                  replace H := app_hid H
                  go_wp2_with fail
                  clear ct_34_0 ct_34_1 ct_34_2 ct_34_3
                  go_roundg m1
                  case measure => omega
                  case rel => exact ⟨k1 + 1, _, _, _, _, _, by omega, by go_num, rfl, rfl, rfl, H, HBw_x_36, Oout_10l1⟩
                | true =>
                  replace H := ite_t H
                  replace H := bind_hid H
                  obtain ⟨t_54, qt_54, H⟩ := H
                  go_wp2_with fail
                  clear ct_34_0 ct_34_1 ct_34_2 ct_34_3
                  go_at_call 145
                  refine (Go.Proofs.Ytlljmgphgmklcaa.GsL9Times.C (list) (t_34_to_) (t_34_arrive) (some ⟨ab_t_34, ao_t_34, none⟩) c0 _   (Lib.hid (Cells.below M0.out HBw_x_36.out)) N0 qt_54).mono ?_
                  rintro e_t_54 wt_54 ⟨At_54, ct_54, rfl, ot_54, bt_54⟩
                  have Dt_54_out_10l1 := Lib.hid (apart_call ot_54 Oout_10l1.out)
                  have Dt_54_x_36 := Lib.hid (apart_callbox ot_54 kx_36_0)
                  have Ot_54 := Lib.hid (own_lower ot_54 HBw_x_36.out.size)
                  clear ot_54
                  have HBwt_54 := Lib.hid (Below.step HBw_x_36.out bt_54)
                  replace ct_34_0__408 := cell_below bt_54 ct_34_0__408
                  replace ct_34_1__409 := cell_below bt_54 ct_34_1__409
                  replace ct_34_2__410 := cell_below bt_54 ct_34_2__410
                  replace ct_34_3__411 := cell_below bt_54 ct_34_3__411
                  replace kx_36_0 := cell_below bt_54 kx_36_0
                  replace kx_36_1 := cell_below bt_54 kx_36_1
                  replace kx_36_2 := cell_below bt_54 kx_36_2
                  replace kx_36_3 := cell_below bt_54 kx_36_3
                  replace Oout_10l1 := Lib.hid (own_below Oout_10l1.out bt_54)
                  clear bt_54
                  replace H := idx_hid H
                  obtain ⟨nt_56, yt_56, et_56, lt_56, gt_56, H⟩ := H
                  subst et_56
                  obtain ⟨qt_56, Qt_56⟩ := own_some Ot_54.out (by omega)
                  subst Qt_56
                  obtain ⟨ab_t_56, ao_t_56, zt_56, At_56, z_t_56, ct_56_0⟩ := Go.Proofs.Ytlljmgphgmklcaa.HelpInt.Ints.at_ (own_cells Ot_54.out) (k := nt_56) (by omega)
                  obtain rfl := Option.some.inj (gt_56.out.symm.trans z_t_56)
                  simp only [Option.some.injEq, Addr.mk.injEq] at At_56
                  obtain ⟨rfl, rfl, _⟩ := At_56
                  clear z_t_56
                  simp only [Nat.zero_add] at ct_56_0
                  have b0t_56 : (0 : Int) ≤ (nt_56 : Int) := by omega
                  have b1t_56 : (nt_56 : Int) < ((t_54.length : Nat) : Int) := by omega
                  have b2t_56 : ((nt_56 : Int)).toNat = nt_56 := by omega
                  replace H := let_hid H
                  obtain ⟨t_59, ht_59, H⟩ := H
                  replace H := app_hid H
                  cases t_59 with
                  | false =>
                    replace H := ite_f H
                    replace H := app_hid H
                    go_wp2_with fail
                    go_roundg m1
                    case measure => omega
                    case rel => exact ⟨k1 + 1, _, _, _, _, _, by omega, by go_num, rfl, rfl, rfl, H, HBwt_54, Oout_10l1⟩
                  | true =>
                    replace H := ite_t H
                    obtain ⟨w_t_63, hw_t_63⟩ : ∃ x, wt_54.alloc (.cells #[.int .i64 (k1 : Int)] 3) = x := ⟨_, rfl⟩
                    have bw_t_63 : Below wt_54.heap.size wt_54 w_t_63 := by rw [← hw_t_63]; exact (Below.refl _ _).alloc (Nat.le_refl _) _
                    have HBw_t_63 := Lib.hid (Below.step HBwt_54.out bw_t_63)
                    have ct_34_0__412 := cell_below bw_t_63 ct_34_0__408
                    have ct_34_1__413 := cell_below bw_t_63 ct_34_1__409
                    have ct_34_2__414 := cell_below bw_t_63 ct_34_2__410
                    have ct_34_3__415 := cell_below bw_t_63 ct_34_3__411
                    have kx_36_0__416 := cell_below bw_t_63 kx_36_0
                    have kx_36_1__417 := cell_below bw_t_63 kx_36_1
                    have kx_36_2__418 := cell_below bw_t_63 kx_36_2
                    have kx_36_3__419 := cell_below bw_t_63 kx_36_3
                    have ct_56_0__420 := cell_below bw_t_63 ct_56_0
                    replace Oout_10l1 := Lib.hid (own_below Oout_10l1.out bw_t_63)
                    replace Ot_54 := Lib.hid (own_below Ot_54.out bw_t_63)
                    clear bw_t_63
                    replace H := guard_hid H
                    obtain ⟨hlt_64, H⟩ := H
                    replace H := let_hid H
                    obtain ⟨t_64, ht_64, H⟩ := H
                    have hht_64 := Lib.hid ht_64
                    clear ht_64
                    have hst_64 := HBw_t_63.out.size
                    go_wp2_with (at_builtin; refine wpList_append_own_at _ rfl _ _ 48 rfl w.heap.size 3 i0_3 (.int .i64 0) 1 8 Try.underlying48 hi_3 hz0_3 hz1_3 hz2_3 rfl (by decide) _ _ _ rfl Oout_10l1.out ⟨wt_54.heap.size, 0, none⟩ 1 1 [.int .i64 (k1 : Int)] rfl rfl (news_new hw_t_63) (one_cells rfl) (by unfold maxLen; omega) (by omega) hst_64 ?_; intro vt_64 wt_64 ot_64 gt_64 zt_64 yt_64; clear zt_64; obtain ⟨qt_64, ct_64, rfl, pt_64⟩ := own_push hht_64.out (Go.Proofs.Ytlljmgphgmklcaa.HelpInt.iv_snoc _ _) rfl ot_64; have Pt_64 := Lib.hid pt_64; have Yt_64 := Lib.hid yt_64; have Gt_64 := Lib.hid gt_64; clear ot_64 gt_64 pt_64 yt_64; refine stop_in ?_)
                    refine stop_out ?_
                    have HBwt_64 := Lib.hid (HBw_t_63.out.grown Gt_64.out hst_64 (fun q hq => (Oout_10l1.out.lt q hq).1))
                    clear hst_64
                    have Dt_64_x_36 : Hid (Apart (some ⟨qt_64, 0, none⟩) _) := Lib.hid (apart_app (Apart.symm Dx_36_out_10l1.out) (fun a_ ha_ => by cases ha_; exact cell_lt kx_36_0__416) Yt_64.out)
                    have Dt_64_t_54 : Hid (Apart (some ⟨qt_64, 0, none⟩) _) := Lib.hid (apart_app (Apart.symm Dt_54_out_10l1.out) (fun a_ ha_ => (own_lt Ot_54.out a_ ha_).2) Yt_64.out)
                    replace ct_34_0__412 := cell_other ct_34_0__412 Gt_64.out (apart_old Oout_10l1.out ltt_34)
                    replace ct_34_1__413 := cell_other ct_34_1__413 Gt_64.out (apart_old Oout_10l1.out ltt_34)
                    replace ct_34_2__414 := cell_other ct_34_2__414 Gt_64.out (apart_old Oout_10l1.out ltt_34)
                    replace ct_34_3__415 := cell_other ct_34_3__415 Gt_64.out (apart_old Oout_10l1.out ltt_34)
                    replace kx_36_0__416 := cell_other kx_36_0__416 Gt_64.out (Apart.symm Dx_36_out_10l1.out)
                    replace kx_36_1__417 := cell_other kx_36_1__417 Gt_64.out (Apart.symm Dx_36_out_10l1.out)
                    replace kx_36_2__418 := cell_other kx_36_2__418 Gt_64.out (Apart.symm Dx_36_out_10l1.out)
                    replace kx_36_3__419 := cell_other kx_36_3__419 Gt_64.out (Apart.symm Dx_36_out_10l1.out)
                    replace ct_56_0__420 := cell_other ct_56_0__420 Gt_64.out (Apart.symm Dt_54_out_10l1.out)
                    replace Ot_54 := Lib.hid (own_other Ot_54.out Gt_64.out (Apart.symm Dt_54_out_10l1.out))
                    clear ct_34_0__408 ct_34_1__409 ct_34_2__410 ct_34_3__411 kx_36_0 kx_36_1 kx_36_2 kx_36_3 ct_56_0
                    clear Oout_10l1 Yt_64 Gt_64
                    replace H := app_hid H
                    unfold e1 at H
                    replace H := unp3_hid H
                    replace H := app_hid H
                    go_wp2_with fail
                    go_roundg m0
                    case measure => omega
                    case rel => exact ⟨_, _, _, _, _, rfl, rfl, rfl, H, HBwt_64, Pt_64⟩
end Go.Proofs.Ytlljmgphgmklcaa.GsBestRoute

/- loop.example/g01062/spec.l10Route as a plain function, and the contract of the program's: where the plain one has an answer, the program has it. Conditions: slices read as lists. -/
namespace Go.Proofs.Ytlljmgphgmklcaa.GsL10Route
set_option linter.unusedVariables false
set_option linter.unusedSimpArgs false
open Go.RowKit
open Go.Proofs.Ytlljmgphgmklcaa.Rowed Go.Proofs.Ytlljmgphgmklcaa.Turn Go.Proofs.Ytlljmgphgmklcaa.Aid Go.Proofs.Ytlljmgphgmklcaa.GoP Go.Proofs.Ytlljmgphgmklcaa.GoM

def P (fuel : Nat) (mails : (List Go.Proofs.Ytlljmgphgmklcaa.PMail.Mail)) (x : Go.Proofs.Ytlljmgphgmklcaa.PCover.Cover) : Option ((List Int) × Bool) :=
  unCover x fun (x_id : Int) (x_day : Int) (x_zone : Int) (x_grams : Int) (x_paid : Int) (x_from_ : Int) (x_to_ : Int) (x_leave : Int) (x_arrive : Int) =>
  bind2 (Go.Proofs.Ytlljmgphgmklcaa.GsEarliestAt.P mails x_from_ x_leave x_to_) fun (t_10a : Int) (t_10b : Bool) =>
  letK (!t_10b) fun (t_17 : Bool) =>
  joinK (fun (t_23 : Bool) =>
  iteK t_23
  (some (([] : List Int), false))
  (bind2 (Go.Proofs.Ytlljmgphgmklcaa.GsBestRoute.P fuel mails x_from_ x_leave x_to_) fun (t_34a : (List Int)) (t_34b : Bool) =>
  some (t_34a, t_34b))) fun jt_23 => iteK t_17 (appK jt_23 true) (letK (decide (x_arrive < t_10a)) fun (t_22 : Bool) =>
  appK jt_23 t_22)

set_option maxRecDepth 100000 in
set_option maxHeartbeats 2000000 in
theorem C (fuel : Nat) (mails : (List Go.Proofs.Ytlljmgphgmklcaa.PMail.Mail)) (x : Go.Proofs.Ytlljmgphgmklcaa.PCover.Cover) (A0 : Option Addr) (c0 : Nat)  (w : World) (M0 : Hid (Cells w 4 A0 mails.length (Go.Proofs.Ytlljmgphgmklcaa.PMail.flat mails))) (N0 : Hid (mails.length ≤ 9223372036854775807))  {r0 : (List Int)} {r1 : Bool} (H : Hid (P fuel mails x = some (r0, r1))) :
    Calls Try.prog 103 #[.slice A0 mails.length c0, x.val] w (fun e w' => ∃ A_r0 c_r0, e = .returned (.tuple #[.slice A_r0 r0.length c_r0, .bool r1]) ∧ w'.ownsRow w.heap.size 3 1 (.slice A_r0 r0.length c_r0) r0.length (Go.Proofs.Ytlljmgphgmklcaa.HelpInt.iv r0) ∧ Below w.heap.size w w') := by
  have HB := Lib.hid (Below.refl w.heap.size w)
  unfold P at H
  obtain ⟨x_id, x_day, x_zone, x_grams, x_paid, x_from_, x_to_, x_leave, x_arrive⟩ := x
  replace H := unCover_hid H
  unfold Go.Proofs.Ytlljmgphgmklcaa.PCover.Cover.val
  have N0o := N0.out
  go_enter Try.func103, Try.ntmps103
  obtain ⟨w_x_0, hw_x_0⟩ : ∃ x, w.alloc (.cells #[.int .i64 x_id, .int .i64 x_day, .int .i64 x_zone, .int .i64 x_grams, .int .i64 x_paid, .int .i64 x_from_, .int .i64 x_to_, .int .i64 x_leave, .int .i64 x_arrive] 25) = x := ⟨_, rfl⟩
  have bw_x_0 : Below w.heap.size w w_x_0 := by rw [← hw_x_0]; exact (Below.refl _ _).alloc (Nat.le_refl _) _
  have HBw_x_0 := Lib.hid (Below.step HB.out bw_x_0)
  clear bw_x_0
  have kx_0_0 : w_x_0.cell? ⟨w.heap.size, 0, none⟩ = some (.int .i64 x_id) := by rw [← hw_x_0]; exact box_new _ _ _ 0 _ rfl
  have kx_0_1 : w_x_0.cell? ⟨w.heap.size, 1, none⟩ = some (.int .i64 x_day) := by rw [← hw_x_0]; exact box_new _ _ _ 1 _ rfl
  have kx_0_2 : w_x_0.cell? ⟨w.heap.size, 2, none⟩ = some (.int .i64 x_zone) := by rw [← hw_x_0]; exact box_new _ _ _ 2 _ rfl
  have kx_0_3 : w_x_0.cell? ⟨w.heap.size, 3, none⟩ = some (.int .i64 x_grams) := by rw [← hw_x_0]; exact box_new _ _ _ 3 _ rfl
  have kx_0_4 : w_x_0.cell? ⟨w.heap.size, 4, none⟩ = some (.int .i64 x_paid) := by rw [← hw_x_0]; exact box_new _ _ _ 4 _ rfl
  have kx_0_5 : w_x_0.cell? ⟨w.heap.size, 5, none⟩ = some (.int .i64 x_from_) := by rw [← hw_x_0]; exact box_new _ _ _ 5 _ rfl
  have kx_0_6 : w_x_0.cell? ⟨w.heap.size, 6, none⟩ = some (.int .i64 x_to_) := by rw [← hw_x_0]; exact box_new _ _ _ 6 _ rfl
  have kx_0_7 : w_x_0.cell? ⟨w.heap.size, 7, none⟩ = some (.int .i64 x_leave) := by rw [← hw_x_0]; exact box_new _ _ _ 7 _ rfl
  have kx_0_8 : w_x_0.cell? ⟨w.heap.size, 8, none⟩ = some (.int .i64 x_arrive) := by rw [← hw_x_0]; exact box_new _ _ _ 8 _ rfl
  replace H := bind2_hid H
  obtain ⟨t_10a, t_10b, qt_10, H⟩ := H
  go_wp2_with fail
  go_at_call 146
  refine (Go.Proofs.Ytlljmgphgmklcaa.GsEarliestAt.C (mails) (x_from_) (x_leave) (x_to_) A0 c0 _   (Lib.hid (Cells.below M0.out HBw_x_0.out)) N0 qt_10).mono ?_
  rintro e_t_10 wt_10 ⟨rfl, bt_10⟩
  have HBwt_10 := Lib.hid (Below.step HBw_x_0.out bt_10)
  replace kx_0_0 := cell_below bt_10 kx_0_0
  replace kx_0_1 := cell_below bt_10 kx_0_1
  replace kx_0_2 := cell_below bt_10 kx_0_2
  replace kx_0_3 := cell_below bt_10 kx_0_3
  replace kx_0_4 := cell_below bt_10 kx_0_4
  replace kx_0_5 := cell_below bt_10 kx_0_5
  replace kx_0_6 := cell_below bt_10 kx_0_6
  replace kx_0_7 := cell_below bt_10 kx_0_7
  replace kx_0_8 := cell_below bt_10 kx_0_8
  clear bt_10
  cases t_10b with
  | false =>
    replace H := let_hid H
    obtain ⟨t_17, ht_17, H⟩ := H
    obtain rfl : t_17 = true := ht_17.symm
    replace H := join_hid H
    replace H := ite_t H
    replace H := app_hid H
    replace H := ite_t H
    obtain ⟨w_t_24, hw_t_24⟩ : ∃ x, wt_10.alloc (.cells #[] 3) = x := ⟨_, rfl⟩
    have bw_t_24 : Below wt_10.heap.size wt_10 w_t_24 := by rw [← hw_t_24]; exact (Below.refl _ _).alloc (Nat.le_refl _) _
    have Ot_24 : Hid (w_t_24.ownsRow w.heap.size 3 1 (.slice (some ⟨wt_10.heap.size, 0, none⟩) 0 0) 0 []) := Lib.hid (by rw [← hw_t_24]; exact own_empty HBwt_10.out.size)
    have Dt_24_x_0 := Lib.hid (apart_box kx_0_0)
    have HBw_t_24 := Lib.hid (Below.step HBwt_10.out bw_t_24)
    have kx_0_0__421 := cell_below bw_t_24 kx_0_0
    have kx_0_1__422 := cell_below bw_t_24 kx_0_1
    have kx_0_2__423 := cell_below bw_t_24 kx_0_2
    have kx_0_3__424 := cell_below bw_t_24 kx_0_3
    have kx_0_4__425 := cell_below bw_t_24 kx_0_4
    have kx_0_5__426 := cell_below bw_t_24 kx_0_5
    have kx_0_6__427 := cell_below bw_t_24 kx_0_6
    have kx_0_7__428 := cell_below bw_t_24 kx_0_7
    have kx_0_8__429 := cell_below bw_t_24 kx_0_8
    clear bw_t_24
    cases ret_hid H
    go_wp2_with fail
    go_ret2
    exact ⟨(some ⟨wt_10.heap.size, 0, none⟩), 0, rfl, Ot_24.out, HBw_t_24.out⟩
  | true =>
    replace H := let_hid H
    obtain ⟨t_17, ht_17, H⟩ := H
    obtain rfl : t_17 = false := ht_17.symm
    replace H := join_hid H
    replace H := ite_f H
    replace H := let_hid H
    obtain ⟨t_22, ht_22, H⟩ := H
    replace H := app_hid H
    cases t_22 with
    | false =>
      replace H := ite_f H
      replace H := bind2_hid H
      obtain ⟨t_34a, t_34b, qt_34, H⟩ := H
      go_wp2_with fail
      go_at_call 147
      refine (Go.Proofs.Ytlljmgphgmklcaa.GsBestRoute.C fuel (mails) (x_from_) (x_leave) (x_to_) A0 c0 _   (Lib.hid (Cells.below M0.out HBwt_10.out)) N0 qt_34).mono ?_
      rintro e_t_34 wt_34 ⟨At_34a, ct_34a, rfl, ot_34a, bt_34⟩
      have Dt_34a_x_0 := Lib.hid (apart_callbox ot_34a kx_0_0)
      have Ot_34a := Lib.hid (own_lower ot_34a HBwt_10.out.size)
      clear ot_34a
      have HBwt_34 := Lib.hid (Below.step HBwt_10.out bt_34)
      replace kx_0_0 := cell_below bt_34 kx_0_0
      replace kx_0_1 := cell_below bt_34 kx_0_1
      replace kx_0_2 := cell_below bt_34 kx_0_2
      replace kx_0_3 := cell_below bt_34 kx_0_3
      replace kx_0_4 := cell_below bt_34 kx_0_4
      replace kx_0_5 := cell_below bt_34 kx_0_5
      replace kx_0_6 := cell_below bt_34 kx_0_6
      replace kx_0_7 := cell_below bt_34 kx_0_7
      replace kx_0_8 := cell_below bt_34 kx_0_8
      clear bt_34
      cases ret_hid H
      go_wp2_with fail
      go_ret2
      exact ⟨At_34a, ct_34a, rfl, Ot_34a.out, HBwt_34.out⟩
    | true =>
      replace H := ite_t H
      obtain ⟨w_t_24, hw_t_24⟩ : ∃ x, wt_10.alloc (.cells #[] 3) = x := ⟨_, rfl⟩
      have bw_t_24 : Below wt_10.heap.size wt_10 w_t_24 := by rw [← hw_t_24]; exact (Below.refl _ _).alloc (Nat.le_refl _) _
      have Ot_24 : Hid (w_t_24.ownsRow w.heap.size 3 1 (.slice (some ⟨wt_10.heap.size, 0, none⟩) 0 0) 0 []) := Lib.hid (by rw [← hw_t_24]; exact own_empty HBwt_10.out.size)
      have Dt_24_x_0 := Lib.hid (apart_box kx_0_0)
      have HBw_t_24 := Lib.hid (Below.step HBwt_10.out bw_t_24)
      have kx_0_0__430 := cell_below bw_t_24 kx_0_0
      have kx_0_1__431 := cell_below bw_t_24 kx_0_1
      have kx_0_2__432 := cell_below bw_t_24 kx_0_2
      have kx_0_3__433 := cell_below bw_t_24 kx_0_3
      have kx_0_4__434 := cell_below bw_t_24 kx_0_4
      have kx_0_5__435 := cell_below bw_t_24 kx_0_5
      have kx_0_6__436 := cell_below bw_t_24 kx_0_6
      have kx_0_7__437 := cell_below bw_t_24 kx_0_7
      have kx_0_8__438 := cell_below bw_t_24 kx_0_8
      clear bw_t_24
      cases ret_hid H
      go_wp2_with fail
      go_ret2
      exact ⟨(some ⟨wt_10.heap.size, 0, none⟩), 0, rfl, Ot_24.out, HBw_t_24.out⟩
end Go.Proofs.Ytlljmgphgmklcaa.GsL10Route

/- loop.example/g01062/spec.CoversVia as a plain function, and the contract of the program's: where the plain one has an answer, the program has it. Conditions: slices read as lists. -/
namespace Go.Proofs.Ytlljmgphgmklcaa.GsCoversVia
set_option linter.unusedVariables false
set_option linter.unusedSimpArgs false
open Go.RowKit
open Go.Proofs.Ytlljmgphgmklcaa.Rowed Go.Proofs.Ytlljmgphgmklcaa.Turn Go.Proofs.Ytlljmgphgmklcaa.Aid Go.Proofs.Ytlljmgphgmklcaa.GoP Go.Proofs.Ytlljmgphgmklcaa.GoM

def l1 (mails : (List Go.Proofs.Ytlljmgphgmklcaa.PMail.Mail)) (office : Int) (t_30a : (List Int)) (k1 : Nat) (s : Bool) (nx1 bk1 : Bool → Option ((List Int) × Bool)) : Option ((List Int) × Bool) :=
  letK s fun via_12l1 =>
  joinK (fun (t_54 : Bool) =>
  appK nx1 (t_54)) fun jt_54 => iteK via_12l1 (appK jt_54 true) (Option.bind (idx t_30a (k1 : Int)) fun (yt_47 : Int) =>
  Option.bind (idx mails yt_47) fun (yt_49 : Go.Proofs.Ytlljmgphgmklcaa.PMail.Mail) =>
  unMail yt_49 fun (t_49_leave : Int) (t_49_from_ : Int) (t_49_to_ : Int) (t_49_arrive : Int) =>
  letK (t_49_to_ == office) fun (t_53 : Bool) =>
  appK jt_54 t_53)

def e1 (list : (List Go.Proofs.Ytlljmgphgmklcaa.PCover.Cover)) (nx0 : ((List Int)) → Option ((List Int) × Bool)) (out_8l0 : (List Int)) (k0 : Nat) (s : Bool) : Option ((List Int) × Bool) :=
  letK s fun via_12l1 =>
  iteK via_12l1
  (Option.bind (idx list (k0 : Int)) fun (yt_63 : Go.Proofs.Ytlljmgphgmklcaa.PCover.Cover) =>
  unCover yt_63 fun (t_63_id : Int) (t_63_day : Int) (t_63_zone : Int) (t_63_grams : Int) (t_63_paid : Int) (t_63_from_ : Int) (t_63_to_ : Int) (t_63_leave : Int) (t_63_arrive : Int) =>
  guardK (out_8l0.length ≤ 1099511627776) <|
  letK (out_8l0 ++ [t_63_id]) fun (t_67 : (List Int)) =>
  appK nx0 (t_67))
  (appK nx0 (out_8l0))

def l0 (mails : (List Go.Proofs.Ytlljmgphgmklcaa.PMail.Mail)) (list : (List Go.Proofs.Ytlljmgphgmklcaa.PCover.Cover)) (office : Int) (fuel : Nat) (k0 : Nat) (s : (List Int)) (nx0 bk0 : (List Int) → Option ((List Int) × Bool)) : Option ((List Int) × Bool) :=
  letK s fun out_8l0 =>
  Option.bind (idx list (k0 : Int)) fun (yt_28 : Go.Proofs.Ytlljmgphgmklcaa.PCover.Cover) =>
  unCover yt_28 fun (t_28_id : Int) (t_28_day : Int) (t_28_zone : Int) (t_28_grams : Int) (t_28_paid : Int) (t_28_from_ : Int) (t_28_to_ : Int) (t_28_leave : Int) (t_28_arrive : Int) =>
  bind2 (Go.Proofs.Ytlljmgphgmklcaa.GsL10Route.P fuel mails (Go.Proofs.Ytlljmgphgmklcaa.PCover.Cover.mk t_28_id t_28_day t_28_zone t_28_grams t_28_paid t_28_from_ t_28_to_ t_28_leave t_28_arrive)) fun (t_30a : (List Int)) (t_30b : Bool) =>
  cntK (l1 mails office t_30a) (t_30a.length) 0 (false) (e1 list nx0 out_8l0 k0)

def e0  (s : (List Int)) : Option ((List Int) × Bool) :=
  letK s fun out_8l0 =>
  some (out_8l0, true)

def P (fuel : Nat) (mails : (List Go.Proofs.Ytlljmgphgmklcaa.PMail.Mail)) (list : (List Go.Proofs.Ytlljmgphgmklcaa.PCover.Cover)) (office : Int) : Option ((List Int) × Bool) :=
  Option.bind (Go.Proofs.Ytlljmgphgmklcaa.GsL9Good.P mails) fun (t_5 : Bool) =>
  letK (!t_5) fun (t_6 : Bool) =>
  joinK (fun (t_11 : Bool) =>
  joinK (fun (t_16 : Bool) =>
  iteK t_16
  (some (([] : List Int), false))
  (cntK (l0 mails list office fuel) (list.length) 0 (([] : List Int)) (e0 ))) fun jt_16 => iteK t_11 (appK jt_16 true) (Option.bind (Go.Proofs.Ytlljmgphgmklcaa.GsL9Office.P office) fun (t_14 : Bool) =>
  letK (!t_14) fun (t_15 : Bool) =>
  appK jt_16 t_15)) fun jt_11 => iteK t_6 (appK jt_11 true) (Option.bind (Go.Proofs.Ytlljmgphgmklcaa.GsL10Good.P list) fun (t_9 : Bool) =>
  letK (!t_9) fun (t_10 : Bool) =>
  appK jt_11 t_10)

set_option maxRecDepth 100000 in
set_option maxHeartbeats 2000000 in
theorem C (fuel : Nat) (mails : (List Go.Proofs.Ytlljmgphgmklcaa.PMail.Mail)) (list : (List Go.Proofs.Ytlljmgphgmklcaa.PCover.Cover)) (office : Int) (A0 : Option Addr) (c0 : Nat) (A1 : Option Addr) (c1 : Nat)  (w : World) (M0 : Hid (Cells w 4 A0 mails.length (Go.Proofs.Ytlljmgphgmklcaa.PMail.flat mails))) (N0 : Hid (mails.length ≤ 9223372036854775807)) (M1 : Hid (Cells w 9 A1 list.length (Go.Proofs.Ytlljmgphgmklcaa.PCover.flat list))) (N1 : Hid (list.length ≤ 9223372036854775807))  {r0 : (List Int)} {r1 : Bool} (H : Hid (P fuel mails list office = some (r0, r1))) :
    Calls Try.prog 49 #[.slice A0 mails.length c0, .slice A1 list.length c1, .int .i64 office] w (fun e w' => ∃ A_r0 c_r0, e = .returned (.tuple #[.slice A_r0 r0.length c_r0, .bool r1]) ∧ w'.ownsRow w.heap.size 3 1 (.slice A_r0 r0.length c_r0) r0.length (Go.Proofs.Ytlljmgphgmklcaa.HelpInt.iv r0) ∧ Below w.heap.size w w') := by
  have HB := Lib.hid (Below.refl w.heap.size w)
  unfold P at H
  have N0o := N0.out
  have N1o := N1.out
  obtain ⟨i0_3, hi_3, hz0_3, hz1_3, hz2_3⟩ := Aid.info_parts (P := Try.prog) (T := 3) (z := .int .i64 0) (s := 1) (b := 8) (by kernel_rfl)
  go_enter Try.func49, Try.ntmps49
  obtain ⟨w_t_2, hw_t_2⟩ : ∃ x, w.alloc (.cells #[] 3) = x := ⟨_, rfl⟩
  have bw_t_2 : Below w.heap.size w w_t_2 := by rw [← hw_t_2]; exact (Below.refl _ _).alloc (Nat.le_refl _) _
  have Ot_2 : Hid (w_t_2.ownsRow w.heap.size 3 1 (.slice (some ⟨w.heap.size, 0, none⟩) 0 0) 0 []) := Lib.hid (by rw [← hw_t_2]; exact own_empty HB.out.size)
  have HBw_t_2 := Lib.hid (Below.step HB.out bw_t_2)
  clear bw_t_2
  replace H := bind_hid H
  obtain ⟨t_5, qt_5, H⟩ := H
  go_wp2_with fail
  go_at_call 90
  refine (Go.Proofs.Ytlljmgphgmklcaa.GsL9Good.C (mails) A0 c0 _   (Lib.hid (Cells.below M0.out HBw_t_2.out)) N0 qt_5).mono ?_
  rintro e_t_5 wt_5 ⟨rfl, bt_5⟩
  have HBwt_5 := Lib.hid (Below.step HBw_t_2.out bt_5)
  replace Ot_2 := Lib.hid (own_below Ot_2.out bt_5)
  clear bt_5
  cases t_5 with
  | false =>
    replace H := let_hid H
    obtain ⟨t_6, ht_6, H⟩ := H
    obtain rfl : t_6 = true := ht_6.symm
    replace H := join_hid H
    replace H := ite_t H
    replace H := app_hid H
    replace H := join_hid H
    replace H := ite_t H
    replace H := app_hid H
    replace H := ite_t H
    cases ret_hid H
    go_wp2_with fail
    go_ret2
    exact ⟨(some ⟨w.heap.size, 0, none⟩), 0, rfl, Ot_2.out, HBwt_5.out⟩
  | true =>
    replace H := let_hid H
    obtain ⟨t_6, ht_6, H⟩ := H
    obtain rfl : t_6 = false := ht_6.symm
    replace H := join_hid H
    replace H := ite_f H
    replace H := bind_hid H
    obtain ⟨t_9, qt_9, H⟩ := H
    go_wp2_with fail
    go_at_call 85
    refine (Go.Proofs.Ytlljmgphgmklcaa.GsL10Good.C (list) A1 c1 _   (Lib.hid (Cells.below M1.out HBwt_5.out)) N1 qt_9).mono ?_
    rintro e_t_9 wt_9 ⟨rfl, bt_9⟩
    have HBwt_9 := Lib.hid (Below.step HBwt_5.out bt_9)
    replace Ot_2 := Lib.hid (own_below Ot_2.out bt_9)
    clear bt_9
    cases t_9 with
    | false =>
      replace H := let_hid H
      obtain ⟨t_10, ht_10, H⟩ := H
      obtain rfl : t_10 = true := ht_10.symm
      replace H := app_hid H
      replace H := join_hid H
      replace H := ite_t H
      replace H := app_hid H
      replace H := ite_t H
      cases ret_hid H
      go_wp2_with fail
      go_ret2
      exact ⟨(some ⟨w.heap.size, 0, none⟩), 0, rfl, Ot_2.out, HBwt_9.out⟩
    | true =>
      replace H := let_hid H
      obtain ⟨t_10, ht_10, H⟩ := H
      obtain rfl : t_10 = false := ht_10.symm
      replace H := app_hid H
      replace H := join_hid H
      replace H := ite_f H
      replace H := bind_hid H
      obtain ⟨t_14, qt_14, H⟩ := H
      go_wp2_with fail
      go_at_call 109
      refine (Go.Proofs.Ytlljmgphgmklcaa.GsL9Office.C (office)  _    qt_14).mono ?_
      rintro e_t_14 wt_14 ⟨rfl, bt_14⟩
      have HBwt_14 := Lib.hid (Below.step HBwt_9.out bt_14)
      replace Ot_2 := Lib.hid (own_below Ot_2.out bt_14)
      clear bt_14
      cases t_14 with
      | false =>
        replace H := let_hid H
        obtain ⟨t_15, ht_15, H⟩ := H
        obtain rfl : t_15 = true := ht_15.symm
        replace H := app_hid H
        replace H := ite_t H
        cases ret_hid H
        go_wp2_with fail
        go_ret2
        exact ⟨(some ⟨w.heap.size, 0, none⟩), 0, rfl, Ot_2.out, HBwt_14.out⟩
      | true =>
        replace H := let_hid H
        obtain ⟨t_15, ht_15, H⟩ := H
        obtain rfl : t_15 = false := ht_15.symm
        replace H := app_hid H
        replace H := ite_f H
        go_wp2_with fail
        go_loopg [9, 8] (list.length) (fun m_ v9_ v8_ wr => ∃ (k0 : Nat) (out_8l0 : (List Int)) (Aout_8l0 : Option Addr) (cout_8l0 : Nat), k0 + m_ = list.length ∧ v9_ = .int .i64 (k0 : Int) ∧ v8_ = .slice Aout_8l0 out_8l0.length cout_8l0 ∧ Hid (cntK (l0 mails list office fuel) m_ k0 (out_8l0) (e0 ) = some (r0, r1)) ∧ Hid (Below w.heap.size w wr) ∧ Hid (wr.ownsRow w.heap.size 3 1 (.slice Aout_8l0 out_8l0.length cout_8l0) out_8l0.length (Go.Proofs.Ytlljmgphgmklcaa.HelpInt.iv out_8l0)))
        case atStart => exact ⟨0, _, _, _, by omega, rfl, rfl, H, HBwt_14, Ot_2⟩
        case round =>
          obtain ⟨k0, out_8l0, Aout_8l0, cout_8l0, hkm0, rfl, rfl, H, HBwr0, Oout_8l0⟩ := hrel
          rename World => wr0
          cases gk with
          | zero =>
            obtain rfl : k0 = list.length := by omega
            have hc0 : decide (((list.length : Nat) : Int) < ((list.length : Nat) : Int)) = false := by simp
            replace H := cnt_zero H
            unfold e0 at H
            replace H := let_hid H
            obtain ⟨_, rfl, H⟩ := H
            cases ret_hid H
            go_wp2_with fail
            go_ret2
            exact ⟨Aout_8l0, cout_8l0, rfl, Oout_8l0.out, HBwr0.out⟩
          | succ m0 =>
            have hlt0 : k0 < list.length := by omega
            have hc0 : decide ((k0 : Int) < ((list.length : Nat) : Int)) = true := by simp; omega
            replace H := cnt_succ H
            unfold l0 at H
            replace H := let_hid H
            obtain ⟨_, rfl, H⟩ := H
            replace H := idx_hid H
            obtain ⟨nt_28, yt_28, et_28, lt_28, gt_28, H⟩ := H
            obtain rfl : k0 = nt_28 := by omega
            clear et_28
            obtain ⟨t_28_id, t_28_day, t_28_zone, t_28_grams, t_28_paid, t_28_from_, t_28_to_, t_28_leave, t_28_arrive⟩ := yt_28
            replace H := unCover_hid H
            obtain ⟨ab_t_28, ao_t_28, zt_28, At_28, z_t_28, ct_28_0, ct_28_1, ct_28_2, ct_28_3, ct_28_4, ct_28_5, ct_28_6, ct_28_7, ct_28_8⟩ := Go.Proofs.Ytlljmgphgmklcaa.OCover.at_ M1.out lt_28
            obtain rfl := Option.some.inj (gt_28.out.symm.trans z_t_28)
            subst At_28
            have ltt_28 := cell_lt ct_28_0
            replace ct_28_0 := cell_below HBwr0.out ct_28_0
            replace ct_28_1 := cell_below HBwr0.out ct_28_1
            replace ct_28_2 := cell_below HBwr0.out ct_28_2
            replace ct_28_3 := cell_below HBwr0.out ct_28_3
            replace ct_28_4 := cell_below HBwr0.out ct_28_4
            replace ct_28_5 := cell_below HBwr0.out ct_28_5
            replace ct_28_6 := cell_below HBwr0.out ct_28_6
            replace ct_28_7 := cell_below HBwr0.out ct_28_7
            replace ct_28_8 := cell_below HBwr0.out ct_28_8
            clear z_t_28
            have b0t_28 : (0 : Int) ≤ (k0 : Int) := by omega
            have b1t_28 : (k0 : Int) < ((list.length : Nat) : Int) := by omega
            have b2t_28 : ((k0 : Int)).toNat = k0 := by omega
            replace H := bind2_hid H
            obtain ⟨t_30a, t_30b, qt_30, H⟩ := H
            go_wp2_with fail
            go_at_call 103
            refine (Go.Proofs.Ytlljmgphgmklcaa.GsL10Route.C fuel (mails) ((Go.Proofs.Ytlljmgphgmklcaa.PCover.Cover.mk t_28_id t_28_day t_28_zone t_28_grams t_28_paid t_28_from_ t_28_to_ t_28_leave t_28_arrive)) A0 c0 _   (Lib.hid (Cells.below M0.out HBwr0.out)) N0 qt_30).mono ?_
            rintro e_t_30 wt_30 ⟨At_30a, ct_30a, rfl, ot_30a, bt_30⟩
            have Dt_30a_out_8l0 := Lib.hid (apart_call ot_30a Oout_8l0.out)
            have Ot_30a := Lib.hid (own_lower ot_30a HBwr0.out.size)
            clear ot_30a
            have HBwt_30 := Lib.hid (Below.step HBwr0.out bt_30)
            replace ct_28_0 := cell_below bt_30 ct_28_0
            replace ct_28_1 := cell_below bt_30 ct_28_1
            replace ct_28_2 := cell_below bt_30 ct_28_2
            replace ct_28_3 := cell_below bt_30 ct_28_3
            replace ct_28_4 := cell_below bt_30 ct_28_4
            replace ct_28_5 := cell_below bt_30 ct_28_5
            replace ct_28_6 := cell_below bt_30 ct_28_6
            replace ct_28_7 := cell_below bt_30 ct_28_7
            replace ct_28_8 := cell_below bt_30 ct_28_8
            replace Oout_8l0 := Lib.hid (own_below Oout_8l0.out bt_30)
            clear bt_30
            have hb_1 : t_30a.length ≤ 9223372036854775807 := own_max Ot_30a.out
            go_wp2_with fail
            go_loopg [13, 12] (t_30a.length) (fun m_ v13_ v12_ wr => ∃ (k1 : Nat) (via_12l1 : Bool), k1 + m_ = t_30a.length ∧ v13_ = .int .i64 (k1 : Int) ∧ v12_ = .bool via_12l1 ∧ Hid (cntK (l1 mails office t_30a) m_ k1 (via_12l1) (e1 list (fun s' => cntK (l0 mails list office fuel) m0 (k0 + 1) s' (e0 )) out_8l0 k0) = some (r0, r1)) ∧ Hid (Below w.heap.size w wr) ∧ Hid (wr.ownsRow w.heap.size 3 1 (.slice Aout_8l0 out_8l0.length cout_8l0) out_8l0.length (Go.Proofs.Ytlljmgphgmklcaa.HelpInt.iv out_8l0)) ∧ Hid (wr.ownsRow w.heap.size 3 1 (.slice At_30a t_30a.length ct_30a) t_30a.length (Go.Proofs.Ytlljmgphgmklcaa.HelpInt.iv t_30a)))
            case atStart => exact ⟨0, _, by omega, rfl, rfl, H, HBwt_30, Oout_8l0, Ot_30a⟩
            case round =>
              obtain ⟨k1, via_12l1, hkm1, rfl, rfl, H, HBwr1, Oout_8l0, Ot_30a⟩ := hrel
              rename World => wr1
              cases gk with
              | zero =>
                obtain rfl : k1 = t_30a.length := by omega
                have hc1 : decide (((t_30a.length : Nat) : Int) < ((t_30a.length : Nat) : Int)) = false := by simp
                replace H := cnt_zero H
                unfold e1 at H
                replace H := let_hid H
                obtain ⟨_, rfl, H⟩ := H
                cases via_12l1 with
                | false =>
                  replace H := ite_f H
                  replace H := app_hid H
                  go_wp2_with fail
                  go_roundg m0
                  case measure => omega
                  case rel => exact ⟨k0 + 1, _, _, _, by omega, by go_num, rfl, H, HBwr1, Oout_8l0⟩
                | true =>
                  replace H := ite_t H
                  replace H := idx_hid H
                  obtain ⟨nt_63, yt_63, et_63, lt_63, gt_63, H⟩ := H
                  obtain rfl : k0 = nt_63 := by omega
                  clear et_63
                  obtain ⟨t_63_id, t_63_day, t_63_zone, t_63_grams, t_63_paid, t_63_from_, t_63_to_, t_63_leave, t_63_arrive⟩ := yt_63
                  replace H := unCover_hid H
                  obtain ⟨ab_t_63, ao_t_63, zt_63, At_63, z_t_63, ct_63_0, ct_63_1, ct_63_2, ct_63_3, ct_63_4, ct_63_5, ct_63_6, ct_63_7, ct_63_8⟩ := Go.Proofs.Ytlljmgphgmklcaa.OCover.at_ M1.out lt_63
                  obtain rfl := Option.some.inj (gt_63.out.symm.trans z_t_63)
                  simp only [Option.some.injEq, Addr.mk.injEq] at At_63
                  obtain ⟨rfl, rfl, _⟩ := At_63
                  have ltt_63 := cell_lt ct_63_0
                  replace ct_63_0 := cell_below HBwr1.out ct_63_0
                  replace ct_63_1 := cell_below HBwr1.out ct_63_1
                  replace ct_63_2 := cell_below HBwr1.out ct_63_2
                  replace ct_63_3 := cell_below HBwr1.out ct_63_3
                  replace ct_63_4 := cell_below HBwr1.out ct_63_4
                  replace ct_63_5 := cell_below HBwr1.out ct_63_5
                  replace ct_63_6 := cell_below HBwr1.out ct_63_6
                  replace ct_63_7 := cell_below HBwr1.out ct_63_7
                  replace ct_63_8 := cell_below HBwr1.out ct_63_8
                  clear z_t_63
                  have b0t_63 : (0 : Int) ≤ (k0 : Int) := by omega
                  have b1t_63 : (k0 : Int) < ((list.length : Nat) : Int) := by omega
                  have b2t_63 : ((k0 : Int)).toNat = k0 := by omega
                  obtain ⟨w_t_66, hw_t_66⟩ : ∃ x, wr1.alloc (.cells #[.int .i64 t_63_id] 3) = x := ⟨_, rfl⟩
                  have bw_t_66 : Below wr1.heap.size wr1 w_t_66 := by rw [← hw_t_66]; exact (Below.refl _ _).alloc (Nat.le_refl _) _
                  have HBw_t_66 := Lib.hid (Below.step HBwr1.out bw_t_66)
                  have ct_63_0__439 := cell_below bw_t_66 ct_63_0
                  have ct_63_1__440 := cell_below bw_t_66 ct_63_1
                  have ct_63_2__441 := cell_below bw_t_66 ct_63_2
                  have ct_63_3__442 := cell_below bw_t_66 ct_63_3
                  have ct_63_4__443 := cell_below bw_t_66 ct_63_4
                  have ct_63_5__444 := cell_below bw_t_66 ct_63_5
                  have ct_63_6__445 := cell_below bw_t_66 ct_63_6
                  have ct_63_7__446 := cell_below bw_t_66 ct_63_7
                  have ct_63_8__447 := cell_below bw_t_66 ct_63_8
                  replace Oout_8l0 := Lib.hid (own_below Oout_8l0.out bw_t_66)
                  replace Ot_30a := Lib.hid (own_below Ot_30a.out bw_t_66)
                  clear bw_t_66
                  replace H := guard_hid H
                  obtain ⟨hlt_67, H⟩ := H
                  replace H := let_hid H
                  obtain ⟨t_67, ht_67, H⟩ := H
                  have hht_67 := Lib.hid ht_67
                  clear ht_67
                  have hst_67 := HBw_t_66.out.size
                  go_wp2_with (at_builtin; refine wpList_append_own_at _ rfl _ _ 48 rfl w.heap.size 3 i0_3 (.int .i64 0) 1 8 Try.underlying48 hi_3 hz0_3 hz1_3 hz2_3 rfl (by decide) _ _ _ rfl Oout_8l0.out ⟨wr1.heap.size, 0, none⟩ 1 1 [.int .i64 t_63_id] rfl rfl (news_new hw_t_66) (one_cells rfl) (by unfold maxLen; omega) (by omega) hst_67 ?_; intro vt_67 wt_67 ot_67 gt_67 zt_67 yt_67; clear zt_67; obtain ⟨qt_67, ct_67, rfl, pt_67⟩ := own_push hht_67.out (Go.Proofs.Ytlljmgphgmklcaa.HelpInt.iv_snoc _ _) rfl ot_67; have Pt_67 := Lib.hid pt_67; have Yt_67 := Lib.hid yt_67; have Gt_67 := Lib.hid gt_67; clear ot_67 gt_67 pt_67 yt_67; refine stop_in ?_)
                  refine stop_out ?_
                  have HBwt_67 := Lib.hid (HBw_t_66.out.grown Gt_67.out hst_67 (fun q hq => (Oout_8l0.out.lt q hq).1))
                  clear hst_67
                  have Dt_67_t_30a : Hid (Apart (some ⟨qt_67, 0, none⟩) _) := Lib.hid (apart_app (Apart.symm Dt_30a_out_8l0.out) (fun a_ ha_ => (own_lt Ot_30a.out a_ ha_).2) Yt_67.out)
                  replace ct_63_0__439 := cell_other ct_63_0__439 Gt_67.out (apart_old Oout_8l0.out ltt_63)
                  replace ct_63_1__440 := cell_other ct_63_1__440 Gt_67.out (apart_old Oout_8l0.out ltt_63)
                  replace ct_63_2__441 := cell_other ct_63_2__441 Gt_67.out (apart_old Oout_8l0.out ltt_63)
                  replace ct_63_3__442 := cell_other ct_63_3__442 Gt_67.out (apart_old Oout_8l0.out ltt_63)
                  replace ct_63_4__443 := cell_other ct_63_4__443 Gt_67.out (apart_old Oout_8l0.out ltt_63)
                  replace ct_63_5__444 := cell_other ct_63_5__444 Gt_67.out (apart_old Oout_8l0.out ltt_63)
                  replace ct_63_6__445 := cell_other ct_63_6__445 Gt_67.out (apart_old Oout_8l0.out ltt_63)
                  replace ct_63_7__446 := cell_other ct_63_7__446 Gt_67.out (apart_old Oout_8l0.out ltt_63)
                  replace ct_63_8__447 := cell_other ct_63_8__447 Gt_67.out (apart_old Oout_8l0.out ltt_63)
                  replace Ot_30a := Lib.hid (own_other Ot_30a.out Gt_67.out (Apart.symm Dt_30a_out_8l0.out))
                  clear ct_63_0 ct_63_1 ct_63_2 ct_63_3 ct_63_4 ct_63_5 ct_63_6 ct_63_7 ct_63_8
                  clear Oout_8l0 Yt_67 Gt_67
                  replace H := app_hid H
                  go_wp2_with fail
                  go_roundg m0
                  case measure => omega
                  case rel => exact ⟨k0 + 1, _, _, _, by omega, by go_num, rfl, H, HBwt_67, Pt_67⟩
              | succ m1 =>
                have hlt1 : k1 < t_30a.length := by omega
                have hc1 : decide ((k1 : Int) < ((t_30a.length : Nat) : Int)) = true := by simp; omega
                replace H := cnt_succ H
                unfold l1 at H
                replace H := let_hid H
                obtain ⟨_, rfl, H⟩ := H
                replace H := join_hid H
                cases via_12l1 with
                | false =>
                  replace H := ite_f H
                  replace H := idx_hid H
                  obtain ⟨nt_47, yt_47, et_47, lt_47, gt_47, H⟩ := H
                  obtain rfl : k1 = nt_47 := by omega
                  clear et_47
                  obtain ⟨qt_47, Qt_47⟩ := own_some Ot_30a.out (by omega)
                  subst Qt_47
                  obtain ⟨ab_t_47, ao_t_47, zt_47, At_47, z_t_47, ct_47_0⟩ := Go.Proofs.Ytlljmgphgmklcaa.HelpInt.Ints.at_ (own_cells Ot_30a.out) (k := k1) (by omega)
                  obtain rfl := Option.some.inj (gt_47.out.symm.trans z_t_47)
                  simp only [Option.some.injEq, Addr.mk.injEq] at At_47
                  obtain ⟨rfl, rfl, _⟩ := At_47
                  clear z_t_47
                  simp only [Nat.zero_add] at ct_47_0
                  have b0t_47 : (0 : Int) ≤ (k1 : Int) := by omega
                  have b1t_47 : (k1 : Int) < ((t_30a.length : Nat) : Int) := by omega
                  have b2t_47 : ((k1 : Int)).toNat = k1 := by omega
                  replace H := idx_hid H
                  obtain ⟨nt_49, yt_49, et_49, lt_49, gt_49, H⟩ := H
                  subst et_49
                  obtain ⟨t_49_leave, t_49_from_, t_49_to_, t_49_arrive⟩ := yt_49
                  replace H := unMail_hid H
                  obtain ⟨ab_t_49, ao_t_49, zt_49, At_49, z_t_49, ct_49_0, ct_49_1, ct_49_2, ct_49_3⟩ := Go.Proofs.Ytlljmgphgmklcaa.OMail.at_ M0.out lt_49
                  obtain rfl := Option.some.inj (gt_49.out.symm.trans z_t_49)
                  subst At_49
                  have ltt_49 := cell_lt ct_49_0
                  replace ct_49_0 := cell_below HBwr1.out ct_49_0
                  replace ct_49_1 := cell_below HBwr1.out ct_49_1
                  replace ct_49_2 := cell_below HBwr1.out ct_49_2
                  replace ct_49_3 := cell_below HBwr1.out ct_49_3
                  clear z_t_49
                  have b0t_49 : (0 : Int) ≤ (nt_49 : Int) := by omega
                  have b1t_49 : (nt_49 : Int) < ((mails.length : Nat) : Int) := by omega
                  have b2t_49 : ((nt_49 : Int)).toNat = nt_49 := by omega
                  replace H := let_hid H
                  obtain ⟨t_53, ht_53, H⟩ := H
                  replace H := app_hid H
                  replace H := app_hid H
                  go_wp2_with fail
                  go_roundg m1
                  case measure => omega
                  case rel => exact ⟨k1 + 1, _, by omega, by go_num, rfl, H, HBwr1, Oout_8l0, Ot_30a⟩
                | true =>
                  replace H := ite_t H
                  replace H := app_hid H
                  replace H := app_hid H
                  go_wp2_with fail
                  go_roundg m1
                  case measure => omega
                  case rel => exact ⟨k1 + 1, _, by omega, by go_num, rfl, H, HBwr1, Oout_8l0, Ot_30a⟩
end Go.Proofs.Ytlljmgphgmklcaa.GsCoversVia

/- What is held of the worlds of a region that draws its order may grow on the way. No condition. -/
namespace Go.Proofs.Ytlljmgphgmklcaa.GoR
set_option linter.unusedVariables false
theorem wpAnyH_more {P : Program} {ops : Array Oper} {Q : Exit → Act → World → Prop} {md : Region.Mode} {S S' : World → Prop} (h : ∀ w, S' w → S w) : ∀ (fuel : Nat) (listed : Array Bool) (a : Act) (w : World), wpAnyH P md ops Q S' fuel listed a w → wpAnyH P md ops Q S fuel listed a w
  | 0, _, _, _, H => H
  | fuel + 1, _, _, _, H => ⟨H.1, fun i hi => wpOp_mono (fun a' w' h' => ⟨h _ h'.1, wpAnyH_more h fuel _ a' w' h'.2⟩) (H.2 i hi)⟩
end Go.Proofs.Ytlljmgphgmklcaa.GoR

/- loop.example/g01062/impl.within as a plain function, and the contract of the program's: where the plain one has an answer, the program has it. Conditions: slices read as lists. -/
namespace Go.Proofs.Ytlljmgphgmklcaa.GiWithin
set_option linter.unusedVariables false
set_option linter.unusedSimpArgs false
open Go.RowKit
open Go.Proofs.Ytlljmgphgmklcaa.Rowed Go.Proofs.Ytlljmgphgmklcaa.Turn Go.Proofs.Ytlljmgphgmklcaa.Aid Go.Proofs.Ytlljmgphgmklcaa.GoP Go.Proofs.Ytlljmgphgmklcaa.GoM

def P (n_0 : Int) (low : Int) (high : Int) : Option (Bool) :=
  letK (decide (low ≤ n_0)) fun (t_3 : Bool) =>
  joinK (fun (t_8 : Bool) =>
  some t_8) fun jt_8 => iteK t_3 (letK (decide (n_0 ≤ high)) fun (t_7 : Bool) =>
  appK jt_8 t_7) (appK jt_8 false)

set_option maxRecDepth 100000 in
set_option maxHeartbeats 2000000 in
theorem C (n_0 : Int) (low : Int) (high : Int)   (w : World)   {r : Bool} (H : Hid (P n_0 low high = some r)) :
    Calls Try.prog 78 #[.int .i64 n_0, .int .i64 low, .int .i64 high] w (Gives (.bool r) w) := by
  have HB := Lib.hid (Below.refl w.heap.size w)
  unfold P at H
  go_enter Try.func78, Try.ntmps78
  replace H := let_hid H
  obtain ⟨t_3, ht_3, H⟩ := H
  replace H := join_hid H
  cases t_3 with
  | false =>
    replace H := ite_f H
    replace H := app_hid H
    obtain rfl := ret_hid H
    go_wp2_with fail
    go_ret
    exact ⟨rfl, HB.out⟩
  | true =>
    replace H := ite_t H
    replace H := let_hid H
    obtain ⟨t_7, ht_7, H⟩ := H
    replace H := app_hid H
    obtain rfl := ret_hid H
    go_wp2_with fail
    go_ret
    exact ⟨rfl, HB.out⟩

set_option maxRecDepth 100000 in
set_option maxHeartbeats 2000000 in
theorem C0 (n_0 : Int) (low : Int) (high : Int)   (w : World)   {r : Bool} (H : Hid (P n_0 low high = some r)) :
    Calls Try.prog 78 #[.int .i64 n_0, .int .i64 low, .int .i64 high] w (fun e w'' => e = .returned (.bool r) ∧ w'' = w) := by
  have HB := Lib.hid (Below.refl w.heap.size w)
  unfold P at H
  go_enter Try.func78, Try.ntmps78
  replace H := let_hid H
  obtain ⟨t_3, ht_3, H⟩ := H
  replace H := join_hid H
  cases t_3 with
  | false =>
    replace H := ite_f H
    replace H := app_hid H
    obtain rfl := ret_hid H
    go_wp2_with fail
    go_ret
    exact ⟨rfl, rfl⟩
  | true =>
    replace H := ite_t H
    replace H := let_hid H
    obtain ⟨t_7, ht_7, H⟩ := H
    replace H := app_hid H
    obtain rfl := ret_hid H
    go_wp2_with fail
    go_ret
    exact ⟨rfl, rfl⟩
end Go.Proofs.Ytlljmgphgmklcaa.GiWithin

/- loop.example/g01062/impl.isPostOffice as a plain function, and the contract of the program's: where the plain one has an answer, the program has it. Conditions: slices read as lists. -/
namespace Go.Proofs.Ytlljmgphgmklcaa.GiIsPostOffice
set_option linter.unusedVariables false
set_option linter.unusedSimpArgs false
open Go.RowKit
open Go.Proofs.Ytlljmgphgmklcaa.Rowed Go.Proofs.Ytlljmgphgmklcaa.Turn Go.Proofs.Ytlljmgphgmklcaa.Aid Go.Proofs.Ytlljmgphgmklcaa.GoP Go.Proofs.Ytlljmgphgmklcaa.GoM

def P (office : Int) : Option (Bool) :=
  Option.bind (Go.Proofs.Ytlljmgphgmklcaa.GiWithin.P office 0 9) fun (t_2 : Bool) =>
  some t_2

set_option maxRecDepth 100000 in
set_option maxHeartbeats 2000000 in
theorem C (office : Int)   (w : World)   {r : Bool} (H : Hid (P office = some r)) :
    Calls Try.prog 83 #[.int .i64 office] w (Gives (.bool r) w) := by
  have HB := Lib.hid (Below.refl w.heap.size w)
  unfold P at H
  go_enter Try.func83, Try.ntmps83
  replace H := bind_hid H
  obtain ⟨t_2, qt_2, H⟩ := H
  go_wp2_with fail
  go_at_call 78
  refine (Go.Proofs.Ytlljmgphgmklcaa.GiWithin.C (office) (0) (9)  _    qt_2).mono ?_
  rintro e_t_2 wt_2 ⟨rfl, bt_2⟩
  have HBwt_2 := Lib.hid (Below.step HB.out bt_2)
  clear bt_2
  obtain rfl := ret_hid H
  go_wp2_with fail
  go_ret
  exact ⟨rfl, HBwt_2.out⟩
end Go.Proofs.Ytlljmgphgmklcaa.GiIsPostOffice

/- loop.example/g01062/impl.isMinute as a plain function, and the contract of the program's: where the plain one has an answer, the program has it. Conditions: slices read as lists. -/
namespace Go.Proofs.Ytlljmgphgmklcaa.GiIsMinute
set_option linter.unusedVariables false
set_option linter.unusedSimpArgs false
open Go.RowKit
open Go.Proofs.Ytlljmgphgmklcaa.Rowed Go.Proofs.Ytlljmgphgmklcaa.Turn Go.Proofs.Ytlljmgphgmklcaa.Aid Go.Proofs.Ytlljmgphgmklcaa.GoP Go.Proofs.Ytlljmgphgmklcaa.GoM

def P (minute : Int) : Option (Bool) :=
  Option.bind (Go.Proofs.Ytlljmgphgmklcaa.GiWithin.P minute 0 9999) fun (t_2 : Bool) =>
  some t_2

set_option maxRecDepth 100000 in
set_option maxHeartbeats 2000000 in
theorem C (minute : Int)   (w : World)   {r : Bool} (H : Hid (P minute = some r)) :
    Calls Try.prog 84 #[.int .i64 minute] w (Gives (.bool r) w) := by
  have HB := Lib.hid (Below.refl w.heap.size w)
  unfold P at H
  go_enter Try.func84, Try.ntmps84
  replace H := bind_hid H
  obtain ⟨t_2, qt_2, H⟩ := H
  go_wp2_with fail
  go_at_call 78
  refine (Go.Proofs.Ytlljmgphgmklcaa.GiWithin.C (minute) (0) (9999)  _    qt_2).mono ?_
  rintro e_t_2 wt_2 ⟨rfl, bt_2⟩
  have HBwt_2 := Lib.hid (Below.step HB.out bt_2)
  clear bt_2
  obtain rfl := ret_hid H
  go_wp2_with fail
  go_ret
  exact ⟨rfl, HBwt_2.out⟩
end Go.Proofs.Ytlljmgphgmklcaa.GiIsMinute

/- loop.example/g01062/impl.isMail as a plain function, and the contract of the program's: where the plain one has an answer, the program has it. Conditions: slices read as lists. -/
namespace Go.Proofs.Ytlljmgphgmklcaa.GiIsMail
set_option linter.unusedVariables false
set_option linter.unusedSimpArgs false
open Go.RowKit
open Go.Proofs.Ytlljmgphgmklcaa.Rowed Go.Proofs.Ytlljmgphgmklcaa.Turn Go.Proofs.Ytlljmgphgmklcaa.Aid Go.Proofs.Ytlljmgphgmklcaa.GoP Go.Proofs.Ytlljmgphgmklcaa.GoM

def P (x : Go.Proofs.Ytlljmgphgmklcaa.PMail.Mail) : Option (Bool) :=
  unMail x fun (x_leave : Int) (x_from_ : Int) (x_to_ : Int) (x_arrive : Int) =>
  Option.bind (Go.Proofs.Ytlljmgphgmklcaa.GiIsPostOffice.P x_from_) fun (t_4 : Bool) =>
  joinK (fun (t_9 : Bool) =>
  joinK (fun (t_16 : Bool) =>
  joinK (fun (t_21 : Bool) =>
  joinK (fun (t_26 : Bool) =>
  joinK (fun (t_33 : Bool) =>
  some t_33) fun jt_33 => iteK t_26 (letK (decide (x_leave < x_arrive)) fun (t_32 : Bool) =>
  appK jt_33 t_32) (appK jt_33 false)) fun jt_26 => iteK t_21 (Option.bind (Go.Proofs.Ytlljmgphgmklcaa.GiIsMinute.P x_arrive) fun (t_25 : Bool) =>
  appK jt_26 t_25) (appK jt_26 false)) fun jt_21 => iteK t_16 (Option.bind (Go.Proofs.Ytlljmgphgmklcaa.GiIsMinute.P x_leave) fun (t_20 : Bool) =>
  appK jt_21 t_20) (appK jt_21 false)) fun jt_16 => iteK t_9 (letK (x_from_ != x_to_) fun (t_15 : Bool) =>
  appK jt_16 t_15) (appK jt_16 false)) fun jt_9 => iteK t_4 (Option.bind (Go.Proofs.Ytlljmgphgmklcaa.GiIsPostOffice.P x_to_) fun (t_8 : Bool) =>
  appK jt_9 t_8) (appK jt_9 false)

set_option maxRecDepth 100000 in
set_option maxHeartbeats 2000000 in
theorem C (x : Go.Proofs.Ytlljmgphgmklcaa.PMail.Mail)   (w : World)   {r : Bool} (H : Hid (P x = some r)) :
    Calls Try.prog 148 #[x.val] w (Gives (.bool r) w) := by
  have HB := Lib.hid (Below.refl w.heap.size w)
  unfold P at H
  obtain ⟨x_leave, x_from_, x_to_, x_arrive⟩ := x
  replace H := unMail_hid H
  unfold Go.Proofs.Ytlljmgphgmklcaa.PMail.Mail.val
  go_enter Try.func148, Try.ntmps148
  obtain ⟨w_x_0, hw_x_0⟩ : ∃ x, w.alloc (.cells #[.int .i64 x_leave, .int .i64 x_from_, .int .i64 x_to_, .int .i64 x_arrive] 108) = x := ⟨_, rfl⟩
  have bw_x_0 : Below w.heap.size w w_x_0 := by rw [← hw_x_0]; exact (Below.refl _ _).alloc (Nat.le_refl _) _
  have HBw_x_0 := Lib.hid (Below.step HB.out bw_x_0)
  clear bw_x_0
  have kx_0_0 : w_x_0.cell? ⟨w.heap.size, 0, none⟩ = some (.int .i64 x_leave) := by rw [← hw_x_0]; exact box_new _ _ _ 0 _ rfl
  have kx_0_1 : w_x_0.cell? ⟨w.heap.size, 1, none⟩ = some (.int .i64 x_from_) := by rw [← hw_x_0]; exact box_new _ _ _ 1 _ rfl
  have kx_0_2 : w_x_0.cell? ⟨w.heap.size, 2, none⟩ = some (.int .i64 x_to_) := by rw [← hw_x_0]; exact box_new _ _ _ 2 _ rfl
  have kx_0_3 : w_x_0.cell? ⟨w.heap.size, 3, none⟩ = some (.int .i64 x_arrive) := by rw [← hw_x_0]; exact box_new _ _ _ 3 _ rfl
  replace H := bind_hid H
  obtain ⟨t_4, qt_4, H⟩ := H
  go_wp2_with fail
  go_at_call 83
  refine (Go.Proofs.Ytlljmgphgmklcaa.GiIsPostOffice.C (x_from_)  _    qt_4).mono ?_
  rintro e_t_4 wt_4 ⟨rfl, bt_4⟩
  have HBwt_4 := Lib.hid (Below.step HBw_x_0.out bt_4)
  replace kx_0_0 := cell_below bt_4 kx_0_0
  replace kx_0_1 := cell_below bt_4 kx_0_1
  replace kx_0_2 := cell_below bt_4 kx_0_2
  replace kx_0_3 := cell_below bt_4 kx_0_3
  clear bt_4
  replace H := join_hid H
  cases t_4 with
  | false =>
    replace H := ite_f H
    replace H := app_hid H
    replace H := join_hid H
    replace H := ite_f H
    replace H := app_hid H
    replace H := join_hid H
    replace H := ite_f H
    replace H := app_hid H
    replace H := join_hid H
    replace H := ite_f H
    replace H := app_hid H
    replace H := join_hid H
    replace H := ite_f H
    replace H := app_hid H
    obtain rfl := ret_hid H
    go_wp2_with fail
    go_ret
    exact ⟨rfl, HBwt_4.out⟩
  | true =>
    replace H := ite_t H
    replace H := bind_hid H
    obtain ⟨t_8, qt_8, H⟩ := H
    go_wp2_with fail
    go_at_call 83
    refine (Go.Proofs.Ytlljmgphgmklcaa.GiIsPostOffice.C (x_to_)  _    qt_8).mono ?_
    rintro e_t_8 wt_8 ⟨rfl, bt_8⟩
    have HBwt_8 := Lib.hid (Below.step HBwt_4.out bt_8)
    replace kx_0_0 := cell_below bt_8 kx_0_0
    replace kx_0_1 := cell_below bt_8 kx_0_1
    replace kx_0_2 := cell_below bt_8 kx_0_2
    replace kx_0_3 := cell_below bt_8 kx_0_3
    clear bt_8
    replace H := app_hid H
    replace H := join_hid H
    cases t_8 with
    | false =>
      replace H := ite_f H
      replace H := app_hid H
      replace H := join_hid H
      replace H := ite_f H
      replace H := app_hid H
      replace H := join_hid H
      replace H := ite_f H
      replace H := app_hid H
      replace H := join_hid H
      replace H := ite_f H
      replace H := app_hid H
      obtain rfl := ret_hid H
      go_wp2_with fail
      go_ret
      exact ⟨rfl, HBwt_8.out⟩
    | true =>
      replace H := ite_t H
      replace H := let_hid H
      obtain ⟨t_15, ht_15, H⟩ := H
      replace H := app_hid H
      replace H := join_hid H
      cases t_15 with
      | false =>
        replace H := ite_f H
        replace H := app_hid H
        replace H := join_hid H
        replace H := ite_f H
        replace H := app_hid H
        replace H := join_hid H
        replace H := ite_f H
        replace H := app_hid H
        obtain rfl := ret_hid H
        go_wp2_with fail
        go_ret
        exact ⟨rfl, HBwt_8.out⟩
      | true =>
        replace H := ite_t H
        replace H := bind_hid H
        obtain ⟨t_20, qt_20, H⟩ := H
        go_wp2_with fail
        go_at_call 84
        refine (Go.Proofs.Ytlljmgphgmklcaa.GiIsMinute.C (x_leave)  _    qt_20).mono ?_
        rintro e_t_20 wt_20 ⟨rfl, bt_20⟩
        have HBwt_20 := Lib.hid (Below.step HBwt_8.out bt_20)
        replace kx_0_0 := cell_below bt_20 kx_0_0
        replace kx_0_1 := cell_below bt_20 kx_0_1
        replace kx_0_2 := cell_below bt_20 kx_0_2
        replace kx_0_3 := cell_below bt_20 kx_0_3
        clear bt_20
        replace H := app_hid H
        replace H := join_hid H
        cases t_20 with
        | false =>
          replace H := ite_f H
          replace H := app_hid H
          replace H := join_hid H
          replace H := ite_f H
          replace H := app_hid H
          obtain rfl := ret_hid H
          go_wp2_with fail
          go_ret
          exact ⟨rfl, HBwt_20.out⟩
        | true =>
          replace H := ite_t H
          replace H := bind_hid H
          obtain ⟨t_25, qt_25, H⟩ := H
          go_wp2_with fail
          go_at_call 84
          refine (Go.Proofs.Ytlljmgphgmklcaa.GiIsMinute.C (x_arrive)  _    qt_25).mono ?_
          rintro e_t_25 wt_25 ⟨rfl, bt_25⟩
          have HBwt_25 := Lib.hid (Below.step HBwt_20.out bt_25)
          replace kx_0_0 := cell_below bt_25 kx_0_0
          replace kx_0_1 := cell_below bt_25 kx_0_1
          replace kx_0_2 := cell_below bt_25 kx_0_2
          replace kx_0_3 := cell_below bt_25 kx_0_3
          clear bt_25
          replace H := app_hid H
          replace H := join_hid H
          cases t_25 with
          | false =>
            replace H := ite_f H
            replace H := app_hid H
            obtain rfl := ret_hid H
            go_wp2_with fail
            go_ret
            exact ⟨rfl, HBwt_25.out⟩
          | true =>
            replace H := ite_t H
            replace H := let_hid H
            obtain ⟨t_32, ht_32, H⟩ := H
            replace H := app_hid H
            obtain rfl := ret_hid H
            go_wp2_with fail
            go_ret
            exact ⟨rfl, HBwt_25.out⟩
end Go.Proofs.Ytlljmgphgmklcaa.GiIsMail

/- cmp.isNaN[int] as a plain function, and the contract of the program's: where the plain one has an answer, the program has it. Conditions: slices read as lists. -/
namespace Go.Proofs.Ytlljmgphgmklcaa.GxCmpIsNaNInt
set_option linter.unusedVariables false
set_option linter.unusedSimpArgs false
open Go.RowKit
open Go.Proofs.Ytlljmgphgmklcaa.Rowed Go.Proofs.Ytlljmgphgmklcaa.Turn Go.Proofs.Ytlljmgphgmklcaa.Aid Go.Proofs.Ytlljmgphgmklcaa.GoP Go.Proofs.Ytlljmgphgmklcaa.GoM

def P (x : Int) : Option (Bool) :=
  some false

set_option maxRecDepth 100000 in
set_option maxHeartbeats 2000000 in
theorem C (x : Int)   (w : World)   {r : Bool} (H : Hid (P x = some r)) :
    Calls Try.prog 163 #[.int .i64 x] w (Gives (.bool r) w) := by
  have HB := Lib.hid (Below.refl w.heap.size w)
  unfold P at H
  go_enter Try.func163, Try.ntmps163
  obtain rfl := ret_hid H
  go_wp2_with fail
  go_ret
  exact ⟨rfl, HB.out⟩

set_option maxRecDepth 100000 in
set_option maxHeartbeats 2000000 in
theorem C0 (x : Int)   (w : World)   {r : Bool} (H : Hid (P x = some r)) :
    Calls Try.prog 163 #[.int .i64 x] w (fun e w'' => e = .returned (.bool r) ∧ w'' = w) := by
  have HB := Lib.hid (Below.refl w.heap.size w)
  unfold P at H
  go_enter Try.func163, Try.ntmps163
  obtain rfl := ret_hid H
  go_wp2_with fail
  go_ret
  exact ⟨rfl, rfl⟩
end Go.Proofs.Ytlljmgphgmklcaa.GxCmpIsNaNInt

/- cmp.Compare[int] as a plain function, and the contract of the program's: where the plain one has an answer, the program has it. Conditions: slices read as lists. -/
namespace Go.Proofs.Ytlljmgphgmklcaa.GxCmpCompareInt
set_option linter.unusedVariables false
set_option linter.unusedSimpArgs false
open Go.RowKit
open Go.Proofs.Ytlljmgphgmklcaa.Rowed Go.Proofs.Ytlljmgphgmklcaa.Turn Go.Proofs.Ytlljmgphgmklcaa.Aid Go.Proofs.Ytlljmgphgmklcaa.GoP Go.Proofs.Ytlljmgphgmklcaa.GoM

def P (x : Int) (y : Int) : Option (Int) :=
  Option.bind (Go.Proofs.Ytlljmgphgmklcaa.GxCmpIsNaNInt.P x) fun (t_2 : Bool) =>
  Option.bind (Go.Proofs.Ytlljmgphgmklcaa.GxCmpIsNaNInt.P y) fun (t_5 : Bool) =>
  iteK t_2
  (iteK t_5
  (some 0)
  (some (-1)))
  (iteK t_5
  (some 1)
  (letK (decide (x < y)) fun (t_15 : Bool) =>
  iteK t_15
  (some (-1))
  (letK (decide (y < x)) fun (t_19 : Bool) =>
  iteK t_19
  (some 1)
  (some 0))))

set_option maxRecDepth 100000 in
set_option maxHeartbeats 2000000 in
theorem C (x : Int) (y : Int)   (w : World)   {r : Int} (H : Hid (P x y = some r)) :
    Calls Try.prog 161 #[.int .i64 x, .int .i64 y] w (Gives (.int .i64 r) w) := by
  have HB := Lib.hid (Below.refl w.heap.size w)
  unfold P at H
  go_enter Try.func161, Try.ntmps161
  replace H := bind_hid H
  obtain ⟨t_2, qt_2, H⟩ := H
  go_wp2_with fail
  go_at_call 163
  refine (Go.Proofs.Ytlljmgphgmklcaa.GxCmpIsNaNInt.C (x)  _    qt_2).mono ?_
  rintro e_t_2 wt_2 ⟨rfl, bt_2⟩
  have HBwt_2 := Lib.hid (Below.step HB.out bt_2)
  clear bt_2
  replace H := bind_hid H
  obtain ⟨t_5, qt_5, H⟩ := H
  go_wp2_with fail
  go_at_call 163
  refine (Go.Proofs.Ytlljmgphgmklcaa.GxCmpIsNaNInt.C (y)  _    qt_5).mono ?_
  rintro e_t_5 wt_5 ⟨rfl, bt_5⟩
  have HBwt_5 := Lib.hid (Below.step HBwt_2.out bt_5)
  clear bt_5
  cases t_2 with
  | false =>
    replace H := ite_f H
    cases t_5 with
    | false =>
      replace H := ite_f H
      replace H := let_hid H
      obtain ⟨t_15, ht_15, H⟩ := H
      cases t_15 with
      | false =>
        replace H := ite_f H
        replace H := let_hid H
        obtain ⟨t_19, ht_19, H⟩ := H
        cases t_19 with
        | false =>
          replace H := ite_f H
          obtain rfl := ret_hid H
          go_wp2_with fail
          go_ret
          exact ⟨rfl, HBwt_5.out⟩
        | true =>
          replace H := ite_t H
          obtain rfl := ret_hid H
          go_wp2_with fail
          go_ret
          exact ⟨rfl, HBwt_5.out⟩
      | true =>
        replace H := ite_t H
        obtain rfl := ret_hid H
        go_wp2_with fail
        go_ret
        exact ⟨rfl, HBwt_5.out⟩
    | true =>
      replace H := ite_t H
      obtain rfl := ret_hid H
      go_wp2_with fail
      go_ret
      exact ⟨rfl, HBwt_5.out⟩
  | true =>
    replace H := ite_t H
    cases t_5 with
    | false =>
      replace H := ite_f H
      obtain rfl := ret_hid H
      go_wp2_with fail
      go_ret
      exact ⟨rfl, HBwt_5.out⟩
    | true =>
      replace H := ite_t H
      obtain rfl := ret_hid H
      go_wp2_with fail
      go_ret
      exact ⟨rfl, HBwt_5.out⟩
end Go.Proofs.Ytlljmgphgmklcaa.GxCmpCompareInt

/- cmp.Or[int] as a plain function, and the contract of the program's: where the plain one has an answer, the program has it. Conditions: slices read as lists. -/
namespace Go.Proofs.Ytlljmgphgmklcaa.GxCmpOrInt
set_option linter.unusedVariables false
set_option linter.unusedSimpArgs false
open Go.RowKit
open Go.Proofs.Ytlljmgphgmklcaa.Rowed Go.Proofs.Ytlljmgphgmklcaa.Turn Go.Proofs.Ytlljmgphgmklcaa.Aid Go.Proofs.Ytlljmgphgmklcaa.GoP Go.Proofs.Ytlljmgphgmklcaa.GoM

def l0 (vals : (List Int)) (k0 : Nat) (s : Unit) (nx0 bk0 : Unit → Option (Int)) : Option (Int) :=
  
  Option.bind (idx vals (k0 : Int)) fun (yt_6 : Int) =>
  letK (yt_6 != 0) fun (t_11 : Bool) =>
  iteK t_11
  (some yt_6)
  (appK nx0 ())

def e0  (s : Unit) : Option (Int) :=
  
  some 0

def P (vals : (List Int)) : Option (Int) :=
  cntK (l0 vals) (vals.length) 0 () (e0 )

set_option maxRecDepth 100000 in
set_option maxHeartbeats 2000000 in
theorem C (vals : (List Int)) (A0 : Option Addr) (c0 : Nat)  (w : World) (M0 : Hid (Cells w 1 A0 vals.length (Go.Proofs.Ytlljmgphgmklcaa.HelpInt.iv vals))) (N0 : Hid (vals.length ≤ 9223372036854775807))  {r : Int} (H : Hid (P vals = some r)) :
    Calls Try.prog 160 #[.slice A0 vals.length c0] w (Gives (.int .i64 r) w) := by
  have HB := Lib.hid (Below.refl w.heap.size w)
  unfold P at H
  have N0o := N0.out
  go_enter Try.func160, Try.ntmps160
  go_wp2_with fail
  go_loopg [8] (vals.length) (fun m_ v8_ wr => ∃ (k0 : Nat) , k0 + m_ = vals.length ∧ v8_ = .int .i64 (k0 : Int) ∧ Hid (cntK (l0 vals) m_ k0 () (e0 ) = some r) ∧ Hid (Below w.heap.size w wr))
  case atStart => exact ⟨0, by omega, rfl, H, HB⟩
  case round =>
    obtain ⟨k0, hkm0, rfl, H, HBwr0⟩ := hrel
    rename World => wr0
    cases gk with
    | zero =>
      obtain rfl : k0 = vals.length := by omega
      have hc0 : decide (((vals.length : Nat) : Int) < ((vals.length : Nat) : Int)) = false := by simp
      replace H := cnt_zero H
      unfold e0 at H
      obtain rfl := ret_hid H
      go_wp2_with fail
      go_ret
      exact ⟨rfl, HBwr0.out⟩
    | succ m0 =>
      have hlt0 : k0 < vals.length := by omega
      have hc0 : decide ((k0 : Int) < ((vals.length : Nat) : Int)) = true := by simp; omega
      replace H := cnt_succ H
      unfold l0 at H
      replace H := idx_hid H
      obtain ⟨nt_6, yt_6, et_6, lt_6, gt_6, H⟩ := H
      obtain rfl : k0 = nt_6 := by omega
      clear et_6
      obtain ⟨ab_t_6, ao_t_6, zt_6, At_6, z_t_6, ct_6_0⟩ := Go.Proofs.Ytlljmgphgmklcaa.HelpInt.Ints.at_ M0.out lt_6
      obtain rfl := Option.some.inj (gt_6.out.symm.trans z_t_6)
      subst At_6
      have ltt_6 := cell_lt ct_6_0
      replace ct_6_0 := cell_below HBwr0.out ct_6_0
      clear z_t_6
      have b0t_6 : (0 : Int) ≤ (k0 : Int) := by omega
      have b1t_6 : (k0 : Int) < ((vals.length : Nat) : Int) := by omega
      have b2t_6 : ((k0 : Int)).toNat = k0 := by omega
      replace H := let_hid H
      obtain ⟨t_11, ht_11, H⟩ := H
      cases t_11 with
      | false =>
        replace H := ite_f H
        replace H := app_hid H
        go_wp2_with fail
        go_roundg m0
        case measure => omega
        case rel => exact ⟨k0 + 1, by omega, by go_num, H, HBwr0⟩
      | true =>
        replace H := ite_t H
        obtain rfl := ret_hid H
        go_wp2_with fail
        go_ret
        exact ⟨rfl, HBwr0.out⟩
end Go.Proofs.Ytlljmgphgmklcaa.GxCmpOrInt

/- loop.example/g01062/impl.compareMails as a plain function, and the contract of the program's: where the plain one has an answer, the program has it. Conditions: slices read as lists. -/
namespace Go.Proofs.Ytlljmgphgmklcaa.GiCompareMails
set_option linter.unusedVariables false
set_option linter.unusedSimpArgs false
open Go.RowKit
open Go.Proofs.Ytlljmgphgmklcaa.Rowed Go.Proofs.Ytlljmgphgmklcaa.Turn Go.Proofs.Ytlljmgphgmklcaa.Aid Go.Proofs.Ytlljmgphgmklcaa.GoP Go.Proofs.Ytlljmgphgmklcaa.GoM

def P (a : Go.Proofs.Ytlljmgphgmklcaa.PMail.Mail) (b : Go.Proofs.Ytlljmgphgmklcaa.PMail.Mail) : Option (Int) :=
  unMail a fun (a_leave : Int) (a_from_ : Int) (a_to_ : Int) (a_arrive : Int) =>
  unMail b fun (b_leave : Int) (b_from_ : Int) (b_to_ : Int) (b_arrive : Int) =>
  Option.bind (Go.Proofs.Ytlljmgphgmklcaa.GxCmpCompareInt.P a_leave b_leave) fun (t_7 : Int) =>
  Option.bind (Go.Proofs.Ytlljmgphgmklcaa.GxCmpCompareInt.P a_from_ b_from_) fun (t_12 : Int) =>
  Option.bind (Go.Proofs.Ytlljmgphgmklcaa.GxCmpCompareInt.P a_to_ b_to_) fun (t_17 : Int) =>
  Option.bind (Go.Proofs.Ytlljmgphgmklcaa.GxCmpCompareInt.P a_arrive b_arrive) fun (t_22 : Int) =>
  letK ([t_7, t_12, t_17, t_22]) fun (t_23 : (List Int)) =>
  Option.bind (Go.Proofs.Ytlljmgphgmklcaa.GxCmpOrInt.P t_23) fun (t_24 : Int) =>
  some t_24

set_option maxRecDepth 100000 in
set_option maxHeartbeats 2000000 in
theorem C (a : Go.Proofs.Ytlljmgphgmklcaa.PMail.Mail) (b : Go.Proofs.Ytlljmgphgmklcaa.PMail.Mail)   (w : World)   {r : Int} (H : Hid (P a b = some r)) :
    Calls Try.prog 149 #[a.val, b.val] w (Gives (.int .i64 r) w) := by
  have HB := Lib.hid (Below.refl w.heap.size w)
  unfold P at H
  obtain ⟨a_leave, a_from_, a_to_, a_arrive⟩ := a
  replace H := unMail_hid H
  obtain ⟨b_leave, b_from_, b_to_, b_arrive⟩ := b
  replace H := unMail_hid H
  unfold Go.Proofs.Ytlljmgphgmklcaa.PMail.Mail.val
  go_enter Try.func149, Try.ntmps149
  obtain ⟨w_a_0, hw_a_0⟩ : ∃ x, w.alloc (.cells #[.int .i64 a_leave, .int .i64 a_from_, .int .i64 a_to_, .int .i64 a_arrive] 108) = x := ⟨_, rfl⟩
  have bw_a_0 : Below w.heap.size w w_a_0 := by rw [← hw_a_0]; exact (Below.refl _ _).alloc (Nat.le_refl _) _
  have HBw_a_0 := Lib.hid (Below.step HB.out bw_a_0)
  clear bw_a_0
  have ka_0_0 : w_a_0.cell? ⟨w.heap.size, 0, none⟩ = some (.int .i64 a_leave) := by rw [← hw_a_0]; exact box_new _ _ _ 0 _ rfl
  have ka_0_1 : w_a_0.cell? ⟨w.heap.size, 1, none⟩ = some (.int .i64 a_from_) := by rw [← hw_a_0]; exact box_new _ _ _ 1 _ rfl
  have ka_0_2 : w_a_0.cell? ⟨w.heap.size, 2, none⟩ = some (.int .i64 a_to_) := by rw [← hw_a_0]; exact box_new _ _ _ 2 _ rfl
  have ka_0_3 : w_a_0.cell? ⟨w.heap.size, 3, none⟩ = some (.int .i64 a_arrive) := by rw [← hw_a_0]; exact box_new _ _ _ 3 _ rfl
  obtain ⟨w_b_1, hw_b_1⟩ : ∃ x, w_a_0.alloc (.cells #[.int .i64 b_leave, .int .i64 b_from_, .int .i64 b_to_, .int .i64 b_arrive] 108) = x := ⟨_, rfl⟩
  have bw_b_1 : Below w_a_0.heap.size w_a_0 w_b_1 := by rw [← hw_b_1]; exact (Below.refl _ _).alloc (Nat.le_refl _) _
  have HBw_b_1 := Lib.hid (Below.step HBw_a_0.out bw_b_1)
  have ka_0_0__1 := cell_below bw_b_1 ka_0_0
  have ka_0_1__2 := cell_below bw_b_1 ka_0_1
  have ka_0_2__3 := cell_below bw_b_1 ka_0_2
  have ka_0_3__4 := cell_below bw_b_1 ka_0_3
  clear bw_b_1
  have kb_1_0 : w_b_1.cell? ⟨w_a_0.heap.size, 0, none⟩ = some (.int .i64 b_leave) := by rw [← hw_b_1]; exact box_new _ _ _ 0 _ rfl
  have kb_1_1 : w_b_1.cell? ⟨w_a_0.heap.size, 1, none⟩ = some (.int .i64 b_from_) := by rw [← hw_b_1]; exact box_new _ _ _ 1 _ rfl
  have kb_1_2 : w_b_1.cell? ⟨w_a_0.heap.size, 2, none⟩ = some (.int .i64 b_to_) := by rw [← hw_b_1]; exact box_new _ _ _ 2 _ rfl
  have kb_1_3 : w_b_1.cell? ⟨w_a_0.heap.size, 3, none⟩ = some (.int .i64 b_arrive) := by rw [← hw_b_1]; exact box_new _ _ _ 3 _ rfl
  go_wp2_with fail
  clear ka_0_0 ka_0_1 ka_0_2 ka_0_3
  have bd1 : Below w_b_1.heap.size w_b_1 w_b_1.drew := (Below.refl _ _).drew
  have HBw_b_1.drew := Lib.hid (Below.step HBw_b_1.out bd1)
  replace ka_0_0__1 := cell_below bd1 ka_0_0__1
  replace ka_0_1__2 := cell_below bd1 ka_0_1__2
  replace ka_0_2__3 := cell_below bd1 ka_0_2__3
  replace ka_0_3__4 := cell_below bd1 ka_0_3__4
  replace kb_1_0 := cell_below bd1 kb_1_0
  replace kb_1_1 := cell_below bd1 kb_1_1
  replace kb_1_2 := cell_below bd1 kb_1_2
  replace kb_1_3 := cell_below bd1 kb_1_3
  clear bd1
  replace H := bind_hid H
  obtain ⟨t_7, qt_7, H⟩ := H
  replace H := bind_hid H
  obtain ⟨t_12, qt_12, H⟩ := H
  replace H := bind_hid H
  obtain ⟨t_17, qt_17, H⟩ := H
  replace H := bind_hid H
  obtain ⟨t_22, qt_22, H⟩ := H
  replace H := let_hid H
  obtain ⟨t_23, ht_23, H⟩ := H
  replace H := bind_hid H
  obtain ⟨t_24, qt_24, H⟩ := H
  go_region_held3 (fun w' => w'.cell? ⟨w.heap.size, 0, none⟩ = some (.int .i64 a_leave) ∧ w'.cell? ⟨w.heap.size, 1, none⟩ = some (.int .i64 a_from_) ∧ w'.cell? ⟨w.heap.size, 2, none⟩ = some (.int .i64 a_to_) ∧ w'.cell? ⟨w.heap.size, 3, none⟩ = some (.int .i64 a_arrive) ∧ w'.cell? ⟨w_a_0.heap.size, 0, none⟩ = some (.int .i64 b_leave) ∧ w'.cell? ⟨w_a_0.heap.size, 1, none⟩ = some (.int .i64 b_from_) ∧ w'.cell? ⟨w_a_0.heap.size, 2, none⟩ = some (.int .i64 b_to_) ∧ w'.cell? ⟨w_a_0.heap.size, 3, none⟩ = some (.int .i64 b_arrive)) (first | exact ⟨ka_0_0__1, ka_0_1__2, ka_0_2__3, ka_0_3__4, kb_1_0, kb_1_1, kb_1_2, kb_1_3⟩ | exact ⟨ka_0_0__5, ka_0_1__6, ka_0_2__7, ka_0_3__8, kb_1_0__9, kb_1_1__10, kb_1_2__11, kb_1_3__12⟩)
      (first
        | (go_at_call 161
           refine (Go.Proofs.Ytlljmgphgmklcaa.GxCmpCompareInt.C (a_leave) (b_leave)  _    qt_7).mono ?_
           rintro e_t_7 wt_7 ⟨rfl, bt_7⟩
           have HBwt_7 := Lib.hid (Below.step HBw_b_1.drew.out bt_7)
           replace ka_0_0__1 := cell_below bt_7 ka_0_0__1
           replace ka_0_1__2 := cell_below bt_7 ka_0_1__2
           replace ka_0_2__3 := cell_below bt_7 ka_0_2__3
           replace ka_0_3__4 := cell_below bt_7 ka_0_3__4
           replace kb_1_0 := cell_below bt_7 kb_1_0
           replace kb_1_1 := cell_below bt_7 kb_1_1
           replace kb_1_2 := cell_below bt_7 kb_1_2
           replace kb_1_3 := cell_below bt_7 kb_1_3
           clear bt_7
           clear qt_7)
        | (go_at_call 161
           refine (Go.Proofs.Ytlljmgphgmklcaa.GxCmpCompareInt.C (a_from_) (b_from_)  _    qt_12).mono ?_
           rintro e_t_12 wt_12 ⟨rfl, bt_12⟩
           have HBwt_12 := Lib.hid (Below.step HBwt_7.out bt_12)
           replace ka_0_0__1 := cell_below bt_12 ka_0_0__1
           replace ka_0_1__2 := cell_below bt_12 ka_0_1__2
           replace ka_0_2__3 := cell_below bt_12 ka_0_2__3
           replace ka_0_3__4 := cell_below bt_12 ka_0_3__4
           replace kb_1_0 := cell_below bt_12 kb_1_0
           replace kb_1_1 := cell_below bt_12 kb_1_1
           replace kb_1_2 := cell_below bt_12 kb_1_2
           replace kb_1_3 := cell_below bt_12 kb_1_3
           clear bt_12
           clear qt_12)
        | (go_at_call 161
           refine (Go.Proofs.Ytlljmgphgmklcaa.GxCmpCompareInt.C (a_to_) (b_to_)  _    qt_17).mono ?_
           rintro e_t_17 wt_17 ⟨rfl, bt_17⟩
           have HBwt_17 := Lib.hid (Below.step HBwt_12.out bt_17)
           replace ka_0_0__1 := cell_below bt_17 ka_0_0__1
           replace ka_0_1__2 := cell_below bt_17 ka_0_1__2
           replace ka_0_2__3 := cell_below bt_17 ka_0_2__3
           replace ka_0_3__4 := cell_below bt_17 ka_0_3__4
           replace kb_1_0 := cell_below bt_17 kb_1_0
           replace kb_1_1 := cell_below bt_17 kb_1_1
           replace kb_1_2 := cell_below bt_17 kb_1_2
           replace kb_1_3 := cell_below bt_17 kb_1_3
           clear bt_17
           clear qt_17)
        | (go_at_call 161
           refine (Go.Proofs.Ytlljmgphgmklcaa.GxCmpCompareInt.C (a_arrive) (b_arrive)  _    qt_22).mono ?_
           rintro e_t_22 wt_22 ⟨rfl, bt_22⟩
           have HBwt_22 := Lib.hid (Below.step HBwt_17.out bt_22)
           replace ka_0_0__1 := cell_below bt_22 ka_0_0__1
           replace ka_0_1__2 := cell_below bt_22 ka_0_1__2
           replace ka_0_2__3 := cell_below bt_22 ka_0_2__3
           replace ka_0_3__4 := cell_below bt_22 ka_0_3__4
           replace kb_1_0 := cell_below bt_22 kb_1_0
           replace kb_1_1 := cell_below bt_22 kb_1_1
           replace kb_1_2 := cell_below bt_22 kb_1_2
           replace kb_1_3 := cell_below bt_22 kb_1_3
           clear bt_22
           clear qt_22
           obtain ⟨w_t_23, hw_t_23⟩ : ∃ x, wt_22.alloc (.cells #[.int .i64 t_7, .int .i64 t_12, .int .i64 t_17, .int .i64 t_22] 3) = x := ⟨_, rfl⟩
           have bw_t_23 : Below wt_22.heap.size wt_22 w_t_23 := by rw [← hw_t_23]; exact (Below.refl _ _).alloc (Nat.le_refl _) _
           have hs_t_23 := HBwt_22.out.size
           have nt_23 : t_23.length = 4 := by rw [← ht_23]; rfl
           have Ot_23 : Hid (w_t_23.ownsRow w.heap.size 3 1 (.slice (some ⟨wt_22.heap.size, 0, none⟩) 4 4) 4 (Go.Proofs.Ytlljmgphgmklcaa.HelpInt.iv t_23)) := by
             rw [← hw_t_23, ← ht_23]
             have e_ : ([.int .i64 t_7, .int .i64 t_12, .int .i64 t_17, .int .i64 t_22] : List Value) = (Go.Proofs.Ytlljmgphgmklcaa.HelpInt.iv ([t_7, t_12, t_17, t_22] : List Int)) := rfl
             exact Lib.hid (own_laid (n := 4) hs_t_23 e_ rfl (by unfold maxLen; omega))
           clear hs_t_23
           have hht_23 := Lib.hid ht_23
           clear ht_23
           replace nt_23 := Lib.hid nt_23
           have Dt_23_a_0 := Lib.hid (apart_box ka_0_0__1)
           have Dt_23_b_1 := Lib.hid (apart_box kb_1_0)
           have HBw_t_23 := Lib.hid (Below.step HBwt_22.out bw_t_23)
           have ka_0_0__5 := cell_below bw_t_23 ka_0_0__1
           have ka_0_1__6 := cell_below bw_t_23 ka_0_1__2
           have ka_0_2__7 := cell_below bw_t_23 ka_0_2__3
           have ka_0_3__8 := cell_below bw_t_23 ka_0_3__4
           have kb_1_0__9 := cell_below bw_t_23 kb_1_0
           have kb_1_1__10 := cell_below bw_t_23 kb_1_1
           have kb_1_2__11 := cell_below bw_t_23 kb_1_2
           have kb_1_3__12 := cell_below bw_t_23 kb_1_3
           clear bw_t_23)
        | (have hc0_ := nt_23.out
           have Oct_24_1 := Lib.hid (own_len hc0_ Ot_23.out)
           have con_ := Go.Proofs.Ytlljmgphgmklcaa.GxCmpOrInt.C (t_23) (some ⟨wt_22.heap.size, 0, none⟩) 4 _   (Lib.hid (own_cells Oct_24_1.out)) (Lib.hid (own_max Oct_24_1.out)) qt_24
           rw [hc0_] at con_
           clear hc0_ Oct_24_1
           go_at_call 160
           refine con_.mono ?_
           rintro e_t_24 wt_24 ⟨rfl, bt_24⟩
           have HBwt_24 := Lib.hid (Below.step HBw_t_23.out bt_24)
           replace ka_0_0__5 := cell_below bt_24 ka_0_0__5
           replace ka_0_1__6 := cell_below bt_24 ka_0_1__6
           replace ka_0_2__7 := cell_below bt_24 ka_0_2__7
           replace ka_0_3__8 := cell_below bt_24 ka_0_3__8
           replace kb_1_0__9 := cell_below bt_24 kb_1_0__9
           replace kb_1_1__10 := cell_below bt_24 kb_1_1__10
           replace kb_1_2__11 := cell_below bt_24 kb_1_2__11
           replace kb_1_3__12 := cell_below bt_24 kb_1_3__12
           replace Ot_23 := Lib.hid (own_below Ot_23.out bt_24)
           clear bt_24
           clear qt_24))
  try clear ka_0_0__1
  try clear ka_0_1__2
  try clear ka_0_2__3
  try clear ka_0_3__4
  try clear kb_1_0
  try clear kb_1_1
  try clear kb_1_2
  try clear kb_1_3
  obtain rfl := ret_hid H
  go_wp2_with fail
  go_ret
  exact ⟨rfl, HBwt_24.out⟩
end Go.Proofs.Ytlljmgphgmklcaa.GiCompareMails

