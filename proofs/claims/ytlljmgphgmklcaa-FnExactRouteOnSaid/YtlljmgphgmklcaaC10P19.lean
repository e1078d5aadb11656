/- Texts on which the proofs of several laws stand, one behind the other (19 of 21). No condition of their own. -/
import Derived.Test.YtlljmgphgmklcaaChecked
import Derived.Test.YtlljmgphgmklcaaC10P1
import Derived.Test.YtlljmgphgmklcaaC10P4
import Derived.Test.YtlljmgphgmklcaaC10P9
import Derived.Test.YtlljmgphgmklcaaC10P2
import Derived.Test.YtlljmgphgmklcaaC10P6
import Derived.WalkKit
import Derived.WalkSpells
import Derived.WalkLawsBesides
import Derived.BigQuiet
import Derived.OwnWalk
import Derived.Deep.LoopGhost
import Derived.Deep.QuietTactic
import Derived.IntWalk
import Derived.Lib.QuietBelow
import Derived.Test.YtlljmgphgmklcaaC10P5
import Derived.Test.YtlljmgphgmklcaaC10P3
import Derived.Test.YtlljmgphgmklcaaC10P7
import Derived.Test.YtlljmgphgmklcaaC10P8
import Derived.Test.YtlljmgphgmklcaaC10P10
/- loop.example/g01062/spec.EarliestAt as a plain function, and the contract of the program's: where the plain one has an answer, the program has it. Conditions: slices read as lists. -/
namespace Go.Proofs.Ytlljmgphgmklcaa.GsEarliestAt
set_option linter.unusedVariables false
set_option linter.unusedSimpArgs false
open Go.RowKit
open Go.Proofs.Ytlljmgphgmklcaa.Rowed Go.Proofs.Ytlljmgphgmklcaa.Turn Go.Proofs.Ytlljmgphgmklcaa.Aid Go.Proofs.Ytlljmgphgmklcaa.GoP Go.Proofs.Ytlljmgphgmklcaa.GoM

def P (list : (List Go.Proofs.Ytlljmgphgmklcaa.PMail.Mail)) (from_1 : Int) (minute : Int) (to_3 : Int) : Option (Int × Bool) :=
  Option.bind (Go.Proofs.Ytlljmgphgmklcaa.GsL9Asked.P list from_1 minute) fun (t_5 : Bool) =>
  letK (!t_5) fun (t_6 : Bool) =>
  joinK (fun (t_11 : Bool) =>
  iteK t_11
  (some (0, false))
  (Option.bind (Go.Proofs.Ytlljmgphgmklcaa.GsL9Times.P list from_1 minute) fun (t_17 : (List Int)) =>
  Option.bind (idx t_17 to_3) fun (yt_19 : Int) =>
  letK (yt_19 == 10000) fun (t_23 : Bool) =>
  iteK t_23
  (some (0, false))
  (some (yt_19, true)))) fun jt_11 => iteK t_6 (appK jt_11 true) (Option.bind (Go.Proofs.Ytlljmgphgmklcaa.GsL9Office.P to_3) fun (t_9 : Bool) =>
  letK (!t_9) fun (t_10 : Bool) =>
  appK jt_11 t_10)

set_option maxRecDepth 100000 in
set_option maxHeartbeats 2000000 in
theorem C (list : (List Go.Proofs.Ytlljmgphgmklcaa.PMail.Mail)) (from_1 : Int) (minute : Int) (to_3 : Int) (A0 : Option Addr) (c0 : Nat)  (w : World) (M0 : Hid (Cells w 4 A0 list.length (Go.Proofs.Ytlljmgphgmklcaa.PMail.flat list))) (N0 : Hid (list.length ≤ 9223372036854775807))  {r0 : Int} {r1 : Bool} (H : Hid (P list from_1 minute to_3 = some (r0, r1))) :
    Calls Try.prog 146 #[.slice A0 list.length c0, .int .i64 from_1, .int .i64 minute, .int .i64 to_3] w (Gives (.tuple #[.int .i64 r0, .bool r1]) w) := by
  have HB := Lib.hid (Below.refl w.heap.size w)
  unfold P at H
  have N0o := N0.out
  go_enter Try.func146, Try.ntmps146
  replace H := bind_hid H
  obtain ⟨t_5, qt_5, H⟩ := H
  go_wp2_with fail
  go_at_call 153
  refine (Go.Proofs.Ytlljmgphgmklcaa.GsL9Asked.C (list) (from_1) (minute) A0 c0 _   (Lib.hid (Cells.below M0.out HB.out)) N0 qt_5).mono ?_
  rintro e_t_5 wt_5 ⟨rfl, bt_5⟩
  have HBwt_5 := Lib.hid (Below.step HB.out bt_5)
  clear bt_5
  cases t_5 with
  | false =>
    replace H := let_hid H
    obtain ⟨t_6, ht_6, H⟩ := H
    obtain rfl : t_6 = true := ht_6.symm
    replace H := join_hid H
    replace H := ite_t H
    replace H := app_hid H
    replace H := ite_t H
    cases ret_hid H
    go_wp2_with fail
    go_ret2
    exact ⟨rfl, HBwt_5.out⟩
  | true =>
    replace H := let_hid H
    obtain ⟨t_6, ht_6, H⟩ := H
    obtain rfl : t_6 = false := ht_6.symm
    replace H := join_hid H
    replace H := ite_f H
    replace H := bind_hid H
    obtain ⟨t_9, qt_9, H⟩ := H
    go_wp2_with fail
    go_at_call 109
    refine (Go.Proofs.Ytlljmgphgmklcaa.GsL9Office.C (to_3)  _    qt_9).mono ?_
    rintro e_t_9 wt_9 ⟨rfl, bt_9⟩
    have HBwt_9 := Lib.hid (Below.step HBwt_5.out bt_9)
    clear bt_9
    cases t_9 with
    | false =>
      replace H := let_hid H
      obtain ⟨t_10, ht_10, H⟩ := H
      obtain rfl : t_10 = true := ht_10.symm
      replace H := app_hid H
      replace H := ite_t H
      cases ret_hid H
      go_wp2_with fail
      go_ret2
      exact ⟨rfl, HBwt_9.out⟩
    | true =>
      replace H := let_hid H
      obtain ⟨t_10, ht_10, H⟩ := H
      obtain rfl : t_10 = false := ht_10.symm
      replace H := app_hid H
      replace H := ite_f H
      replace H := bind_hid H
      obtain ⟨t_17, qt_17, H⟩ := H
      go_wp2_with fail
      go_at_call 145
      refine (Go.Proofs.Ytlljmgphgmklcaa.GsL9Times.C (list) (from_1) (minute) A0 c0 _   (Lib.hid (Cells.below M0.out HBwt_9.out)) N0 qt_17).mono ?_
      rintro e_t_17 wt_17 ⟨At_17, ct_17, rfl, ot_17, bt_17⟩
      have Ot_17 := Lib.hid (own_lower ot_17 HBwt_9.out.size)
      clear ot_17
      have HBwt_17 := Lib.hid (Below.step HBwt_9.out bt_17)
      clear bt_17
      replace H := idx_hid H
      obtain ⟨nt_19, yt_19, et_19, lt_19, gt_19, H⟩ := H
      subst et_19
      obtain ⟨qt_19, Qt_19⟩ := own_some Ot_17.out (by omega)
      subst Qt_19
      obtain ⟨ab_t_19, ao_t_19, zt_19, At_19, z_t_19, ct_19_0⟩ := Go.Proofs.Ytlljmgphgmklcaa.HelpInt.Ints.at_ (own_cells Ot_17.out) (k := nt_19) (by omega)
      obtain rfl := Option.some.inj (gt_19.out.symm.trans z_t_19)
      simp only [Option.some.injEq, Addr.mk.injEq] at At_19
      obtain ⟨rfl, rfl, _⟩ := At_19
      clear z_t_19
      simp only [Nat.zero_add] at ct_19_0
      have b0t_19 : (0 : Int) ≤ (nt_19 : Int) := by omega
      have b1t_19 : (nt_19 : Int) < ((t_17.length : Nat) : Int) := by omega
      have b2t_19 : ((nt_19 : Int)).toNat = nt_19 := by omega
      replace H := let_hid H
      obtain ⟨t_23, ht_23, H⟩ := H
      cases t_23 with
      | false =>
        replace H := ite_f H
        cases ret_hid H
        go_wp2_with fail
        go_ret2
        exact ⟨rfl, HBwt_17.out⟩
      | true =>
        replace H := ite_t H
        cases ret_hid H
        go_wp2_with fail
        go_ret2
        exact ⟨rfl, HBwt_17.out⟩
end Go.Proofs.Ytlljmgphgmklcaa.GsEarliestAt

/- loop.example/g01062/spec.BestRoute as a plain function, and the contract of the program's: where the plain one has an answer, the program has it. Conditions: slices read as lists. -/
namespace Go.Proofs.Ytlljmgphgmklcaa.GsBestRoute
set_option linter.unusedVariables false
set_option linter.unusedSimpArgs false
open Go.RowKit
open Go.Proofs.Ytlljmgphgmklcaa.Rowed Go.Proofs.Ytlljmgphgmklcaa.Turn Go.Proofs.Ytlljmgphgmklcaa.Aid Go.Proofs.Ytlljmgphgmklcaa.GoP Go.Proofs.Ytlljmgphgmklcaa.GoM

def l1 (list : (List Go.Proofs.Ytlljmgphgmklcaa.PMail.Mail)) (to_3 : Int) (t_8a : Int) (k1 : Nat) (s : Int × Int × (List Int)) (nx1 bk1 : Int × Int × (List Int) → Option ((List Int) × Bool)) : Option ((List Int) × Bool) :=
  unp3 s fun from_1l1 minute_2l1 out_10l1 =>
  Option.bind (idx list (k1 : Int)) fun (yt_34 : Go.Proofs.Ytlljmgphgmklcaa.PMail.Mail) =>
  unMail yt_34 fun (t_34_leave : Int) (t_34_from_ : Int) (t_34_to_ : Int) (t_34_arrive : Int) =>
  letK (t_34_from_ == from_1l1) fun (t_41 : Bool) =>
  joinK (fun (t_47 : Bool) =>
  joinK (fun (t_60 : Bool) =>
  iteK t_60
  (guardK (out_10l1.length ≤ 1099511627776) <|
  letK (out_10l1 ++ [(k1 : Int)]) fun (t_64 : (List Int)) =>
  appK bk1 (t_34_to_, t_34_arrive, t_64))
  (appK nx1 (from_1l1, minute_2l1, out_10l1))) fun jt_60 => iteK t_47 (Option.bind (Go.Proofs.Ytlljmgphgmklcaa.GsL9Times.P list t_34_to_ t_34_arrive) fun (t_54 : (List Int)) =>
  Option.bind (idx t_54 to_3) fun (yt_56 : Int) =>
  letK (yt_56 == t_8a) fun (t_59 : Bool) =>
  appK jt_60 t_59) (appK jt_60 false)) fun jt_47 => iteK t_41 (letK (decide (minute_2l1 ≤ t_34_leave)) fun (t_46 : Bool) =>
  appK jt_47 t_46) (appK jt_47 false)

def e1 (nx0 : (Int × Int × (List Int)) → Option ((List Int) × Bool)) (s : Int × Int × (List Int)) : Option ((List Int) × Bool) :=
  unp3 s fun from_1l1 minute_2l1 out_10l1 =>
  appK nx0 (from_1l1, minute_2l1, out_10l1)

def l0 (list : (List Go.Proofs.Ytlljmgphgmklcaa.PMail.Mail)) (to_3 : Int) (t_8a : Int) (s : Int × Int × (List Int)) (nx0 bk0 : Int × Int × (List Int) → Option ((List Int) × Bool)) : Option ((List Int) × Bool) :=
  unp3 s fun from_1l0 minute_2l0 out_10l0 =>
  letK (from_1l0 != to_3) fun (t_21 : Bool) =>
  joinK (fun (t_26 : Bool) =>
  iteK t_26
  (cntK (l1 list to_3 t_8a) (list.length) 0 (from_1l0, minute_2l0, out_10l0) (e1 nx0))
  (appK bk0 (from_1l0, minute_2l0, out_10l0))) fun jt_26 => iteK t_21 (appK jt_26 true) (letK (minute_2l0 != t_8a) fun (t_25 : Bool) =>
  appK jt_26 t_25)

def e0  (s : Int × Int × (List Int)) : Option ((List Int) × Bool) :=
  unp3 s fun from_1l0 minute_2l0 out_10l0 =>
  some (out_10l0, true)

def P (fuel : Nat) (list : (List Go.Proofs.Ytlljmgphgmklcaa.PMail.Mail)) (from_1 : Int) (minute : Int) (to_3 : Int) : Option ((List Int) × Bool) :=
  bind2 (Go.Proofs.Ytlljmgphgmklcaa.GsEarliestAt.P list from_1 minute to_3) fun (t_8a : Int) (t_8b : Bool) =>
  letK (!t_8b) fun (t_15 : Bool) =>
  iteK t_15
  (some (([] : List Int), false))
  (loopK (l0 list to_3 t_8a) fuel (from_1, minute, ([] : List Int)) (e0 ))

set_option maxRecDepth 100000 in
set_option maxHeartbeats 2000000 in
theorem C (fuel : Nat) (list : (List Go.Proofs.Ytlljmgphgmklcaa.PMail.Mail)) (from_1 : Int) (minute : Int) (to_3 : Int) (A0 : Option Addr) (c0 : Nat)  (w : World) (M0 : Hid (Cells w 4 A0 list.length (Go.Proofs.Ytlljmgphgmklcaa.PMail.flat list))) (N0 : Hid (list.length ≤ 9223372036854775807))  {r0 : (List Int)} {r1 : Bool} (H : Hid (P fuel list from_1 minute to_3 = some (r0, r1))) :
    Calls Try.prog 147 #[.slice A0 list.length c0, .int .i64 from_1, .int .i64 minute, .int .i64 to_3] w (fun e w' => ∃ A_r0 c_r0, e = .returned (.tuple #[.slice A_r0 r0.length c_r0, .bool r1]) ∧ w'.ownsRow w.heap.size 3 1 (.slice A_r0 r0.length c_r0) r0.length (Go.Proofs.Ytlljmgphgmklcaa.HelpInt.iv r0) ∧ Below w.heap.size w w') := by
  have HB := Lib.hid (Below.refl w.heap.size w)
  unfold P at H
  have N0o := N0.out
  obtain ⟨i0_3, hi_3, hz0_3, hz1_3, hz2_3⟩ := Aid.info_parts (P := Try.prog) (T := 3) (z := .int .i64 0) (s := 1) (b := 8) (by kernel_rfl)
  go_enter Try.func147, Try.ntmps147
  obtain ⟨w_t_2, hw_t_2⟩ : ∃ x, w.alloc (.cells #[] 3) = x := ⟨_, rfl⟩
  have bw_t_2 : Below w.heap.size w w_t_2 := by rw [← hw_t_2]; exact (Below.refl _ _).alloc (Nat.le_refl _) _
  have Ot_2 : Hid (w_t_2.ownsRow w.heap.size 3 1 (.slice (some ⟨w.heap.size, 0, none⟩) 0 0) 0 []) := Lib.hid (by rw [← hw_t_2]; exact own_empty HB.out.size)
  have HBw_t_2 := Lib.hid (Below.step HB.out bw_t_2)
  clear bw_t_2
  replace H := bind2_hid H
  obtain ⟨t_8a, t_8b, qt_8, H⟩ := H
  go_wp2_with fail
  go_at_call 146
  refine (Go.Proofs.Ytlljmgphgmklcaa.GsEarliestAt.C (list) (from_1) (minute) (to_3) A0 c0 _   (Lib.hid (Cells.below M0.out HBw_t_2.out)) N0 qt_8).mono ?_
  rintro e_t_8 wt_8 ⟨rfl, bt_8⟩
  have HBwt_8 := Lib.hid (Below.step HBw_t_2.out bt_8)
  replace Ot_2 := Lib.hid (own_below Ot_2.out bt_8)
  clear bt_8
  cases t_8b with
  | false =>
    replace H := let_hid H
    obtain ⟨t_15, ht_15, H⟩ := H
    obtain rfl : t_15 = true := ht_15.symm
    replace H := ite_t H
    cases ret_hid H
    go_wp2_with fail
    go_ret2
    exact ⟨(some ⟨w.heap.size, 0, none⟩), 0, rfl, Ot_2.out, HBwt_8.out⟩
  | true =>
    replace H := let_hid H
    obtain ⟨t_15, ht_15, H⟩ := H
    obtain rfl : t_15 = false := ht_15.symm
    replace H := ite_f H
    go_wp2_with fail
    go_loopg [1, 2, 10] (fuel) (fun m_ v1_ v2_ v10_ wr => ∃ (from_1l0 : Int) (minute_2l0 : Int) (out_10l0 : (List Int)) (Aout_10l0 : Option Addr) (cout_10l0 : Nat), v1_ = .int .i64 from_1l0 ∧ v2_ = .int .i64 minute_2l0 ∧ v10_ = .slice Aout_10l0 out_10l0.length cout_10l0 ∧ Hid (loopK (l0 list to_3 t_8a) m_ (from_1l0, minute_2l0, out_10l0) (e0 ) = some (r0, r1)) ∧ Hid (Below w.heap.size w wr) ∧ Hid (wr.ownsRow w.heap.size 3 1 (.slice Aout_10l0 out_10l0.length cout_10l0) out_10l0.length (Go.Proofs.Ytlljmgphgmklcaa.HelpInt.iv out_10l0)))
    case atStart => exact ⟨_, _, _, _, _, rfl, rfl, rfl, H, HBwt_8, Ot_2⟩
    case round =>
      obtain ⟨from_1l0, minute_2l0, out_10l0, Aout_10l0, cout_10l0, rfl, rfl, rfl, H, HBwr0, Oout_10l0⟩ := hrel
      rename World => wr0
      cases gk with
      | zero => exact (loop_zero H).elim
      | succ m0 =>
        replace H := loop_succ H
        unfold l0 at H
        replace H := unp3_hid H
        replace H := let_hid H
        obtain ⟨t_21, ht_21, H⟩ := H
        replace H := join_hid H
        cases t_21 with
        | false =>
          replace H := ite_f H
          replace H := let_hid H
          obtain ⟨t_25, ht_25, H⟩ := H
          replace H := app_hid H
          cases t_25 with
          | false =>
            replace H := ite_f H
            replace H := app_hid H
            unfold e0 at H
            replace H := unp3_hid H
            cases ret_hid H
            go_wp2_with fail
            go_ret2
            exact ⟨Aout_10l0, cout_10l0, rfl, Oout_10l0.out, HBwr0.out⟩
          | true =>
            replace H := ite_t H
            go_wp2_with fail
            go_loopg [13, 1, 2, 10] (list.length) (fun m_ v13_ v1_ v2_ v10_ wr => ∃ (k1 : Nat) (from_1l1 : Int) (minute_2l1 : Int) (out_10l1 : (List Int)) (Aout_10l1 : Option Addr) (cout_10l1 : Nat), k1 + m_ = list.length ∧ v13_ = .int .i64 (k1 : Int) ∧ v1_ = .int .i64 from_1l1 ∧ v2_ = .int .i64 minute_2l1 ∧ v10_ = .slice Aout_10l1 out_10l1.length cout_10l1 ∧ Hid (cntK (l1 list to_3 t_8a) m_ k1 (from_1l1, minute_2l1, out_10l1) (e1 (fun s' => loopK (l0 list to_3 t_8a) m0 s' (e0 ))) = some (r0, r1)) ∧ Hid (Below w.heap.size w wr) ∧ Hid (wr.ownsRow w.heap.size 3 1 (.slice Aout_10l1 out_10l1.length cout_10l1) out_10l1.length (Go.Proofs.Ytlljmgphgmklcaa.HelpInt.iv out_10l1)))
            case atStart => exact ⟨0, _, _, _, _, _, by omega, rfl, rfl, rfl, rfl, H, HBwr0, Oout_10l0⟩
            case round =>
              obtain ⟨k1, from_1l1, minute_2l1, out_10l1, Aout_10l1, cout_10l1, hkm1, rfl, rfl, rfl, rfl, H, HBwr1, Oout_10l1⟩ := hrel
              rename World => wr1
              cases gk with
              | zero =>
                obtain rfl : k1 = list.length := by omega
                have hc1 : decide (((list.length : Nat) : Int) < ((list.length : Nat) : Int)) = false := by simp
                replace H := cnt_zero H
                unfold e1 at H
                replace H := unp3_hid H
                replace H := app_hid H
                go_wp2_with fail
                go_roundg m0
                case measure => omega
                case rel => exact ⟨_, _, _, _, _, rfl, rfl, rfl, H, HBwr1, Oout_10l1⟩
              | succ m1 =>
                have hlt1 : k1 < list.length := by omega
                have hc1 : decide ((k1 : Int) < ((list.length : Nat) : Int)) = true := by simp; omega
                replace H := cnt_succ H
                unfold l1 at H
                replace H := unp3_hid H
                replace H := idx_hid H
                obtain ⟨nt_34, yt_34, et_34, lt_34, gt_34, H⟩ := H
                obtain rfl : k1 = nt_34 := by omega
                clear et_34
                obtain ⟨t_34_leave, t_34_from_, t_34_to_, t_34_arrive⟩ := yt_34
                replace H := unMail_hid H
                obtain ⟨ab_t_34, ao_t_34, zt_34, At_34, z_t_34, ct_34_0, ct_34_1, ct_34_2, ct_34_3⟩ := Go.Proofs.Ytlljmgphgmklcaa.OMail.at_ M0.out lt_34
                obtain rfl := Option.some.inj (gt_34.out.symm.trans z_t_34)
                subst At_34
                have ltt_34 := cell_lt ct_34_0
                replace ct_34_0 := cell_below HBwr1.out ct_34_0
                replace ct_34_1 := cell_below HBwr1.out ct_34_1
                replace ct_34_2 := cell_below HBwr1.out ct_34_2
                replace ct_34_3 := cell_below HBwr1.out ct_34_3
                clear z_t_34
                have b0t_34 : (0 : Int) ≤ (k1 : Int) := by omega
                have b1t_34 : (k1 : Int) < ((list.length : Nat) : Int) := by omega
                have b2t_34 : ((k1 : Int)).toNat = k1 := by omega
                obtain ⟨w_x_36, hw_x_36⟩ : ∃ x, wr1.alloc (.cells #[.int .i64 t_34_leave, .int .i64 t_34_from_, .int .i64 t_34_to_, .int .i64 t_34_arrive] 108) = x := ⟨_, rfl⟩
                have bw_x_36 : Below wr1.heap.size wr1 w_x_36 := by rw [← hw_x_36]; exact (Below.refl _ _).alloc (Nat.le_refl _) _
                have Dx_36_out_10l1 := Lib.hid (apart_fresh Oout_10l1.out)
                have HBw_x_36 := Lib.hid (Below.step HBwr1.out bw_x_36)
                have ct_34_0__395 := cell_below bw_x_36 ct_34_0
                have ct_34_1__396 := cell_below bw_x_36 ct_34_1
                have ct_34_2__397 := cell_below bw_x_36 ct_34_2
                have ct_34_3__398 := cell_below bw_x_36 ct_34_3
                replace Oout_10l1 := Lib.hid (own_below Oout_10l1.out bw_x_36)
                clear bw_x_36
                have kx_36_0 : w_x_36.cell? ⟨wr1.heap.size, 0, none⟩ = some (.int .i64 t_34_leave) := by rw [← hw_x_36]; exact box_new _ _ _ 0 _ rfl
                have kx_36_1 : w_x_36.cell? ⟨wr1.heap.size, 1, none⟩ = some (.int .i64 t_34_from_) := by rw [← hw_x_36]; exact box_new _ _ _ 1 _ rfl
                have kx_36_2 : w_x_36.cell? ⟨wr1.heap.size, 2, none⟩ = some (.int .i64 t_34_to_) := by rw [← hw_x_36]; exact box_new _ _ _ 2 _ rfl
                have kx_36_3 : w_x_36.cell? ⟨wr1.heap.size, 3, none⟩ = some (.int .i64 t_34_arrive) := by rw [← hw_x_36]; exact box_new _ _ _ 3 _ rfl
                replace H := let_hid H
                obtain ⟨t_41, ht_41, H⟩ := H
                replace H := join_hid H
                cases t_41 with
                | false =>
                  replace H := ite_f H
                  replace H := app_hid H
                  replace H := join_hid H
                  replace H := ite_f H
                  replace H := app_hid H
                  replace H := ite_f H
                  replace H := app_hid H
                  go_wp2_with fail
                  clear ct_34_0 ct_34_1 ct_34_2 ct_34_3
                  go_roundg m1
                  case measure => omega
                  case rel => exact ⟨k1 + 1, _, _, _, _, _, by omega, by go_num, rfl, rfl, rfl, H, HBw_x_36, Oout_10l1⟩
                | true =>
                  replace H := ite_t H
                  replace H := let_hid H
                  obtain ⟨t_46, ht_46, H⟩ := H
                  replace H := app_hid H
                  replace H := join_hid H
                  cases t_46 with
                  | false =>
                    replace H := ite_f H
                    replace H := app_hid H
                    replace H := ite_f H
                    replace H := app_hid H
                    go_wp2_with fail
                    clear ct_34_0 ct_34_1 ct_34_2 ct_34_3
                    go_roundg m1
                    case measure => omega
                    case rel => exact ⟨k1 + 1, _, _, _, _, _, by omega, by go_num, rfl, rfl, rfl, H, HBw_x_36, Oout_10l1⟩
                  | true =>
                    replace H := ite_t H
                    replace H := bind_hid H
                    obtain ⟨t_54, qt_54, H⟩ := H
                    go_wp2_with fail
                    clear ct_34_0 ct_34_1 ct_34_2 ct_34_3
                    go_at_call 145
                    refine (Go.Proofs.Ytlljmgphgmklcaa.GsL9Times.C (list) (t_34_to_) (t_34_arrive) (some ⟨ab_t_34, ao_t_34, none⟩) c0 _   (Lib.hid (Cells.below M0.out HBw_x_36.out)) N0 qt_54).mono ?_
                    rintro e_t_54 wt_54 ⟨At_54, ct_54, rfl, ot_54, bt_54⟩
                    have Dt_54_out_10l1 := Lib.hid (apart_call ot_54 Oout_10l1.out)
                    have Dt_54_x_36 := Lib.hid (apart_callbox ot_54 kx_36_0)
                    have Ot_54 := Lib.hid (own_lower ot_54 HBw_x_36.out.size)
                    clear ot_54
                    have HBwt_54 := Lib.hid (Below.step HBw_x_36.out bt_54)
                    replace ct_34_0__395 := cell_below bt_54 ct_34_0__395
                    replace ct_34_1__396 := cell_below bt_54 ct_34_1__396
                    replace ct_34_2__397 := cell_below bt_54 ct_34_2__397
                    replace ct_34_3__398 := cell_below bt_54 ct_34_3__398
                    replace kx_36_0 := cell_below bt_54 kx_36_0
                    replace kx_36_1 := cell_below bt_54 kx_36_1
                    replace kx_36_2 := cell_below bt_54 kx_36_2
                    replace kx_36_3 := cell_below bt_54 kx_36_3
                    replace Oout_10l1 := Lib.hid (own_below Oout_10l1.out bt_54)
                    clear bt_54
                    replace H := idx_hid H
                    obtain ⟨nt_56, yt_56, et_56, lt_56, gt_56, H⟩ := H
                    subst et_56
                    obtain ⟨qt_56, Qt_56⟩ := own_some Ot_54.out (by omega)
                    subst Qt_56
                    obtain ⟨ab_t_56, ao_t_56, zt_56, At_56, z_t_56, ct_56_0⟩ := Go.Proofs.Ytlljmgphgmklcaa.HelpInt.Ints.at_ (own_cells Ot_54.out) (k := nt_56) (by omega)
                    obtain rfl := Option.some.inj (gt_56.out.symm.trans z_t_56)
                    simp only [Option.some.injEq, Addr.mk.injEq] at At_56
                    obtain ⟨rfl, rfl, _⟩ := At_56
                    clear z_t_56
                    simp only [Nat.zero_add] at ct_56_0
                    have b0t_56 : (0 : Int) ≤ (nt_56 : Int) := by omega
                    have b1t_56 : (nt_56 : Int) < ((t_54.length : Nat) : Int) := by omega
                    have b2t_56 : ((nt_56 : Int)).toNat = nt_56 := by omega
                    replace H := let_hid H
                    obtain ⟨t_59, ht_59, H⟩ := H
                    replace H := app_hid H
                    cases t_59 with
                    | false =>
                      replace H := ite_f H
                      replace H := app_hid H
                      go_wp2_with fail
                      go_roundg m1
                      case measure => omega
                      case rel => exact ⟨k1 + 1, _, _, _, _, _, by omega, by go_num, rfl, rfl, rfl, H, HBwt_54, Oout_10l1⟩
                    | true =>
                      replace H := ite_t H
                      obtain ⟨w_t_63, hw_t_63⟩ : ∃ x, wt_54.alloc (.cells #[.int .i64 (k1 : Int)] 3) = x := ⟨_, rfl⟩
                      have bw_t_63 : Below wt_54.heap.size wt_54 w_t_63 := by rw [← hw_t_63]; exact (Below.refl _ _).alloc (Nat.le_refl _) _
                      have HBw_t_63 := Lib.hid (Below.step HBwt_54.out bw_t_63)
                      have ct_34_0__399 := cell_below bw_t_63 ct_34_0__395
                      have ct_34_1__400 := cell_below bw_t_63 ct_34_1__396
                      have ct_34_2__401 := cell_below bw_t_63 ct_34_2__397
                      have ct_34_3__402 := cell_below bw_t_63 ct_34_3__398
                      have kx_36_0__403 := cell_below bw_t_63 kx_36_0
                      have kx_36_1__404 := cell_below bw_t_63 kx_36_1
                      have kx_36_2__405 := cell_below bw_t_63 kx_36_2
                      have kx_36_3__406 := cell_below bw_t_63 kx_36_3
                      have ct_56_0__407 := cell_below bw_t_63 ct_56_0
                      replace Oout_10l1 := Lib.hid (own_below Oout_10l1.out bw_t_63)
                      replace Ot_54 := Lib.hid (own_below Ot_54.out bw_t_63)
                      clear bw_t_63
                      replace H := guard_hid H
                      obtain ⟨hlt_64, H⟩ := H
                      replace H := let_hid H
                      obtain ⟨t_64, ht_64, H⟩ := H
                      have hht_64 := Lib.hid ht_64
                      clear ht_64
                      have hst_64 := HBw_t_63.out.size
                      go_wp2_with (at_builtin; refine wpList_append_own_at _ rfl _ _ 48 rfl w.heap.size 3 i0_3 (.int .i64 0) 1 8 Try.underlying48 hi_3 hz0_3 hz1_3 hz2_3 rfl (by decide) _ _ _ rfl Oout_10l1.out ⟨wt_54.heap.size, 0, none⟩ 1 1 [.int .i64 (k1 : Int)] rfl rfl (news_new hw_t_63) (one_cells rfl) (by unfold maxLen; omega) (by omega) hst_64 ?_; intro vt_64 wt_64 ot_64 gt_64 zt_64 yt_64; clear zt_64; obtain ⟨qt_64, ct_64, rfl, pt_64⟩ := own_push hht_64.out (Go.Proofs.Ytlljmgphgmklcaa.HelpInt.iv_snoc _ _) rfl ot_64; have Pt_64 := Lib.hid pt_64; have Yt_64 := Lib.hid yt_64; have Gt_64 := Lib.hid gt_64; clear ot_64 gt_64 pt_64 yt_64; refine stop_in ?_)
                      refine stop_out ?_
                      have HBwt_64 := Lib.hid (HBw_t_63.out.grown Gt_64.out hst_64 (fun q hq => (Oout_10l1.out.lt q hq).1))
                      clear hst_64
                      have Dt_64_x_36 : Hid (Apart (some ⟨qt_64, 0, none⟩) _) := Lib.hid (apart_app (Apart.symm Dx_36_out_10l1.out) (fun a_ ha_ => by cases ha_; exact cell_lt kx_36_0__403) Yt_64.out)
                      have Dt_64_t_54 : Hid (Apart (some ⟨qt_64, 0, none⟩) _) := Lib.hid (apart_app (Apart.symm Dt_54_out_10l1.out) (fun a_ ha_ => (own_lt Ot_54.out a_ ha_).2) Yt_64.out)
                      replace ct_34_0__399 := cell_other ct_34_0__399 Gt_64.out (apart_old Oout_10l1.out ltt_34)
                      replace ct_34_1__400 := cell_other ct_34_1__400 Gt_64.out (apart_old Oout_10l1.out ltt_34)
                      replace ct_34_2__401 := cell_other ct_34_2__401 Gt_64.out (apart_old Oout_10l1.out ltt_34)
                      replace ct_34_3__402 := cell_other ct_34_3__402 Gt_64.out (apart_old Oout_10l1.out ltt_34)
                      replace kx_36_0__403 := cell_other kx_36_0__403 Gt_64.out (Apart.symm Dx_36_out_10l1.out)
                      replace kx_36_1__404 := cell_other kx_36_1__404 Gt_64.out (Apart.symm Dx_36_out_10l1.out)
                      replace kx_36_2__405 := cell_other kx_36_2__405 Gt_64.out (Apart.symm Dx_36_out_10l1.out)
                      replace kx_36_3__406 := cell_other kx_36_3__406 Gt_64.out (Apart.symm Dx_36_out_10l1.out)
                      replace ct_56_0__407 := cell_other ct_56_0__407 Gt_64.out (Apart.symm Dt_54_out_10l1.out)
                      replace Ot_54 := Lib.hid (own_other Ot_54.out Gt_64.out (Apart.symm Dt_54_out_10l1.out))
                      clear ct_34_0__395 ct_34_1__396 ct_34_2__397 ct_34_3__398 kx_36_0 kx_36_1 kx_36_2 kx_36_3 ct_56_0
                      clear Oout_10l1 Yt_64 Gt_64
                      replace H := app_hid H
                      unfold e1 at H
                      replace H := unp3_hid H
                      replace H := app_hid H
                      go_wp2_with fail
                      go_roundg m0
                      case measure => omega
                      case rel => exact ⟨_, _, _, _, _, rfl, rfl, rfl, H, HBwt_64, Pt_64⟩
        | true =>
          replace H := ite_t H
          replace H := app_hid H
          replace H := ite_t H
          go_wp2_with fail
          go_loopg [13, 1, 2, 10] (list.length) (fun m_ v13_ v1_ v2_ v10_ wr => ∃ (k1 : Nat) (from_1l1 : Int) (minute_2l1 : Int) (out_10l1 : (List Int)) (Aout_10l1 : Option Addr) (cout_10l1 : Nat), k1 + m_ = list.length ∧ v13_ = .int .i64 (k1 : Int) ∧ v1_ = .int .i64 from_1l1 ∧ v2_ = .int .i64 minute_2l1 ∧ v10_ = .slice Aout_10l1 out_10l1.length cout_10l1 ∧ Hid (cntK (l1 list to_3 t_8a) m_ k1 (from_1l1, minute_2l1, out_10l1) (e1 (fun s' => loopK (l0 list to_3 t_8a) m0 s' (e0 ))) = some (r0, r1)) ∧ Hid (Below w.heap.size w wr) ∧ Hid (wr.ownsRow w.heap.size 3 1 (.slice Aout_10l1 out_10l1.length cout_10l1) out_10l1.length (Go.Proofs.Ytlljmgphgmklcaa.HelpInt.iv out_10l1)))
          case atStart => exact ⟨0, _, _, _, _, _, by omega, rfl, rfl, rfl, rfl, H, HBwr0, Oout_10l0⟩
          case round =>
            obtain ⟨k1, from_1l1, minute_2l1, out_10l1, Aout_10l1, cout_10l1, hkm1, rfl, rfl, rfl, rfl, H, HBwr1, Oout_10l1⟩ := hrel
            rename World => wr1
            cases gk with
            | zero =>
              obtain rfl : k1 = list.length := by omega
              have hc1 : decide (((list.length : Nat) : Int) < ((list.length : Nat) : Int)) = false := by simp
              replace H := cnt_zero H
              unfold e1 at H
              replace H := unp3_hid H
              replace H := app_hid H
              go_wp2_with fail
              go_roundg m0
              case measure => omega
              case rel => exact ⟨_, _, _, _, _, rfl, rfl, rfl, H, HBwr1, Oout_10l1⟩
            | succ m1 =>
              have hlt1 : k1 < list.length := by omega
              have hc1 : decide ((k1 : Int) < ((list.length : Nat) : Int)) = true := by simp; omega
              replace H := cnt_succ H
              unfold l1 at H
              replace H := unp3_hid H
              replace H := idx_hid H
              obtain ⟨nt_34, yt_34, et_34, lt_34, gt_34, H⟩ := H
              obtain rfl : k1 = nt_34 := by omega
              clear et_34
              obtain ⟨t_34_leave, t_34_from_, t_34_to_, t_34_arrive⟩ := yt_34
              replace H := unMail_hid H
              obtain ⟨ab_t_34, ao_t_34, zt_34, At_34, z_t_34, ct_34_0, ct_34_1, ct_34_2, ct_34_3⟩ := Go.Proofs.Ytlljmgphgmklcaa.OMail.at_ M0.out lt_34
              obtain rfl := Option.some.inj (gt_34.out.symm.trans z_t_34)
              subst At_34
              have ltt_34 := cell_lt ct_34_0
              replace ct_34_0 := cell_below HBwr1.out ct_34_0
              replace ct_34_1 := cell_below HBwr1.out ct_34_1
              replace ct_34_2 := cell_below HBwr1.out ct_34_2
              replace ct_34_3 := cell_below HBwr1.out ct_34_3
              clear z_t_34
              have b0t_34 : (0 : Int) ≤ (k1 : Int) := by omega
              have b1t_34 : (k1 : Int) < ((list.length : Nat) : Int) := by omega
              have b2t_34 : ((k1 : Int)).toNat = k1 := by omega
              obtain ⟨w_x_36, hw_x_36⟩ : ∃ x, wr1.alloc (.cells #[.int .i64 t_34_leave, .int .i64 t_34_from_, .int .i64 t_34_to_, .int .i64 t_34_arrive] 108) = x := ⟨_, rfl⟩
              have bw_x_36 : Below wr1.heap.size wr1 w_x_36 := by rw [← hw_x_36]; exact (Below.refl _ _).alloc (Nat.le_refl _) _
              have Dx_36_out_10l1 := Lib.hid (apart_fresh Oout_10l1.out)
              have HBw_x_36 := Lib.hid (Below.step HBwr1.out bw_x_36)
              have ct_34_0__408 := cell_below bw_x_36 ct_34_0
              have ct_34_1__409 := cell_below bw_x_36 ct_34_1
              have ct_34_2__410 := cell_below bw_x_36 ct_34_2
              have ct_34_3__411 := cell_below bw_x_36 ct_34_3
              replace Oout_10l1 := Lib.hid (own_below Oout_10l1.out bw_x_36)
              clear bw_x_36
              have kx_36_0 : w_x_36.cell? ⟨wr1.heap.size, 0, none⟩ = some (.int .i64 t_34_leave) := by rw [← hw_x_36]; exact box_new _ _ _ 0 _ rfl
              have kx_36_1 : w_x_36.cell? ⟨wr1.heap.size, 1, none⟩ = some (.int .i64 t_34_from_) := by rw [← hw_x_36]; exact box_new _ _ _ 1 _ rfl
              have kx_36_2 : w_x_36.cell? ⟨wr1.heap.size, 2, none⟩ = some (.int .i64 t_34_to_) := by rw [← hw_x_36]; exact box_new _ _ _ 2 _ rfl
              have kx_36_3 : w_x_36.cell? ⟨wr1.heap.size, 3, none⟩ = some (.int .i64 t_34_arrive) := by rw [← hw_x_36]; exact box_new _ _ _ 3 _ rfl
              replace H := let_hid H
              obtain ⟨t_41, ht_41, H⟩ := H
              replace H := join_hid H
              cases t_41 with
              | false =>
                replace H := ite_f H
                replace H := app_hid H
                replace H := join_hid H
                replace H := ite_f H
                replace H := app_hid H
                replace H := ite_f H
                replace H := app_hid H
                go_wp2_with fail
                clear ct_34_0 ct_34_1 ct_34_2 ct_34_3
                go_roundg m1
                case measure => omega
                case rel => exact ⟨k1 + 1, _, _, _, _, _, by omega, by go_num, rfl, rfl, rfl, H, HBw_x_36, Oout_10l1⟩
              | true =>
                replace H := ite_t H
                replace H := let_hid H
                obtain ⟨t_46, ht_46, H⟩ := H
                replace H := app_hid H
                replace H := join_hid H
                cases t_46 with
                | false =>
                  replace H := ite_f H
                  replace H := app_hid H
                  replace H := ite_f H
                  replace H := app_hid H
                  go_wp2_with fail
                  clear ct_34_0 ct_34_1 ct_34_2 ct_34_3
                  go_roundg m1
                  case measure => omega
                  case rel => exact ⟨k1 + 1, _, _, _, _, _, by omega, by go_num, rfl, rfl, rfl, H, HBw_x_36, Oout_10l1⟩
                | true =>
                  replace H := ite_t H
                  replace H := bind_hid H
                  obtain ⟨t_54, qt_54, H⟩ := H
                  go_wp2_with fail
                  clear ct_34_0 ct_34_1 ct_34_2 ct_34_3
                  go_at_call 145
                  refine (Go.Proofs.Ytlljmgphgmklcaa.GsL9Times.C (list) (t_34_to_) (t_34_arrive) (some ⟨ab_t_34, ao_t_34, none⟩) c0 _   (Lib.hid (Cells.below M0.out HBw_x_36.out)) N0 qt_54).mono ?_
                  rintro e_t_54 wt_54 ⟨At_54, ct_54, rfl, ot_54, bt_54⟩
                  have Dt_54_out_10l1 := Lib.hid (apart_call ot_54 Oout_10l1.out)
                  have Dt_54_x_36 := Lib.hid (apart_callbox ot_54 kx_36_0)
                  have Ot_54 := Lib.hid (own_lower ot_54 HBw_x_36.out.size)
                  clear ot_54
                  have HBwt_54 := Lib.hid (Below.step HBw_x_36.out bt_54)
                  replace ct_34_0__408 := cell_below bt_54 ct_34_0__408
                  replace ct_34_1__409 := cell_below bt_54 ct_34_1__409
                  replace ct_34_2__410 := cell_below bt_54 ct_34_2__410
                  replace ct_34_3__411 := cell_below bt_54 ct_34_3__411
                  replace kx_36_0 := cell_below bt_54 kx_36_0
                  replace kx_36_1 := cell_below bt_54 kx_36_1
                  replace kx_36_2 := cell_below bt_54 kx_36_2
                  replace kx_36_3 := cell_below bt_54 kx_36_3
                  replace Oout_10l1 := Lib.hid (own_below Oout_10l1.out bt_54)
                  clear bt_54
                  replace H := idx_hid H
                  obtain ⟨nt_56, yt_56, et_56, lt_56, gt_56, H⟩ := H
                  subst et_56
                  obtain ⟨qt_56, Qt_56⟩ := own_some Ot_54.out (by omega)
                  subst Qt_56
                  obtain ⟨ab_t_56, ao_t_56, zt_56, At_56, z_t_56, ct_56_0⟩ := Go.Proofs.Ytlljmgphgmklcaa.HelpInt.Ints.at_ (own_cells Ot_54.out) (k := nt_56) (by omega)
                  obtain rfl := Option.some.inj (gt_56.out.symm.trans z_t_56)
                  simp only [Option.some.injEq, Addr.mk.injEq] at At_56
                  obtain ⟨rfl, rfl, _⟩ := At_56
                  clear z_t_56
                  simp only [Nat.zero_add] at ct_56_0
                  have b0t_56 : (0 : Int) ≤ (nt_56 : Int) := by omega
                  have b1t_56 : (nt_56 : Int) < ((t_54.length : Nat) : Int) := by omega
                  have b2t_56 : ((nt_56 : Int)).toNat = nt_56 := by omega
                  replace H := let_hid H
                  obtain ⟨t_59, ht_59, H⟩ := H
                  replace H := app_hid H
                  cases t_59 with
                  | false =>
                    replace H := ite_f H
                    replace H := app_hid H
                    go_wp2_with fail
                    go_roundg m1
                    case measure => omega
                    case rel => exact ⟨k1 + 1, _, _, _, _, _, by omega, by go_num, rfl, rfl, rfl, H, HBwt_54, Oout_10l1⟩
                  | true =>
                    replace H := ite_t H
                    obtain ⟨w_t_63, hw_t_63⟩ : ∃ x, wt_54.alloc (.cells #[.int .i64 (k1 : Int)] 3) = x := ⟨_, rfl⟩
                    have bw_t_63 : Below wt_54.heap.size wt_54 w_t_63 := by rw [← hw_t_63]; exact (Below.refl _ _).alloc (Nat.le_refl _) _
                    have HBw_t_63 := Lib.hid (Below.step HBwt_54.out bw_t_63)
                    have ct_34_0__412 := cell_below bw_t_63 ct_34_0__408
                    have ct_34_1__413 := cell_below bw_t_63 ct_34_1__409
                    have ct_34_2__414 := cell_below bw_t_63 ct_34_2__410
                    have ct_34_3__415 := cell_below bw_t_63 ct_34_3__411
                    have kx_36_0__416 := cell_below bw_t_63 kx_36_0
                    have kx_36_1__417 := cell_below bw_t_63 kx_36_1
                    have kx_36_2__418 := cell_below bw_t_63 kx_36_2
                    have kx_36_3__419 := cell_below bw_t_63 kx_36_3
                    have ct_56_0__420 := cell_below bw_t_63 ct_56_0
                    replace Oout_10l1 := Lib.hid (own_below Oout_10l1.out bw_t_63)
                    replace Ot_54 := Lib.hid (own_below Ot_54.out bw_t_63)
                    clear bw_t_63
                    replace H := guard_hid H
                    obtain ⟨hlt_64, H⟩ := H
                    replace H := let_hid H
                    obtain ⟨t_64, ht_64, H⟩ := H
                    have hht_64 := Lib.hid ht_64
                    clear ht_64
                    have hst_64 := HBw_t_63.out.size
                    go_wp2_with (at_builtin; refine wpList_append_own_at _ rfl _ _ 48 rfl w.heap.size 3 i0_3 (.int .i64 0) 1 8 Try.underlying48 hi_3 hz0_3 hz1_3 hz2_3 rfl (by decide) _ _ _ rfl Oout_10l1.out ⟨wt_54.heap.size, 0, none⟩ 1 1 [.int .i64 (k1 : Int)] rfl rfl (news_new hw_t_63) (one_cells rfl) (by unfold maxLen; omega) (by omega) hst_64 ?_; intro vt_64 wt_64 ot_64 gt_64 zt_64 yt_64; clear zt_64; obtain ⟨qt_64, ct_64, rfl, pt_64⟩ := own_push hht_64.out (Go.Proofs.Ytlljmgphgmklcaa.HelpInt.iv_snoc _ _) rfl ot_64; have Pt_64 := Lib.hid pt_64; have Yt_64 := Lib.hid yt_64; have Gt_64 := Lib.hid gt_64; clear ot_64 gt_64 pt_64 yt_64; refine stop_in ?_)
                    refine stop_out ?_
                    have HBwt_64 := Lib.hid (HBw_t_63.out.grown Gt_64.out hst_64 (fun q hq => (Oout_10l1.out.lt q hq).1))
                    clear hst_64
                    have Dt_64_x_36 : Hid (Apart (some ⟨qt_64, 0, none⟩) _) := Lib.hid (apart_app (Apart.symm Dx_36_out_10l1.out) (fun a_ ha_ => by cases ha_; exact cell_lt kx_36_0__416) Yt_64.out)
                    have Dt_64_t_54 : Hid (Apart (some ⟨qt_64, 0, none⟩) _) := Lib.hid (apart_app (Apart.symm Dt_54_out_10l1.out) (fun a_ ha_ => (own_lt Ot_54.out a_ ha_).2) Yt_64.out)
                    replace ct_34_0__412 := cell_other ct_34_0__412 Gt_64.out (apart_old Oout_10l1.out ltt_34)
                    replace ct_34_1__413 := cell_other ct_34_1__413 Gt_64.out (apart_old Oout_10l1.out ltt_34)
                    replace ct_34_2__414 := cell_other ct_34_2__414 Gt_64.out (apart_old Oout_10l1.out ltt_34)
                    replace ct_34_3__415 := cell_other ct_34_3__415 Gt_64.out (apart_old Oout_10l1.out ltt_34)
                    replace kx_36_0__416 := cell_other kx_36_0__416 Gt_64.out (Apart.symm Dx_36_out_10l1.out)
                    replace kx_36_1__417 := cell_other kx_36_1__417 Gt_64.out (Apart.symm Dx_36_out_10l1.out)
                    replace kx_36_2__418 := cell_other kx_36_2__418 Gt_64.out (Apart.symm Dx_36_out_10l1.out)
                    replace kx_36_3__419 := cell_other kx_36_3__419 Gt_64.out (Apart.symm Dx_36_out_10l1.out)
                    replace ct_56_0__420 := cell_other ct_56_0__420 Gt_64.out (Apart.symm Dt_54_out_10l1.out)
                    replace Ot_54 := Lib.hid (own_other Ot_54.out Gt_64.out (Apart.symm Dt_54_out_10l1.out))
                    clear ct_34_0__408 ct_34_1__409 ct_34_2__410 ct_34_3__411 kx_36_0 kx_36_1 kx_36_2 kx_36_3 ct_56_0
                    clear Oout_10l1 Yt_64 Gt_64
                    replace H := app_hid H
                    unfold e1 at H
                    replace H := unp3_hid H
                    replace H := app_hid H
                    go_wp2_with fail
                    go_roundg m0
                    case measure => omega
                    case rel => exact ⟨_, _, _, _, _, rfl, rfl, rfl, H, HBwt_64, Pt_64⟩
end Go.Proofs.Ytlljmgphgmklcaa.GsBestRoute

/- loop.example/g01062/spec.l10Route as a plain function, and the contract of the program's: where the plain one has an answer, the program has it. Conditions: slices read as lists. -/
namespace Go.Proofs.Ytlljmgphgmklcaa.GsL10Route
set_option linter.unusedVariables false
set_option linter.unusedSimpArgs false
open Go.RowKit
open Go.Proofs.Ytlljmgphgmklcaa.Rowed Go.Proofs.Ytlljmgphgmklcaa.Turn Go.Proofs.Ytlljmgphgmklcaa.Aid Go.Proofs.Ytlljmgphgmklcaa.GoP Go.Proofs.Ytlljmgphgmklcaa.GoM

def P (fuel : Nat) (mails : (List Go.Proofs.Ytlljmgphgmklcaa.PMail.Mail)) (x : Go.Proofs.Ytlljmgphgmklcaa.PCover.Cover) : Option ((List Int) × Bool) :=
  unCover x fun (x_id : Int) (x_day : Int) (x_zone : Int) (x_grams : Int) (x_paid : Int) (x_from_ : Int) (x_to_ : Int) (x_leave : Int) (x_arrive : Int) =>
  bind2 (Go.Proofs.Ytlljmgphgmklcaa.GsEarliestAt.P mails x_from_ x_leave x_to_) fun (t_10a : Int) (t_10b : Bool) =>
  letK (!t_10b) fun (t_17 : Bool) =>
  joinK (fun (t_23 : Bool) =>
  iteK t_23
  (some (([] : List Int), false))
  (bind2 (Go.Proofs.Ytlljmgphgmklcaa.GsBestRoute.P fuel mails x_from_ x_leave x_to_) fun (t_34a : (List Int)) (t_34b : Bool) =>
  some (t_34a, t_34b))) fun jt_23 => iteK t_17 (appK jt_23 true) (letK (decide (x_arrive < t_10a)) fun (t_22 : Bool) =>
  appK jt_23 t_22)

set_option maxRecDepth 100000 in
set_option maxHeartbeats 2000000 in
theorem C (fuel : Nat) (mails : (List Go.Proofs.Ytlljmgphgmklcaa.PMail.Mail)) (x : Go.Proofs.Ytlljmgphgmklcaa.PCover.Cover) (A0 : Option Addr) (c0 : Nat)  (w : World) (M0 : Hid (Cells w 4 A0 mails.length (Go.Proofs.Ytlljmgphgmklcaa.PMail.flat mails))) (N0 : Hid (mails.length ≤ 9223372036854775807))  {r0 : (List Int)} {r1 : Bool} (H : Hid (P fuel mails x = some (r0, r1))) :
    Calls Try.prog 103 #[.slice A0 mails.length c0, x.val] w (fun e w' => ∃ A_r0 c_r0, e = .returned (.tuple #[.slice A_r0 r0.length c_r0, .bool r1]) ∧ w'.ownsRow w.heap.size 3 1 (.slice A_r0 r0.length c_r0) r0.length (Go.Proofs.Ytlljmgphgmklcaa.HelpInt.iv r0) ∧ Below w.heap.size w w') := by
  have HB := Lib.hid (Below.refl w.heap.size w)
  unfold P at H
  obtain ⟨x_id, x_day, x_zone, x_grams, x_paid, x_from_, x_to_, x_leave, x_arrive⟩ := x
  replace H := unCover_hid H
  unfold Go.Proofs.Ytlljmgphgmklcaa.PCover.Cover.val
  have N0o := N0.out
  go_enter Try.func103, Try.ntmps103
  obtain ⟨w_x_0, hw_x_0⟩ : ∃ x, w.alloc (.cells #[.int .i64 x_id, .int .i64 x_day, .int .i64 x_zone, .int .i64 x_grams, .int .i64 x_paid, .int .i64 x_from_, .int .i64 x_to_, .int .i64 x_leave, .int .i64 x_arrive] 25) = x := ⟨_, rfl⟩
  have bw_x_0 : Below w.heap.size w w_x_0 := by rw [← hw_x_0]; exact (Below.refl _ _).alloc (Nat.le_refl _) _
  have HBw_x_0 := Lib.hid (Below.step HB.out bw_x_0)
  clear bw_x_0
  have kx_0_0 : w_x_0.cell? ⟨w.heap.size, 0, none⟩ = some (.int .i64 x_id) := by rw [← hw_x_0]; exact box_new _ _ _ 0 _ rfl
  have kx_0_1 : w_x_0.cell? ⟨w.heap.size, 1, none⟩ = some (.int .i64 x_day) := by rw [← hw_x_0]; exact box_new _ _ _ 1 _ rfl
  have kx_0_2 : w_x_0.cell? ⟨w.heap.size, 2, none⟩ = some (.int .i64 x_zone) := by rw [← hw_x_0]; exact box_new _ _ _ 2 _ rfl
  have kx_0_3 : w_x_0.cell? ⟨w.heap.size, 3, none⟩ = some (.int .i64 x_grams) := by rw [← hw_x_0]; exact box_new _ _ _ 3 _ rfl
  have kx_0_4 : w_x_0.cell? ⟨w.heap.size, 4, none⟩ = some (.int .i64 x_paid) := by rw [← hw_x_0]; exact box_new _ _ _ 4 _ rfl
  have kx_0_5 : w_x_0.cell? ⟨w.heap.size, 5, none⟩ = some (.int .i64 x_from_) := by rw [← hw_x_0]; exact box_new _ _ _ 5 _ rfl
  have kx_0_6 : w_x_0.cell? ⟨w.heap.size, 6, none⟩ = some (.int .i64 x_to_) := by rw [← hw_x_0]; exact box_new _ _ _ 6 _ rfl
  have kx_0_7 : w_x_0.cell? ⟨w.heap.size, 7, none⟩ = some (.int .i64 x_leave) := by rw [← hw_x_0]; exact box_new _ _ _ 7 _ rfl
  have kx_0_8 : w_x_0.cell? ⟨w.heap.size, 8, none⟩ = some (.int .i64 x_arrive) := by rw [← hw_x_0]; exact box_new _ _ _ 8 _ rfl
  replace H := bind2_hid H
  obtain ⟨t_10a, t_10b, qt_10, H⟩ := H
  go_wp2_with fail
  go_at_call 146
  refine (Go.Proofs.Ytlljmgphgmklcaa.GsEarliestAt.C (mails) (x_from_) (x_leave) (x_to_) A0 c0 _   (Lib.hid (Cells.below M0.out HBw_x_0.out)) N0 qt_10).mono ?_
  rintro e_t_10 wt_10 ⟨rfl, bt_10⟩
  have HBwt_10 := Lib.hid (Below.step HBw_x_0.out bt_10)
  replace kx_0_0 := cell_below bt_10 kx_0_0
  replace kx_0_1 := cell_below bt_10 kx_0_1
  replace kx_0_2 := cell_below bt_10 kx_0_2
  replace kx_0_3 := cell_below bt_10 kx_0_3
  replace kx_0_4 := cell_below bt_10 kx_0_4
  replace kx_0_5 := cell_below bt_10 kx_0_5
  replace kx_0_6 := cell_below bt_10 kx_0_6
  replace kx_0_7 := cell_below bt_10 kx_0_7
  replace kx_0_8 := cell_below bt_10 kx_0_8
  clear bt_10
  cases t_10b with
  | false =>
    replace H := let_hid H
    obtain ⟨t_17, ht_17, H⟩ := H
    obtain rfl : t_17 = true := ht_17.symm
    replace H := join_hid H
    replace H := ite_t H
    replace H := app_hid H
    replace H := ite_t H
    obtain ⟨w_t_24, hw_t_24⟩ : ∃ x, wt_10.alloc (.cells #[] 3) = x := ⟨_, rfl⟩
    have bw_t_24 : Below wt_10.heap.size wt_10 w_t_24 := by rw [← hw_t_24]; exact (Below.refl _ _).alloc (Nat.le_refl _) _
    have Ot_24 : Hid (w_t_24.ownsRow w.heap.size 3 1 (.slice (some ⟨wt_10.heap.size, 0, none⟩) 0 0) 0 []) := Lib.hid (by rw [← hw_t_24]; exact own_empty HBwt_10.out.size)
    have Dt_24_x_0 := Lib.hid (apart_box kx_0_0)
    have HBw_t_24 := Lib.hid (Below.step HBwt_10.out bw_t_24)
    have kx_0_0__421 := cell_below bw_t_24 kx_0_0
    have kx_0_1__422 := cell_below bw_t_24 kx_0_1
    have kx_0_2__423 := cell_below bw_t_24 kx_0_2
    have kx_0_3__424 := cell_below bw_t_24 kx_0_3
    have kx_0_4__425 := cell_below bw_t_24 kx_0_4
    have kx_0_5__426 := cell_below bw_t_24 kx_0_5
    have kx_0_6__427 := cell_below bw_t_24 kx_0_6
    have kx_0_7__428 := cell_below bw_t_24 kx_0_7
    have kx_0_8__429 := cell_below bw_t_24 kx_0_8
    clear bw_t_24
    cases ret_hid H
    go_wp2_with fail
    go_ret2
    exact ⟨(some ⟨wt_10.heap.size, 0, none⟩), 0, rfl, Ot_24.out, HBw_t_24.out⟩
  | true =>
    replace H := let_hid H
    obtain ⟨t_17, ht_17, H⟩ := H
    obtain rfl : t_17 = false := ht_17.symm
    replace H := join_hid H
    replace H := ite_f H
    replace H := let_hid H
    obtain ⟨t_22, ht_22, H⟩ := H
    replace H := app_hid H
    cases t_22 with
    | false =>
      replace H := ite_f H
      replace H := bind2_hid H
      obtain ⟨t_34a, t_34b, qt_34, H⟩ := H
      go_wp2_with fail
      go_at_call 147
      refine (Go.Proofs.Ytlljmgphgmklcaa.GsBestRoute.C fuel (mails) (x_from_) (x_leave) (x_to_) A0 c0 _   (Lib.hid (Cells.below M0.out HBwt_10.out)) N0 qt_34).mono ?_
      rintro e_t_34 wt_34 ⟨At_34a, ct_34a, rfl, ot_34a, bt_34⟩
      have Dt_34a_x_0 := Lib.hid (apart_callbox ot_34a kx_0_0)
      have Ot_34a := Lib.hid (own_lower ot_34a HBwt_10.out.size)
      clear ot_34a
      have HBwt_34 := Lib.hid (Below.step HBwt_10.out bt_34)
      replace kx_0_0 := cell_below bt_34 kx_0_0
      replace kx_0_1 := cell_below bt_34 kx_0_1
      replace kx_0_2 := cell_below bt_34 kx_0_2
      replace kx_0_3 := cell_below bt_34 kx_0_3
      replace kx_0_4 := cell_below bt_34 kx_0_4
      replace kx_0_5 := cell_below bt_34 kx_0_5
      replace kx_0_6 := cell_below bt_34 kx_0_6
      replace kx_0_7 := cell_below bt_34 kx_0_7
      replace kx_0_8 := cell_below bt_34 kx_0_8
      clear bt_34
      cases ret_hid H
      go_wp2_with fail
      go_ret2
      exact ⟨At_34a, ct_34a, rfl, Ot_34a.out, HBwt_34.out⟩
    | true =>
      replace H := ite_t H
      obtain ⟨w_t_24, hw_t_24⟩ : ∃ x, wt_10.alloc (.cells #[] 3) = x := ⟨_, rfl⟩
      have bw_t_24 : Below wt_10.heap.size wt_10 w_t_24 := by rw [← hw_t_24]; exact (Below.refl _ _).alloc (Nat.le_refl _) _
      have Ot_24 : Hid (w_t_24.ownsRow w.heap.size 3 1 (.slice (some ⟨wt_10.heap.size, 0, none⟩) 0 0) 0 []) := Lib.hid (by rw [← hw_t_24]; exact own_empty HBwt_10.out.size)
      have Dt_24_x_0 := Lib.hid (apart_box kx_0_0)
      have HBw_t_24 := Lib.hid (Below.step HBwt_10.out bw_t_24)
      have kx_0_0__430 := cell_below bw_t_24 kx_0_0
      have kx_0_1__431 := cell_below bw_t_24 kx_0_1
      have kx_0_2__432 := cell_below bw_t_24 kx_0_2
      have kx_0_3__433 := cell_below bw_t_24 kx_0_3
      have kx_0_4__434 := cell_below bw_t_24 kx_0_4
      have kx_0_5__435 := cell_below bw_t_24 kx_0_5
      have kx_0_6__436 := cell_below bw_t_24 kx_0_6
      have kx_0_7__437 := cell_below bw_t_24 kx_0_7
      have kx_0_8__438 := cell_below bw_t_24 kx_0_8
      clear bw_t_24
      cases ret_hid H
      go_wp2_with fail
      go_ret2
      exact ⟨(some ⟨wt_10.heap.size, 0, none⟩), 0, rfl, Ot_24.out, HBw_t_24.out⟩
end Go.Proofs.Ytlljmgphgmklcaa.GsL10Route

/- loop.example/g01062/spec.RouteOn as a plain function, and the contract of the program's: where the plain one has an answer, the program has it. Conditions: slices read as lists. -/
namespace Go.Proofs.Ytlljmgphgmklcaa.GsRouteOn
set_option linter.unusedVariables false
set_option linter.unusedSimpArgs false
open Go.RowKit
open Go.Proofs.Ytlljmgphgmklcaa.Rowed Go.Proofs.Ytlljmgphgmklcaa.Turn Go.Proofs.Ytlljmgphgmklcaa.Aid Go.Proofs.Ytlljmgphgmklcaa.GoP Go.Proofs.Ytlljmgphgmklcaa.GoM

def P (fuel : Nat) (mails : (List Go.Proofs.Ytlljmgphgmklcaa.PMail.Mail)) (x : Go.Proofs.Ytlljmgphgmklcaa.PCover.Cover) : Option ((List Int) × Bool) :=
  unCover x fun (x_id : Int) (x_day : Int) (x_zone : Int) (x_grams : Int) (x_paid : Int) (x_from_ : Int) (x_to_ : Int) (x_leave : Int) (x_arrive : Int) =>
  Option.bind (Go.Proofs.Ytlljmgphgmklcaa.GsL9Good.P mails) fun (t_4 : Bool) =>
  letK (!t_4) fun (t_5 : Bool) =>
  joinK (fun (t_10 : Bool) =>
  iteK t_10
  (some (([] : List Int), false))
  (bind2 (Go.Proofs.Ytlljmgphgmklcaa.GsL10Route.P fuel mails (Go.Proofs.Ytlljmgphgmklcaa.PCover.Cover.mk x_id x_day x_zone x_grams x_paid x_from_ x_to_ x_leave x_arrive)) fun (t_16a : (List Int)) (t_16b : Bool) =>
  some (t_16a, t_16b))) fun jt_10 => iteK t_5 (appK jt_10 true) (Option.bind (Go.Proofs.Ytlljmgphgmklcaa.GsL10One.P (Go.Proofs.Ytlljmgphgmklcaa.PCover.Cover.mk x_id x_day x_zone x_grams x_paid x_from_ x_to_ x_leave x_arrive)) fun (t_8 : Bool) =>
  letK (!t_8) fun (t_9 : Bool) =>
  appK jt_10 t_9)

set_option maxRecDepth 100000 in
set_option maxHeartbeats 2000000 in
theorem C (fuel : Nat) (mails : (List Go.Proofs.Ytlljmgphgmklcaa.PMail.Mail)) (x : Go.Proofs.Ytlljmgphgmklcaa.PCover.Cover) (A0 : Option Addr) (c0 : Nat)  (w : World) (M0 : Hid (Cells w 4 A0 mails.length (Go.Proofs.Ytlljmgphgmklcaa.PMail.flat mails))) (N0 : Hid (mails.length ≤ 9223372036854775807))  {r0 : (List Int)} {r1 : Bool} (H : Hid (P fuel mails x = some (r0, r1))) :
    Calls Try.prog 45 #[.slice A0 mails.length c0, x.val] w (fun e w' => ∃ A_r0 c_r0, e = .returned (.tuple #[.slice A_r0 r0.length c_r0, .bool r1]) ∧ w'.ownsRow w.heap.size 3 1 (.slice A_r0 r0.length c_r0) r0.length (Go.Proofs.Ytlljmgphgmklcaa.HelpInt.iv r0) ∧ Below w.heap.size w w') := by
  have HB := Lib.hid (Below.refl w.heap.size w)
  unfold P at H
  obtain ⟨x_id, x_day, x_zone, x_grams, x_paid, x_from_, x_to_, x_leave, x_arrive⟩ := x
  replace H := unCover_hid H
  unfold Go.Proofs.Ytlljmgphgmklcaa.PCover.Cover.val
  have N0o := N0.out
  go_enter Try.func45, Try.ntmps45
  obtain ⟨w_x_0, hw_x_0⟩ : ∃ x, w.alloc (.cells #[.int .i64 x_id, .int .i64 x_day, .int .i64 x_zone, .int .i64 x_grams, .int .i64 x_paid, .int .i64 x_from_, .int .i64 x_to_, .int .i64 x_leave, .int .i64 x_arrive] 25) = x := ⟨_, rfl⟩
  have bw_x_0 : Below w.heap.size w w_x_0 := by rw [← hw_x_0]; exact (Below.refl _ _).alloc (Nat.le_refl _) _
  have HBw_x_0 := Lib.hid (Below.step HB.out bw_x_0)
  clear bw_x_0
  have kx_0_0 : w_x_0.cell? ⟨w.heap.size, 0, none⟩ = some (.int .i64 x_id) := by rw [← hw_x_0]; exact box_new _ _ _ 0 _ rfl
  have kx_0_1 : w_x_0.cell? ⟨w.heap.size, 1, none⟩ = some (.int .i64 x_day) := by rw [← hw_x_0]; exact box_new _ _ _ 1 _ rfl
  have kx_0_2 : w_x_0.cell? ⟨w.heap.size, 2, none⟩ = some (.int .i64 x_zone) := by rw [← hw_x_0]; exact box_new _ _ _ 2 _ rfl
  have kx_0_3 : w_x_0.cell? ⟨w.heap.size, 3, none⟩ = some (.int .i64 x_grams) := by rw [← hw_x_0]; exact box_new _ _ _ 3 _ rfl
  have kx_0_4 : w_x_0.cell? ⟨w.heap.size, 4, none⟩ = some (.int .i64 x_paid) := by rw [← hw_x_0]; exact box_new _ _ _ 4 _ rfl
  have kx_0_5 : w_x_0.cell? ⟨w.heap.size, 5, none⟩ = some (.int .i64 x_from_) := by rw [← hw_x_0]; exact box_new _ _ _ 5 _ rfl
  have kx_0_6 : w_x_0.cell? ⟨w.heap.size, 6, none⟩ = some (.int .i64 x_to_) := by rw [← hw_x_0]; exact box_new _ _ _ 6 _ rfl
  have kx_0_7 : w_x_0.cell? ⟨w.heap.size, 7, none⟩ = some (.int .i64 x_leave) := by rw [← hw_x_0]; exact box_new _ _ _ 7 _ rfl
  have kx_0_8 : w_x_0.cell? ⟨w.heap.size, 8, none⟩ = some (.int .i64 x_arrive) := by rw [← hw_x_0]; exact box_new _ _ _ 8 _ rfl
  replace H := bind_hid H
  obtain ⟨t_4, qt_4, H⟩ := H
  go_wp2_with fail
  go_at_call 90
  refine (Go.Proofs.Ytlljmgphgmklcaa.GsL9Good.C (mails) A0 c0 _   (Lib.hid (Cells.below M0.out HBw_x_0.out)) N0 qt_4).mono ?_
  rintro e_t_4 wt_4 ⟨rfl, bt_4⟩
  have HBwt_4 := Lib.hid (Below.step HBw_x_0.out bt_4)
  replace kx_0_0 := cell_below bt_4 kx_0_0
  replace kx_0_1 := cell_below bt_4 kx_0_1
  replace kx_0_2 := cell_below bt_4 kx_0_2
  replace kx_0_3 := cell_below bt_4 kx_0_3
  replace kx_0_4 := cell_below bt_4 kx_0_4
  replace kx_0_5 := cell_below bt_4 kx_0_5
  replace kx_0_6 := cell_below bt_4 kx_0_6
  replace kx_0_7 := cell_below bt_4 kx_0_7
  replace kx_0_8 := cell_below bt_4 kx_0_8
  clear bt_4
  cases t_4 with
  | false =>
    replace H := let_hid H
    obtain ⟨t_5, ht_5, H⟩ := H
    obtain rfl : t_5 = true := ht_5.symm
    replace H := join_hid H
    replace H := ite_t H
    replace H := app_hid H
    replace H := ite_t H
    obtain ⟨w_t_11, hw_t_11⟩ : ∃ x, wt_4.alloc (.cells #[] 3) = x := ⟨_, rfl⟩
    have bw_t_11 : Below wt_4.heap.size wt_4 w_t_11 := by rw [← hw_t_11]; exact (Below.refl _ _).alloc (Nat.le_refl _) _
    have Ot_11 : Hid (w_t_11.ownsRow w.heap.size 3 1 (.slice (some ⟨wt_4.heap.size, 0, none⟩) 0 0) 0 []) := Lib.hid (by rw [← hw_t_11]; exact own_empty HBwt_4.out.size)
    have Dt_11_x_0 := Lib.hid (apart_box kx_0_0)
    have HBw_t_11 := Lib.hid (Below.step HBwt_4.out bw_t_11)
    have kx_0_0__953 := cell_below bw_t_11 kx_0_0
    have kx_0_1__954 := cell_below bw_t_11 kx_0_1
    have kx_0_2__955 := cell_below bw_t_11 kx_0_2
    have kx_0_3__956 := cell_below bw_t_11 kx_0_3
    have kx_0_4__957 := cell_below bw_t_11 kx_0_4
    have kx_0_5__958 := cell_below bw_t_11 kx_0_5
    have kx_0_6__959 := cell_below bw_t_11 kx_0_6
    have kx_0_7__960 := cell_below bw_t_11 kx_0_7
    have kx_0_8__961 := cell_below bw_t_11 kx_0_8
    clear bw_t_11
    cases ret_hid H
    go_wp2_with fail
    go_ret2
    exact ⟨(some ⟨wt_4.heap.size, 0, none⟩), 0, rfl, Ot_11.out, HBw_t_11.out⟩
  | true =>
    replace H := let_hid H
    obtain ⟨t_5, ht_5, H⟩ := H
    obtain rfl : t_5 = false := ht_5.symm
    replace H := join_hid H
    replace H := ite_f H
    replace H := bind_hid H
    obtain ⟨t_8, qt_8, H⟩ := H
    go_wp2_with fail
    go_at_call 77
    refine (Go.Proofs.Ytlljmgphgmklcaa.GsL10One.C ((Go.Proofs.Ytlljmgphgmklcaa.PCover.Cover.mk x_id x_day x_zone x_grams x_paid x_from_ x_to_ x_leave x_arrive))  _    qt_8).mono ?_
    rintro e_t_8 wt_8 ⟨rfl, bt_8⟩
    have HBwt_8 := Lib.hid (Below.step HBwt_4.out bt_8)
    replace kx_0_0 := cell_below bt_8 kx_0_0
    replace kx_0_1 := cell_below bt_8 kx_0_1
    replace kx_0_2 := cell_below bt_8 kx_0_2
    replace kx_0_3 := cell_below bt_8 kx_0_3
    replace kx_0_4 := cell_below bt_8 kx_0_4
    replace kx_0_5 := cell_below bt_8 kx_0_5
    replace kx_0_6 := cell_below bt_8 kx_0_6
    replace kx_0_7 := cell_below bt_8 kx_0_7
    replace kx_0_8 := cell_below bt_8 kx_0_8
    clear bt_8
    cases t_8 with
    | false =>
      replace H := let_hid H
      obtain ⟨t_9, ht_9, H⟩ := H
      obtain rfl : t_9 = true := ht_9.symm
      replace H := app_hid H
      replace H := ite_t H
      obtain ⟨w_t_11, hw_t_11⟩ : ∃ x, wt_8.alloc (.cells #[] 3) = x := ⟨_, rfl⟩
      have bw_t_11 : Below wt_8.heap.size wt_8 w_t_11 := by rw [← hw_t_11]; exact (Below.refl _ _).alloc (Nat.le_refl _) _
      have Ot_11 : Hid (w_t_11.ownsRow w.heap.size 3 1 (.slice (some ⟨wt_8.heap.size, 0, none⟩) 0 0) 0 []) := Lib.hid (by rw [← hw_t_11]; exact own_empty HBwt_8.out.size)
      have Dt_11_x_0 := Lib.hid (apart_box kx_0_0)
      have HBw_t_11 := Lib.hid (Below.step HBwt_8.out bw_t_11)
      have kx_0_0__962 := cell_below bw_t_11 kx_0_0
      have kx_0_1__963 := cell_below bw_t_11 kx_0_1
      have kx_0_2__964 := cell_below bw_t_11 kx_0_2
      have kx_0_3__965 := cell_below bw_t_11 kx_0_3
      have kx_0_4__966 := cell_below bw_t_11 kx_0_4
      have kx_0_5__967 := cell_below bw_t_11 kx_0_5
      have kx_0_6__968 := cell_below bw_t_11 kx_0_6
      have kx_0_7__969 := cell_below bw_t_11 kx_0_7
      have kx_0_8__970 := cell_below bw_t_11 kx_0_8
      clear bw_t_11
      cases ret_hid H
      go_wp2_with fail
      go_ret2
      exact ⟨(some ⟨wt_8.heap.size, 0, none⟩), 0, rfl, Ot_11.out, HBw_t_11.out⟩
    | true =>
      replace H := let_hid H
      obtain ⟨t_9, ht_9, H⟩ := H
      obtain rfl : t_9 = false := ht_9.symm
      replace H := app_hid H
      replace H := ite_f H
      replace H := bind2_hid H
      obtain ⟨t_16a, t_16b, qt_16, H⟩ := H
      go_wp2_with fail
      go_at_call 103
      refine (Go.Proofs.Ytlljmgphgmklcaa.GsL10Route.C fuel (mails) ((Go.Proofs.Ytlljmgphgmklcaa.PCover.Cover.mk x_id x_day x_zone x_grams x_paid x_from_ x_to_ x_leave x_arrive)) A0 c0 _   (Lib.hid (Cells.below M0.out HBwt_8.out)) N0 qt_16).mono ?_
      rintro e_t_16 wt_16 ⟨At_16a, ct_16a, rfl, ot_16a, bt_16⟩
      have Dt_16a_x_0 := Lib.hid (apart_callbox ot_16a kx_0_0)
      have Ot_16a := Lib.hid (own_lower ot_16a HBwt_8.out.size)
      clear ot_16a
      have HBwt_16 := Lib.hid (Below.step HBwt_8.out bt_16)
      replace kx_0_0 := cell_below bt_16 kx_0_0
      replace kx_0_1 := cell_below bt_16 kx_0_1
      replace kx_0_2 := cell_below bt_16 kx_0_2
      replace kx_0_3 := cell_below bt_16 kx_0_3
      replace kx_0_4 := cell_below bt_16 kx_0_4
      replace kx_0_5 := cell_below bt_16 kx_0_5
      replace kx_0_6 := cell_below bt_16 kx_0_6
      replace kx_0_7 := cell_below bt_16 kx_0_7
      replace kx_0_8 := cell_below bt_16 kx_0_8
      clear bt_16
      cases ret_hid H
      go_wp2_with fail
      go_ret2
      exact ⟨At_16a, ct_16a, rfl, Ot_16a.out, HBwt_16.out⟩
end Go.Proofs.Ytlljmgphgmklcaa.GsRouteOn

/- loop.example/g01062/impl.EarliestAt as a plain function, and the contract of the program's: where the plain one has an answer, the program has it. Conditions: slices read as lists. -/
namespace Go.Proofs.Ytlljmgphgmklcaa.GiEarliestAt
set_option linter.unusedVariables false
set_option linter.unusedSimpArgs false
open Go.RowKit
open Go.Proofs.Ytlljmgphgmklcaa.Rowed Go.Proofs.Ytlljmgphgmklcaa.Turn Go.Proofs.Ytlljmgphgmklcaa.Aid Go.Proofs.Ytlljmgphgmklcaa.GoP Go.Proofs.Ytlljmgphgmklcaa.GoM

def P (list : (List Go.Proofs.Ytlljmgphgmklcaa.PMail.Mail)) (from_1 : Int) (minute : Int) (to_3 : Int) : Option (Int × Bool) :=
  Option.bind (Go.Proofs.Ytlljmgphgmklcaa.GiCanBegin.P list from_1 minute) fun (t_5 : Bool) =>
  letK (!t_5) fun (t_6 : Bool) =>
  joinK (fun (t_11 : Bool) =>
  iteK t_11
  (some (0, false))
  (Option.bind (Go.Proofs.Ytlljmgphgmklcaa.GiEarliestMinutes.P list from_1 minute) fun (t_17 : Go.Proofs.Ytlljmgphgmklcaa.PIntA10.IntA10) =>
  unIntA10 t_17 fun (t_17_x0 : Int) (t_17_x1 : Int) (t_17_x2 : Int) (t_17_x3 : Int) (t_17_x4 : Int) (t_17_x5 : Int) (t_17_x6 : Int) (t_17_x7 : Int) (t_17_x8 : Int) (t_17_x9 : Int) =>
  Option.bind (idx [t_17_x0, t_17_x1, t_17_x2, t_17_x3, t_17_x4, t_17_x5, t_17_x6, t_17_x7, t_17_x8, t_17_x9] to_3) fun (yt_19 : Int) =>
  letK (yt_19 == 10000) fun (t_22 : Bool) =>
  iteK t_22
  (some (0, false))
  (some (yt_19, true)))) fun jt_11 => iteK t_6 (appK jt_11 true) (Option.bind (Go.Proofs.Ytlljmgphgmklcaa.GiIsPostOffice.P to_3) fun (t_9 : Bool) =>
  letK (!t_9) fun (t_10 : Bool) =>
  appK jt_11 t_10)

set_option maxRecDepth 100000 in
set_option maxHeartbeats 2000000 in
theorem C (list : (List Go.Proofs.Ytlljmgphgmklcaa.PMail.Mail)) (from_1 : Int) (minute : Int) (to_3 : Int) (A0 : Option Addr) (c0 : Nat)  (w : World) (M0 : Hid (Cells w 4 A0 list.length (Go.Proofs.Ytlljmgphgmklcaa.PMail.flat list))) (N0 : Hid (list.length ≤ 9223372036854775807))  {r0 : Int} {r1 : Bool} (H : Hid (P list from_1 minute to_3 = some (r0, r1))) :
    Calls Try.prog 151 #[.slice A0 list.length c0, .int .i64 from_1, .int .i64 minute, .int .i64 to_3] w (Gives (.tuple #[.int .i64 r0, .bool r1]) w) := by
  have HB := Lib.hid (Below.refl w.heap.size w)
  unfold P at H
  have N0o := N0.out
  go_enter Try.func151, Try.ntmps151
  replace H := bind_hid H
  obtain ⟨t_5, qt_5, H⟩ := H
  go_wp2_with fail
  go_at_call 117
  refine (Go.Proofs.Ytlljmgphgmklcaa.GiCanBegin.C (list) (from_1) (minute) A0 c0 _   (Lib.hid (Cells.below M0.out HB.out)) N0 qt_5).mono ?_
  rintro e_t_5 wt_5 ⟨rfl, bt_5⟩
  have HBwt_5 := Lib.hid (Below.step HB.out bt_5)
  clear bt_5
  cases t_5 with
  | false =>
    replace H := let_hid H
    obtain ⟨t_6, ht_6, H⟩ := H
    obtain rfl : t_6 = true := ht_6.symm
    replace H := join_hid H
    replace H := ite_t H
    replace H := app_hid H
    replace H := ite_t H
    cases ret_hid H
    go_wp2_with fail
    go_ret2
    exact ⟨rfl, HBwt_5.out⟩
  | true =>
    replace H := let_hid H
    obtain ⟨t_6, ht_6, H⟩ := H
    obtain rfl : t_6 = false := ht_6.symm
    replace H := join_hid H
    replace H := ite_f H
    replace H := bind_hid H
    obtain ⟨t_9, qt_9, H⟩ := H
    go_wp2_with fail
    go_at_call 83
    refine (Go.Proofs.Ytlljmgphgmklcaa.GiIsPostOffice.C (to_3)  _    qt_9).mono ?_
    rintro e_t_9 wt_9 ⟨rfl, bt_9⟩
    have HBwt_9 := Lib.hid (Below.step HBwt_5.out bt_9)
    clear bt_9
    cases t_9 with
    | false =>
      replace H := let_hid H
      obtain ⟨t_10, ht_10, H⟩ := H
      obtain rfl : t_10 = true := ht_10.symm
      replace H := app_hid H
      replace H := ite_t H
      cases ret_hid H
      go_wp2_with fail
      go_ret2
      exact ⟨rfl, HBwt_9.out⟩
    | true =>
      replace H := let_hid H
      obtain ⟨t_10, ht_10, H⟩ := H
      obtain rfl : t_10 = false := ht_10.symm
      replace H := app_hid H
      replace H := ite_f H
      replace H := bind_hid H
      obtain ⟨t_17, qt_17, H⟩ := H
      obtain ⟨t_17_x0, t_17_x1, t_17_x2, t_17_x3, t_17_x4, t_17_x5, t_17_x6, t_17_x7, t_17_x8, t_17_x9⟩ := t_17
      replace H := unIntA10_hid H
      go_wp2_with fail
      go_at_call 150
      refine (Go.Proofs.Ytlljmgphgmklcaa.GiEarliestMinutes.C (list) (from_1) (minute) A0 c0 _   (Lib.hid (Cells.below M0.out HBwt_9.out)) N0 qt_17).mono ?_
      rintro e_t_17 wt_17 ⟨rfl, bt_17⟩
      unfold Go.Proofs.Ytlljmgphgmklcaa.PIntA10.IntA10.val
      have HBwt_17 := Lib.hid (Below.step HBwt_9.out bt_17)
      clear bt_17
      replace H := idx_hid H
      obtain ⟨nt_19, yt_19, et_19, lt_19, gt_19, H⟩ := H
      subst et_19
      have it_19 : ∀ w, (Instr.index 121 (.agg #[.int .i64 t_17_x0, .int .i64 t_17_x1, .int .i64 t_17_x2, .int .i64 t_17_x3, .int .i64 t_17_x4, .int .i64 t_17_x5, .int .i64 t_17_x6, .int .i64 t_17_x7, .int .i64 t_17_x8, .int .i64 t_17_x9]) (.int .i64 (nt_19 : Int))).run Try.prog w = .ok (.int .i64 yt_19) w := by
        intro w
        have hl := lt_19
        have hg := gt_19.out
        clear gt_19 H
        rcases nt_19 with _ | _ | _ | _ | _ | _ | _ | _ | _ | _ | _
        · obtain rfl := Option.some.inj hg; rfl
        · obtain rfl := Option.some.inj hg; rfl
        · obtain rfl := Option.some.inj hg; rfl
        · obtain rfl := Option.some.inj hg; rfl
        · obtain rfl := Option.some.inj hg; rfl
        · obtain rfl := Option.some.inj hg; rfl
        · obtain rfl := Option.some.inj hg; rfl
        · obtain rfl := Option.some.inj hg; rfl
        · obtain rfl := Option.some.inj hg; rfl
        · obtain rfl := Option.some.inj hg; rfl
        · simp at hl; omega
      replace H := let_hid H
      obtain ⟨t_22, ht_22, H⟩ := H
      cases t_22 with
      | false =>
        replace H := ite_f H
        cases ret_hid H
        go_wp2_with fail
        go_ret2
        exact ⟨rfl, HBwt_17.out⟩
      | true =>
        replace H := ite_t H
        cases ret_hid H
        go_wp2_with fail
        go_ret2
        exact ⟨rfl, HBwt_17.out⟩
end Go.Proofs.Ytlljmgphgmklcaa.GiEarliestAt

/- loop.example/g01062/impl.canTake as a plain function, and the contract of the program's: where the plain one has an answer, the program has it. Conditions: slices read as lists. -/
namespace Go.Proofs.Ytlljmgphgmklcaa.GiCanTake
set_option linter.unusedVariables false
set_option linter.unusedSimpArgs false
open Go.RowKit
open Go.Proofs.Ytlljmgphgmklcaa.Rowed Go.Proofs.Ytlljmgphgmklcaa.Turn Go.Proofs.Ytlljmgphgmklcaa.Aid Go.Proofs.Ytlljmgphgmklcaa.GoP Go.Proofs.Ytlljmgphgmklcaa.GoM

def P (x : Go.Proofs.Ytlljmgphgmklcaa.PMail.Mail) (office : Int) (minute : Int) : Option (Bool) :=
  unMail x fun (x_leave : Int) (x_from_ : Int) (x_to_ : Int) (x_arrive : Int) =>
  letK (x_from_ == office) fun (t_5 : Bool) =>
  joinK (fun (t_11 : Bool) =>
  some t_11) fun jt_11 => iteK t_5 (letK (decide (minute ≤ x_leave)) fun (t_10 : Bool) =>
  appK jt_11 t_10) (appK jt_11 false)

set_option maxRecDepth 100000 in
set_option maxHeartbeats 2000000 in
theorem C (x : Go.Proofs.Ytlljmgphgmklcaa.PMail.Mail) (office : Int) (minute : Int)   (w : World)   {r : Bool} (H : Hid (P x office minute = some r)) :
    Calls Try.prog 118 #[x.val, .int .i64 office, .int .i64 minute] w (Gives (.bool r) w) := by
  have HB := Lib.hid (Below.refl w.heap.size w)
  unfold P at H
  obtain ⟨x_leave, x_from_, x_to_, x_arrive⟩ := x
  replace H := unMail_hid H
  unfold Go.Proofs.Ytlljmgphgmklcaa.PMail.Mail.val
  go_enter Try.func118, Try.ntmps118
  obtain ⟨w_x_0, hw_x_0⟩ : ∃ x, w.alloc (.cells #[.int .i64 x_leave, .int .i64 x_from_, .int .i64 x_to_, .int .i64 x_arrive] 108) = x := ⟨_, rfl⟩
  have bw_x_0 : Below w.heap.size w w_x_0 := by rw [← hw_x_0]; exact (Below.refl _ _).alloc (Nat.le_refl _) _
  have HBw_x_0 := Lib.hid (Below.step HB.out bw_x_0)
  clear bw_x_0
  have kx_0_0 : w_x_0.cell? ⟨w.heap.size, 0, none⟩ = some (.int .i64 x_leave) := by rw [← hw_x_0]; exact box_new _ _ _ 0 _ rfl
  have kx_0_1 : w_x_0.cell? ⟨w.heap.size, 1, none⟩ = some (.int .i64 x_from_) := by rw [← hw_x_0]; exact box_new _ _ _ 1 _ rfl
  have kx_0_2 : w_x_0.cell? ⟨w.heap.size, 2, none⟩ = some (.int .i64 x_to_) := by rw [← hw_x_0]; exact box_new _ _ _ 2 _ rfl
  have kx_0_3 : w_x_0.cell? ⟨w.heap.size, 3, none⟩ = some (.int .i64 x_arrive) := by rw [← hw_x_0]; exact box_new _ _ _ 3 _ rfl
  replace H := let_hid H
  obtain ⟨t_5, ht_5, H⟩ := H
  replace H := join_hid H
  cases t_5 with
  | false =>
    replace H := ite_f H
    replace H := app_hid H
    obtain rfl := ret_hid H
    go_wp2_with fail
    go_ret
    exact ⟨rfl, HBw_x_0.out⟩
  | true =>
    replace H := ite_t H
    replace H := let_hid H
    obtain ⟨t_10, ht_10, H⟩ := H
    replace H := app_hid H
    obtain rfl := ret_hid H
    go_wp2_with fail
    go_ret
    exact ⟨rfl, HBw_x_0.out⟩
end Go.Proofs.Ytlljmgphgmklcaa.GiCanTake

/- loop.example/g01062/impl.firstRoute as a plain function, and the contract of the program's: where the plain one has an answer, the program has it. Conditions: slices read as lists. -/
namespace Go.Proofs.Ytlljmgphgmklcaa.GiFirstRoute
set_option linter.unusedVariables false
set_option linter.unusedSimpArgs false
open Go.RowKit
open Go.Proofs.Ytlljmgphgmklcaa.Rowed Go.Proofs.Ytlljmgphgmklcaa.Turn Go.Proofs.Ytlljmgphgmklcaa.Aid Go.Proofs.Ytlljmgphgmklcaa.GoP Go.Proofs.Ytlljmgphgmklcaa.GoM

def l1 (list : (List Go.Proofs.Ytlljmgphgmklcaa.PMail.Mail)) (vlatest_0 : (List Int)) (nx0 : (Int × Int × (List Int)) → Option ((List Int))) (k1 : Nat) (s : Int × Int × (List Int)) (nx1 bk1 : Int × Int × (List Int) → Option ((List Int))) : Option ((List Int)) :=
  unp3 s fun office_1l1 minute_2l1 route_9l1 =>
  Option.bind (idx list (k1 : Int)) fun (yt_9 : Go.Proofs.Ytlljmgphgmklcaa.PMail.Mail) =>
  unMail yt_9 fun (t_9_leave : Int) (t_9_from_ : Int) (t_9_to_ : Int) (t_9_arrive : Int) =>
  Option.bind (Go.Proofs.Ytlljmgphgmklcaa.GiCanTake.P (Go.Proofs.Ytlljmgphgmklcaa.PMail.Mail.mk t_9_leave t_9_from_ t_9_to_ t_9_arrive) office_1l1 minute_2l1) fun (t_17 : Bool) =>
  joinK (fun (t_26 : Bool) =>
  iteK t_26
  (guardK (route_9l1.length ≤ 1099511627776) <|
  letK (route_9l1 ++ [(k1 : Int)]) fun (t_30 : (List Int)) =>
  appK nx0 (t_9_to_, t_9_arrive, t_30))
  (appK nx1 (office_1l1, minute_2l1, route_9l1))) fun jt_26 => iteK t_17 (Option.bind (idx vlatest_0 t_9_to_) fun (yt_23 : Int) =>
  letK (decide (t_9_arrive ≤ yt_23)) fun (t_25 : Bool) =>
  appK jt_26 t_25) (appK jt_26 false)

def e1  (s : Int × Int × (List Int)) : Option ((List Int)) :=
  unp3 s fun office_1l1 minute_2l1 route_9l1 =>
  some route_9l1

def l0 (list : (List Go.Proofs.Ytlljmgphgmklcaa.PMail.Mail)) (vlatest_0 : (List Int)) (s : Int × Int × (List Int)) (nx0 bk0 : Int × Int × (List Int) → Option ((List Int))) : Option ((List Int)) :=
  unp3 s fun office_1l0 minute_2l0 route_9l0 =>
  cntK (l1 list vlatest_0 nx0) (list.length) 0 (office_1l0, minute_2l0, route_9l0) (e1 )

def e0  (s : Int × Int × (List Int)) : Option ((List Int)) :=
  unp3 s fun office_1l0 minute_2l0 route_9l0 =>
  some []

def P (fuel : Nat) (list : (List Go.Proofs.Ytlljmgphgmklcaa.PMail.Mail)) (office : Int) (minute : Int) (latest : Go.Proofs.Ytlljmgphgmklcaa.PIntA10.IntA10) : Option ((List Int)) :=
  unIntA10 latest fun (latest_x0 : Int) (latest_x1 : Int) (latest_x2 : Int) (latest_x3 : Int) (latest_x4 : Int) (latest_x5 : Int) (latest_x6 : Int) (latest_x7 : Int) (latest_x8 : Int) (latest_x9 : Int) =>
  letK ([latest_x0, latest_x1, latest_x2, latest_x3, latest_x4, latest_x5, latest_x6, latest_x7, latest_x8, latest_x9]) fun (vlatest_0 : (List Int)) =>
  loopK (l0 list vlatest_0) fuel (office, minute, ([] : List Int)) (e0 )

set_option maxRecDepth 100000 in
set_option maxHeartbeats 2000000 in
theorem C (fuel : Nat) (list : (List Go.Proofs.Ytlljmgphgmklcaa.PMail.Mail)) (office : Int) (minute : Int) (latest : Go.Proofs.Ytlljmgphgmklcaa.PIntA10.IntA10) (A0 : Option Addr) (c0 : Nat)  (w : World) (M0 : Hid (Cells w 4 A0 list.length (Go.Proofs.Ytlljmgphgmklcaa.PMail.flat list))) (N0 : Hid (list.length ≤ 9223372036854775807))  {r : (List Int)} (H : Hid (P fuel list office minute latest = some r)) :
    Calls Try.prog 152 #[.slice A0 list.length c0, .int .i64 office, .int .i64 minute, latest.val] w (fun e w' => ∃ A_r c_r, e = .returned (.slice A_r r.length c_r) ∧ w'.ownsRow w.heap.size 3 1 (.slice A_r r.length c_r) r.length (Go.Proofs.Ytlljmgphgmklcaa.HelpInt.iv r) ∧ Below w.heap.size w w') := by
  have HB := Lib.hid (Below.refl w.heap.size w)
  unfold P at H
  obtain ⟨latest_x0, latest_x1, latest_x2, latest_x3, latest_x4, latest_x5, latest_x6, latest_x7, latest_x8, latest_x9⟩ := latest
  replace H := unIntA10_hid H
  unfold Go.Proofs.Ytlljmgphgmklcaa.PIntA10.IntA10.val
  have N0o := N0.out
  obtain ⟨i0_3, hi_3, hz0_3, hz1_3, hz2_3⟩ := Aid.info_parts (P := Try.prog) (T := 3) (z := .int .i64 0) (s := 1) (b := 8) (by kernel_rfl)
  go_enter Try.func152, Try.ntmps152
  replace H := let_hid H
  obtain ⟨vlatest_0, hvlatest_0, H⟩ := H
  obtain ⟨w_latest_0, hw_latest_0⟩ : ∃ x, w.alloc (.cells #[.int .i64 latest_x0, .int .i64 latest_x1, .int .i64 latest_x2, .int .i64 latest_x3, .int .i64 latest_x4, .int .i64 latest_x5, .int .i64 latest_x6, .int .i64 latest_x7, .int .i64 latest_x8, .int .i64 latest_x9] 121) = x := ⟨_, rfl⟩
  have bw_latest_0 : Below w.heap.size w w_latest_0 := by rw [← hw_latest_0]; exact (Below.refl _ _).alloc (Nat.le_refl _) _
  have hs_latest_0 := HB.out.size
  have nlatest_0 : vlatest_0.length = 10 := by rw [← hvlatest_0]; rfl
  have Olatest_0 : Hid (w_latest_0.ownsRow w.heap.size 121 1 (.slice (some ⟨w.heap.size, 0, none⟩) 10 10) 10 (Go.Proofs.Ytlljmgphgmklcaa.HelpInt.iv vlatest_0)) := by
    rw [← hw_latest_0, ← hvlatest_0]
    have e_ : ([.int .i64 latest_x0, .int .i64 latest_x1, .int .i64 latest_x2, .int .i64 latest_x3, .int .i64 latest_x4, .int .i64 latest_x5, .int .i64 latest_x6, .int .i64 latest_x7, .int .i64 latest_x8, .int .i64 latest_x9] : List Value) = Go.Proofs.Ytlljmgphgmklcaa.HelpInt.iv [latest_x0, latest_x1, latest_x2, latest_x3, latest_x4, latest_x5, latest_x6, latest_x7, latest_x8, latest_x9] := rfl
    exact Lib.hid (own_laid (n := 10) hs_latest_0 e_ rfl (by unfold maxLen; omega))
  clear hs_latest_0
  have hhlatest_0 := Lib.hid hvlatest_0
  clear hvlatest_0
  replace nlatest_0 := Lib.hid nlatest_0
  have HBw_latest_0 := Lib.hid (Below.step HB.out bw_latest_0)
  clear bw_latest_0
  go_wp2_with fail
  refine Go.Proofs.Ytlljmgphgmklcaa.GoA.wp_scope_goto (l := 0) rfl ?_
  intro Kg_ hKg_
  obtain ⟨w_t_2, hw_t_2⟩ : ∃ x, w_latest_0.alloc (.cells #[] 3) = x := ⟨_, rfl⟩
  have bw_t_2 : Below w_latest_0.heap.size w_latest_0 w_t_2 := by rw [← hw_t_2]; exact (Below.refl _ _).alloc (Nat.le_refl _) _
  have Ot_2 : Hid (w_t_2.ownsRow w.heap.size 3 1 (.slice (some ⟨w_latest_0.heap.size, 0, none⟩) 0 0) 0 []) := Lib.hid (by rw [← hw_t_2]; exact own_empty HBw_latest_0.out.size)
  have Dt_2_latest_0 := Lib.hid (apart_fresh Olatest_0.out)
  have HBw_t_2 := Lib.hid (Below.step HBw_latest_0.out bw_t_2)
  replace Olatest_0 := Lib.hid (own_below Olatest_0.out bw_t_2)
  clear bw_t_2
  go_wp2_with fail
  try refine hKg_ _ _ ?_
  refine Go.Proofs.Ytlljmgphgmklcaa.GoA.jumps_intro [false, true, true, false, false, false, false, false, true, true, true, true, false, true, true, true, true, true, true, true, true, true, true, true, true, true, true, true, true, true, true, true, true, true, true, true, true, true, true, true, true, true, true] fuel (fun m_ u_ wr => (fun m_ v1_ v2_ v9_ wr => ∃ (office_1l0 : Int) (minute_2l0 : Int) (route_9l0 : (List Int)) (Aroute_9l0 : Option Addr) (croute_9l0 : Nat), v1_ = .int .i64 office_1l0 ∧ v2_ = .int .i64 minute_2l0 ∧ v9_ = .slice Aroute_9l0 route_9l0.length croute_9l0 ∧ Hid (loopK (l0 list vlatest_0) m_ (office_1l0, minute_2l0, route_9l0) (e0 ) = some r) ∧ Hid (Below w.heap.size w wr) ∧ Hid (wr.ownsRow w.heap.size 3 1 (.slice Aroute_9l0 route_9l0.length croute_9l0) route_9l0.length (Go.Proofs.Ytlljmgphgmklcaa.HelpInt.iv route_9l0)) ∧ Hid (wr.ownsRow w.heap.size 121 1 (.slice (some ⟨w.heap.size, 0, none⟩) 10 10) 10 (Go.Proofs.Ytlljmgphgmklcaa.HelpInt.iv vlatest_0)) ∧ Hid (Apart Aroute_9l0 (some ⟨w.heap.size, 0, none⟩))) m_ (u_ 1) (u_ 2) (u_ 9) wr) ?atStart ?round
  case atStart => exact ⟨_, _, _, _, _, rfl, rfl, rfl, H, HBw_t_2, Ot_2, Olatest_0, Lib.hid Dt_2_latest_0.out⟩
  case round =>
    intro gk ug_ wg_ hrel Jg_ hJg_
    obtain ⟨office_1l0, minute_2l0, route_9l0, Aroute_9l0, croute_9l0, eg1_, eg2_, eg9_, H, HBwr0, Oroute_9l0, Olatest_0, Droute_9l0_latest_0⟩ := hrel
    rename World => wr0
    simp only [Go.Proofs.Ytlljmgphgmklcaa.GoA.over, Nat.reduceAdd, eg1_, eg2_, eg9_]
    clear eg1_ eg2_ eg9_
    cases gk with
    | zero => exact (loop_zero H).elim
    | succ m0 =>
      replace H := loop_succ H
      unfold l0 at H
      replace H := unp3_hid H
      go_wp2_with fail
      go_loopg [15, 1, 2, 9] (list.length) (fun m_ v15_ v1_ v2_ v9_ wr => ∃ (k1 : Nat) (office_1l1 : Int) (minute_2l1 : Int) (route_9l1 : (List Int)) (Aroute_9l1 : Option Addr) (croute_9l1 : Nat), k1 + m_ = list.length ∧ v15_ = .int .i64 (k1 : Int) ∧ v1_ = .int .i64 office_1l1 ∧ v2_ = .int .i64 minute_2l1 ∧ v9_ = .slice Aroute_9l1 route_9l1.length croute_9l1 ∧ Hid (cntK (l1 list vlatest_0 (fun s' => loopK (l0 list vlatest_0) m0 s' (e0 ))) m_ k1 (office_1l1, minute_2l1, route_9l1) (e1 ) = some r) ∧ Hid (Below w.heap.size w wr) ∧ Hid (wr.ownsRow w.heap.size 3 1 (.slice Aroute_9l1 route_9l1.length croute_9l1) route_9l1.length (Go.Proofs.Ytlljmgphgmklcaa.HelpInt.iv route_9l1)) ∧ Hid (wr.ownsRow w.heap.size 121 1 (.slice (some ⟨w.heap.size, 0, none⟩) 10 10) 10 (Go.Proofs.Ytlljmgphgmklcaa.HelpInt.iv vlatest_0)) ∧ Hid (Apart Aroute_9l1 (some ⟨w.heap.size, 0, none⟩)))
      case atStart => exact ⟨0, _, _, _, _, _, by omega, rfl, rfl, rfl, rfl, H, HBwr0, Oroute_9l0, Olatest_0, Lib.hid Droute_9l0_latest_0.out⟩
      case round =>
        obtain ⟨k1, office_1l1, minute_2l1, route_9l1, Aroute_9l1, croute_9l1, hkm1, rfl, rfl, rfl, rfl, H, HBwr1, Oroute_9l1, Olatest_0, Droute_9l1_latest_0⟩ := hrel
        rename World => wr1
        cases gk with
        | zero =>
          obtain rfl : k1 = list.length := by omega
          have hc1 : decide (((list.length : Nat) : Int) < ((list.length : Nat) : Int)) = false := by simp
          replace H := cnt_zero H
          unfold e1 at H
          replace H := unp3_hid H
          obtain rfl := ret_hid H
          go_wp2_with fail
          try simp only [Exit.noGoto, Exit.jump]
          go_wp2_with fail
          go_ret
          exact ⟨Aroute_9l1, croute_9l1, rfl, Oroute_9l1.out, HBwr1.out⟩
        | succ m1 =>
          have hlt1 : k1 < list.length := by omega
          have hc1 : decide ((k1 : Int) < ((list.length : Nat) : Int)) = true := by simp; omega
          replace H := cnt_succ H
          unfold l1 at H
          replace H := unp3_hid H
          replace H := idx_hid H
          obtain ⟨nt_9, yt_9, et_9, lt_9, gt_9, H⟩ := H
          obtain rfl : k1 = nt_9 := by omega
          clear et_9
          obtain ⟨t_9_leave, t_9_from_, t_9_to_, t_9_arrive⟩ := yt_9
          replace H := unMail_hid H
          obtain ⟨ab_t_9, ao_t_9, zt_9, At_9, z_t_9, ct_9_0, ct_9_1, ct_9_2, ct_9_3⟩ := Go.Proofs.Ytlljmgphgmklcaa.OMail.at_ M0.out lt_9
          obtain rfl := Option.some.inj (gt_9.out.symm.trans z_t_9)
          subst At_9
          have ltt_9 := cell_lt ct_9_0
          replace ct_9_0 := cell_below HBwr1.out ct_9_0
          replace ct_9_1 := cell_below HBwr1.out ct_9_1
          replace ct_9_2 := cell_below HBwr1.out ct_9_2
          replace ct_9_3 := cell_below HBwr1.out ct_9_3
          clear z_t_9
          have b0t_9 : (0 : Int) ≤ (k1 : Int) := by omega
          have b1t_9 : (k1 : Int) < ((list.length : Nat) : Int) := by omega
          have b2t_9 : ((k1 : Int)).toNat = k1 := by omega
          obtain ⟨w_x_11, hw_x_11⟩ : ∃ x, wr1.alloc (.cells #[.int .i64 t_9_leave, .int .i64 t_9_from_, .int .i64 t_9_to_, .int .i64 t_9_arrive] 108) = x := ⟨_, rfl⟩
          have bw_x_11 : Below wr1.heap.size wr1 w_x_11 := by rw [← hw_x_11]; exact (Below.refl _ _).alloc (Nat.le_refl _) _
          have Dx_11_latest_0 := Lib.hid (apart_fresh Olatest_0.out)
          have Dx_11_route_9l1 := Lib.hid (apart_fresh Oroute_9l1.out)
          have HBw_x_11 := Lib.hid (Below.step HBwr1.out bw_x_11)
          have ct_9_0__658 := cell_below bw_x_11 ct_9_0
          have ct_9_1__659 := cell_below bw_x_11 ct_9_1
          have ct_9_2__660 := cell_below bw_x_11 ct_9_2
          have ct_9_3__661 := cell_below bw_x_11 ct_9_3
          replace Olatest_0 := Lib.hid (own_below Olatest_0.out bw_x_11)
          replace Oroute_9l1 := Lib.hid (own_below Oroute_9l1.out bw_x_11)
          clear bw_x_11
          have kx_11_0 : w_x_11.cell? ⟨wr1.heap.size, 0, none⟩ = some (.int .i64 t_9_leave) := by rw [← hw_x_11]; exact box_new _ _ _ 0 _ rfl
          have kx_11_1 : w_x_11.cell? ⟨wr1.heap.size, 1, none⟩ = some (.int .i64 t_9_from_) := by rw [← hw_x_11]; exact box_new _ _ _ 1 _ rfl
          have kx_11_2 : w_x_11.cell? ⟨wr1.heap.size, 2, none⟩ = some (.int .i64 t_9_to_) := by rw [← hw_x_11]; exact box_new _ _ _ 2 _ rfl
          have kx_11_3 : w_x_11.cell? ⟨wr1.heap.size, 3, none⟩ = some (.int .i64 t_9_arrive) := by rw [← hw_x_11]; exact box_new _ _ _ 3 _ rfl
          go_wp2_with fail
          clear ct_9_0 ct_9_1 ct_9_2 ct_9_3
          have Hct_9_0__658 := Lib.hid ct_9_0__658
          replace ct_9_0__658 := cell_regrown ct_9_0__658
          have Hct_9_1__659 := Lib.hid ct_9_1__659
          replace ct_9_1__659 := cell_regrown ct_9_1__659
          have Hct_9_2__660 := Lib.hid ct_9_2__660
          replace ct_9_2__660 := cell_regrown ct_9_2__660
          have Hct_9_3__661 := Lib.hid ct_9_3__661
          replace ct_9_3__661 := cell_regrown ct_9_3__661
          have Hkx_11_0 := Lib.hid kx_11_0
          replace kx_11_0 := cell_regrown kx_11_0
          have Hkx_11_1 := Lib.hid kx_11_1
          replace kx_11_1 := cell_regrown kx_11_1
          have Hkx_11_2 := Lib.hid kx_11_2
          replace kx_11_2 := cell_regrown kx_11_2
          have Hkx_11_3 := Lib.hid kx_11_3
          replace kx_11_3 := cell_regrown kx_11_3
          replace H := bind_hid H
          obtain ⟨t_17, qt_17, H⟩ := H
          have nt_17 : ∀ d os, Calls Try.prog 118 #[.agg #[.int .i64 t_9_leave, .int .i64 t_9_from_, .int .i64 t_9_to_, .int .i64 t_9_arrive], .int .i64 office_1l1, .int .i64 minute_2l1] (Go.Sort.grow (redrawn w_x_11 d) os) fun e w'' => e = .returned (.bool t_17) ∧ ∃ p : Regrown, w'' = Go.Sort.grow (redrawn w_x_11 p.d) p.os := fun d os => Calls.regrown_of (Go.Proofs.Ytlljmgphgmklcaa.GiCanTake.C ((Go.Proofs.Ytlljmgphgmklcaa.PMail.Mail.mk t_9_leave t_9_from_ t_9_to_ t_9_arrive)) (office_1l1) (minute_2l1)  _    qt_17)
          replace H := join_hid H
          cases t_17 with
          | false =>
            replace H := ite_f H
            replace H := app_hid H
            refine wp_region_quiet_below (by kernel_rfl) (by kernel_rfl) ?_
            repeat (go_big_quiet_step (first | (go_at_call 118; exact nt_17 _ _)))
            refine wpQuiet_nil ?_
            intro Y5 hY5
            replace hY5 := below_class hY5
            clear nt_17
            replace ct_9_0__658 := Hct_9_0__658.out
            clear Hct_9_0__658
            replace ct_9_1__659 := Hct_9_1__659.out
            clear Hct_9_1__659
            replace ct_9_2__660 := Hct_9_2__660.out
            clear Hct_9_2__660
            replace ct_9_3__661 := Hct_9_3__661.out
            clear Hct_9_3__661
            replace kx_11_0 := Hkx_11_0.out
            clear Hkx_11_0
            replace kx_11_1 := Hkx_11_1.out
            clear Hkx_11_1
            replace kx_11_2 := Hkx_11_2.out
            clear Hkx_11_2
            replace kx_11_3 := Hkx_11_3.out
            clear Hkx_11_3
            have HBY5 := Lib.hid (Below.step HBw_x_11.out hY5)
            replace ct_9_0__658 := cell_below hY5 ct_9_0__658
            replace ct_9_1__659 := cell_below hY5 ct_9_1__659
            replace ct_9_2__660 := cell_below hY5 ct_9_2__660
            replace ct_9_3__661 := cell_below hY5 ct_9_3__661
            replace kx_11_0 := cell_below hY5 kx_11_0
            replace kx_11_1 := cell_below hY5 kx_11_1
            replace kx_11_2 := cell_below hY5 kx_11_2
            replace kx_11_3 := cell_below hY5 kx_11_3
            replace Olatest_0 := Lib.hid (own_below Olatest_0.out hY5)
            replace Oroute_9l1 := Lib.hid (own_below Oroute_9l1.out hY5)
            clear hY5
            replace H := ite_f H
            replace H := app_hid H
            go_wp2_with fail
            go_roundg m1
            case measure => omega
            case rel => exact ⟨k1 + 1, _, _, _, _, _, by omega, by go_num, rfl, rfl, rfl, H, HBY5, Oroute_9l1, Olatest_0, Lib.hid Droute_9l1_latest_0.out⟩
          | true =>
            replace H := ite_t H
            replace H := idx_hid H
            obtain ⟨nt_23, yt_23, et_23, lt_23, gt_23, H⟩ := H
            subst et_23
            have hqt_23 := nlatest_0.out
            obtain ⟨ab_t_23, ao_t_23, zt_23, At_23, z_t_23, ct_23_0⟩ := Go.Proofs.Ytlljmgphgmklcaa.HelpInt.Ints.at_ (own_cells Olatest_0.out) (k := nt_23) (by omega)
            obtain rfl := Option.some.inj (gt_23.out.symm.trans z_t_23)
            simp only [Option.some.injEq, Addr.mk.injEq] at At_23
            obtain ⟨rfl, rfl, _⟩ := At_23
            clear z_t_23
            simp only [Nat.zero_add] at ct_23_0
            have b0t_23 : (0 : Int) ≤ (nt_23 : Int) := by omega
            have b1t_23 : (nt_23 : Int) < ((10 : Nat) : Int) := by omega
            have b2t_23 : ((nt_23 : Int)).toNat = nt_23 := by omega
            clear hqt_23
            have Hct_23_0 := Lib.hid ct_23_0
            replace ct_23_0 := cell_regrown ct_23_0
            have b3t_23 : nt_23 < 10 := by have h_ := lt_23; have hn_ := nlatest_0.out; omega
            have b4t_23 : (nt_23 : Int) < (10 : Int) := by omega
            replace H := let_hid H
            obtain ⟨t_25, ht_25, H⟩ := H
            replace H := app_hid H
            refine wp_region_quiet_below (by kernel_rfl) (by kernel_rfl) ?_
            repeat (go_big_quiet_step (first | (go_at_call 118; exact nt_17 _ _)))
            refine wpQuiet_nil ?_
            intro Y5 hY5
            replace hY5 := below_class hY5
            clear nt_17
            replace ct_9_0__658 := Hct_9_0__658.out
            clear Hct_9_0__658
            replace ct_9_1__659 := Hct_9_1__659.out
            clear Hct_9_1__659
            replace ct_9_2__660 := Hct_9_2__660.out
            clear Hct_9_2__660
            replace ct_9_3__661 := Hct_9_3__661.out
            clear Hct_9_3__661
            replace kx_11_0 := Hkx_11_0.out
            clear Hkx_11_0
            replace kx_11_1 := Hkx_11_1.out
            clear Hkx_11_1
            replace kx_11_2 := Hkx_11_2.out
            clear Hkx_11_2
            replace kx_11_3 := Hkx_11_3.out
            clear Hkx_11_3
            replace ct_23_0 := Hct_23_0.out
            clear Hct_23_0
            have HBY5 := Lib.hid (Below.step HBw_x_11.out hY5)
            replace ct_9_0__658 := cell_below hY5 ct_9_0__658
            replace ct_9_1__659 := cell_below hY5 ct_9_1__659
            replace ct_9_2__660 := cell_below hY5 ct_9_2__660
            replace ct_9_3__661 := cell_below hY5 ct_9_3__661
            replace kx_11_0 := cell_below hY5 kx_11_0
            replace kx_11_1 := cell_below hY5 kx_11_1
            replace kx_11_2 := cell_below hY5 kx_11_2
            replace kx_11_3 := cell_below hY5 kx_11_3
            replace ct_23_0 := cell_below hY5 ct_23_0
            replace Olatest_0 := Lib.hid (own_below Olatest_0.out hY5)
            replace Oroute_9l1 := Lib.hid (own_below Oroute_9l1.out hY5)
            clear hY5
            cases t_25 with
            | false =>
              replace H := ite_f H
              replace H := app_hid H
              go_wp2_with fail
              go_roundg m1
              case measure => omega
              case rel => exact ⟨k1 + 1, _, _, _, _, _, by omega, by go_num, rfl, rfl, rfl, H, HBY5, Oroute_9l1, Olatest_0, Lib.hid Droute_9l1_latest_0.out⟩
            | true =>
              replace H := ite_t H
              obtain ⟨w_t_29, hw_t_29⟩ : ∃ x, Y5.alloc (.cells #[.int .i64 (k1 : Int)] 3) = x := ⟨_, rfl⟩
              have bw_t_29 : Below Y5.heap.size Y5 w_t_29 := by rw [← hw_t_29]; exact (Below.refl _ _).alloc (Nat.le_refl _) _
              have HBw_t_29 := Lib.hid (Below.step HBY5.out bw_t_29)
              have ct_9_0__662 := cell_below bw_t_29 ct_9_0__658
              have ct_9_1__663 := cell_below bw_t_29 ct_9_1__659
              have ct_9_2__664 := cell_below bw_t_29 ct_9_2__660
              have ct_9_3__665 := cell_below bw_t_29 ct_9_3__661
              have kx_11_0__666 := cell_below bw_t_29 kx_11_0
              have kx_11_1__667 := cell_below bw_t_29 kx_11_1
              have kx_11_2__668 := cell_below bw_t_29 kx_11_2
              have kx_11_3__669 := cell_below bw_t_29 kx_11_3
              have ct_23_0__670 := cell_below bw_t_29 ct_23_0
              replace Olatest_0 := Lib.hid (own_below Olatest_0.out bw_t_29)
              replace Oroute_9l1 := Lib.hid (own_below Oroute_9l1.out bw_t_29)
              clear bw_t_29
              replace H := guard_hid H
              obtain ⟨hlt_30, H⟩ := H
              replace H := let_hid H
              obtain ⟨t_30, ht_30, H⟩ := H
              have hht_30 := Lib.hid ht_30
              clear ht_30
              have hst_30 := HBw_t_29.out.size
              go_wp2_with (at_builtin; refine wpList_append_own_at _ rfl _ _ 48 rfl w.heap.size 3 i0_3 (.int .i64 0) 1 8 Try.underlying48 hi_3 hz0_3 hz1_3 hz2_3 rfl (by decide) _ _ _ rfl Oroute_9l1.out ⟨Y5.heap.size, 0, none⟩ 1 1 [.int .i64 (k1 : Int)] rfl rfl (news_new hw_t_29) (one_cells rfl) (by unfold maxLen; omega) (by omega) hst_30 ?_; intro vt_30 wt_30 ot_30 gt_30 zt_30 yt_30; clear zt_30; obtain ⟨qt_30, ct_30, rfl, pt_30⟩ := own_push hht_30.out (Go.Proofs.Ytlljmgphgmklcaa.HelpInt.iv_snoc _ _) rfl ot_30; have Pt_30 := Lib.hid pt_30; have Yt_30 := Lib.hid yt_30; have Gt_30 := Lib.hid gt_30; clear ot_30 gt_30 pt_30 yt_30; refine stop_in ?_)
              refine stop_out ?_
              have HBwt_30 := Lib.hid (HBw_t_29.out.grown Gt_30.out hst_30 (fun q hq => (Oroute_9l1.out.lt q hq).1))
              clear hst_30
              have Dt_30_latest_0 : Hid (Apart (some ⟨qt_30, 0, none⟩) _) := Lib.hid (apart_app Droute_9l1_latest_0.out (fun a_ ha_ => (own_lt Olatest_0.out a_ ha_).2) Yt_30.out)
              have Dt_30_x_11 : Hid (Apart (some ⟨qt_30, 0, none⟩) _) := Lib.hid (apart_app (Apart.symm Dx_11_route_9l1.out) (fun a_ ha_ => by cases ha_; exact cell_lt kx_11_0__666) Yt_30.out)
              replace ct_9_0__662 := cell_other ct_9_0__662 Gt_30.out (apart_old Oroute_9l1.out ltt_9)
              replace ct_9_1__663 := cell_other ct_9_1__663 Gt_30.out (apart_old Oroute_9l1.out ltt_9)
              replace ct_9_2__664 := cell_other ct_9_2__664 Gt_30.out (apart_old Oroute_9l1.out ltt_9)
              replace ct_9_3__665 := cell_other ct_9_3__665 Gt_30.out (apart_old Oroute_9l1.out ltt_9)
              replace kx_11_0__666 := cell_other kx_11_0__666 Gt_30.out (Apart.symm Dx_11_route_9l1.out)
              replace kx_11_1__667 := cell_other kx_11_1__667 Gt_30.out (Apart.symm Dx_11_route_9l1.out)
              replace kx_11_2__668 := cell_other kx_11_2__668 Gt_30.out (Apart.symm Dx_11_route_9l1.out)
              replace kx_11_3__669 := cell_other kx_11_3__669 Gt_30.out (Apart.symm Dx_11_route_9l1.out)
              replace ct_23_0__670 := cell_other ct_23_0__670 Gt_30.out Droute_9l1_latest_0.out
              replace Olatest_0 := Lib.hid (own_other Olatest_0.out Gt_30.out Droute_9l1_latest_0.out)
              clear ct_9_0__658 ct_9_1__659 ct_9_2__660 ct_9_3__661 kx_11_0 kx_11_1 kx_11_2 kx_11_3 ct_23_0
              clear Oroute_9l1 Yt_30 Gt_30
              go_wp2_with fail
              have Hct_9_0__662 := Lib.hid ct_9_0__662
              replace ct_9_0__662 := cell_regrown ct_9_0__662
              have Hct_9_1__663 := Lib.hid ct_9_1__663
              replace ct_9_1__663 := cell_regrown ct_9_1__663
              have Hct_9_2__664 := Lib.hid ct_9_2__664
              replace ct_9_2__664 := cell_regrown ct_9_2__664
              have Hct_9_3__665 := Lib.hid ct_9_3__665
              replace ct_9_3__665 := cell_regrown ct_9_3__665
              have Hkx_11_0__666 := Lib.hid kx_11_0__666
              replace kx_11_0__666 := cell_regrown kx_11_0__666
              have Hkx_11_1__667 := Lib.hid kx_11_1__667
              replace kx_11_1__667 := cell_regrown kx_11_1__667
              have Hkx_11_2__668 := Lib.hid kx_11_2__668
              replace kx_11_2__668 := cell_regrown kx_11_2__668
              have Hkx_11_3__669 := Lib.hid kx_11_3__669
              replace kx_11_3__669 := cell_regrown kx_11_3__669
              have Hct_23_0__670 := Lib.hid ct_23_0__670
              replace ct_23_0__670 := cell_regrown ct_23_0__670
              refine wp_region_quiet_below (by kernel_rfl) (by kernel_rfl) ?_
              repeat (go_big_quiet_step (fail))
              refine wpQuiet_nil ?_
              intro Y7 hY7
              replace hY7 := below_class hY7
              replace ct_9_0__662 := Hct_9_0__662.out
              clear Hct_9_0__662
              replace ct_9_1__663 := Hct_9_1__663.out
              clear Hct_9_1__663
              replace ct_9_2__664 := Hct_9_2__664.out
              clear Hct_9_2__664
              replace ct_9_3__665 := Hct_9_3__665.out
              clear Hct_9_3__665
              replace kx_11_0__666 := Hkx_11_0__666.out
              clear Hkx_11_0__666
              replace kx_11_1__667 := Hkx_11_1__667.out
              clear Hkx_11_1__667
              replace kx_11_2__668 := Hkx_11_2__668.out
              clear Hkx_11_2__668
              replace kx_11_3__669 := Hkx_11_3__669.out
              clear Hkx_11_3__669
              replace ct_23_0__670 := Hct_23_0__670.out
              clear Hct_23_0__670
              have HBY7 := Lib.hid (Below.step HBwt_30.out hY7)
              replace ct_9_0__662 := cell_below hY7 ct_9_0__662
              replace ct_9_1__663 := cell_below hY7 ct_9_1__663
              replace ct_9_2__664 := cell_below hY7 ct_9_2__664
              replace ct_9_3__665 := cell_below hY7 ct_9_3__665
              replace kx_11_0__666 := cell_below hY7 kx_11_0__666
              replace kx_11_1__667 := cell_below hY7 kx_11_1__667
              replace kx_11_2__668 := cell_below hY7 kx_11_2__668
              replace kx_11_3__669 := cell_below hY7 kx_11_3__669
              replace ct_23_0__670 := cell_below hY7 ct_23_0__670
              replace Olatest_0 := Lib.hid (own_below Olatest_0.out hY7)
              replace Pt_30 := Lib.hid (own_below Pt_30.out hY7)
              clear hY7
              replace H := app_hid H
              go_wp2_with fail
              refine wp_goto ?_
              simp only [Exit.then, Exit.inBlock, Exit.jump, true_and]
              refine Go.Proofs.Ytlljmgphgmklcaa.GoA.handed_goto hJg_ m0 ?measure rfl ?rel
              case measure => omega
              case rel => exact ⟨_, _, _, _, _, rfl, rfl, rfl, H, HBY7, Pt_30, Olatest_0, Lib.hid Dt_30_latest_0.out⟩
end Go.Proofs.Ytlljmgphgmklcaa.GiFirstRoute

/- loop.example/g01062/impl.BestRoute as a plain function, and the contract of the program's: where the plain one has an answer, the program has it. Conditions: slices read as lists. -/
namespace Go.Proofs.Ytlljmgphgmklcaa.GiBestRoute
set_option linter.unusedVariables false
set_option linter.unusedSimpArgs false
open Go.RowKit
open Go.Proofs.Ytlljmgphgmklcaa.Rowed Go.Proofs.Ytlljmgphgmklcaa.Turn Go.Proofs.Ytlljmgphgmklcaa.Aid Go.Proofs.Ytlljmgphgmklcaa.GoP Go.Proofs.Ytlljmgphgmklcaa.GoM

def P (fuel : Nat) (list : (List Go.Proofs.Ytlljmgphgmklcaa.PMail.Mail)) (from_1 : Int) (minute : Int) (to_3 : Int) : Option ((List Int) × Bool) :=
  bind2 (Go.Proofs.Ytlljmgphgmklcaa.GiEarliestAt.P list from_1 minute to_3) fun (t_6a : Int) (t_6b : Bool) =>
  letK (!t_6b) fun (t_13 : Bool) =>
  iteK t_13
  (some (([] : List Int), false))
  (Option.bind (Go.Proofs.Ytlljmgphgmklcaa.GiLatestMinutes.P fuel list to_3 t_6a) fun (t_23 : Go.Proofs.Ytlljmgphgmklcaa.PIntA10.IntA10) =>
  unIntA10 t_23 fun (t_23_x0 : Int) (t_23_x1 : Int) (t_23_x2 : Int) (t_23_x3 : Int) (t_23_x4 : Int) (t_23_x5 : Int) (t_23_x6 : Int) (t_23_x7 : Int) (t_23_x8 : Int) (t_23_x9 : Int) =>
  Option.bind (Go.Proofs.Ytlljmgphgmklcaa.GiFirstRoute.P fuel list from_1 minute (Go.Proofs.Ytlljmgphgmklcaa.PIntA10.IntA10.mk t_23_x0 t_23_x1 t_23_x2 t_23_x3 t_23_x4 t_23_x5 t_23_x6 t_23_x7 t_23_x8 t_23_x9)) fun (t_24 : (List Int)) =>
  some (t_24, true))

set_option maxRecDepth 100000 in
set_option maxHeartbeats 2000000 in
theorem C (fuel : Nat) (list : (List Go.Proofs.Ytlljmgphgmklcaa.PMail.Mail)) (from_1 : Int) (minute : Int) (to_3 : Int) (A0 : Option Addr) (c0 : Nat)  (w : World) (M0 : Hid (Cells w 4 A0 list.length (Go.Proofs.Ytlljmgphgmklcaa.PMail.flat list))) (N0 : Hid (list.length ≤ 9223372036854775807))  {r0 : (List Int)} {r1 : Bool} (H : Hid (P fuel list from_1 minute to_3 = some (r0, r1))) :
    Calls Try.prog 106 #[.slice A0 list.length c0, .int .i64 from_1, .int .i64 minute, .int .i64 to_3] w (fun e w' => ∃ A_r0 c_r0, e = .returned (.tuple #[.slice A_r0 r0.length c_r0, .bool r1]) ∧ w'.ownsRow w.heap.size 3 1 (.slice A_r0 r0.length c_r0) r0.length (Go.Proofs.Ytlljmgphgmklcaa.HelpInt.iv r0) ∧ Below w.heap.size w w') := by
  have HB := Lib.hid (Below.refl w.heap.size w)
  unfold P at H
  have N0o := N0.out
  go_enter Try.func106, Try.ntmps106
  replace H := bind2_hid H
  obtain ⟨t_6a, t_6b, qt_6, H⟩ := H
  go_wp2_with fail
  go_at_call 151
  refine (Go.Proofs.Ytlljmgphgmklcaa.GiEarliestAt.C (list) (from_1) (minute) (to_3) A0 c0 _   (Lib.hid (Cells.below M0.out HB.out)) N0 qt_6).mono ?_
  rintro e_t_6 wt_6 ⟨rfl, bt_6⟩
  have HBwt_6 := Lib.hid (Below.step HB.out bt_6)
  clear bt_6
  cases t_6b with
  | false =>
    replace H := let_hid H
    obtain ⟨t_13, ht_13, H⟩ := H
    obtain rfl : t_13 = true := ht_13.symm
    replace H := ite_t H
    obtain ⟨w_t_14, hw_t_14⟩ : ∃ x, wt_6.alloc (.cells #[] 3) = x := ⟨_, rfl⟩
    have bw_t_14 : Below wt_6.heap.size wt_6 w_t_14 := by rw [← hw_t_14]; exact (Below.refl _ _).alloc (Nat.le_refl _) _
    have Ot_14 : Hid (w_t_14.ownsRow w.heap.size 3 1 (.slice (some ⟨wt_6.heap.size, 0, none⟩) 0 0) 0 []) := Lib.hid (by rw [← hw_t_14]; exact own_empty HBwt_6.out.size)
    have HBw_t_14 := Lib.hid (Below.step HBwt_6.out bw_t_14)
    clear bw_t_14
    cases ret_hid H
    go_wp2_with fail
    go_ret2
    exact ⟨(some ⟨wt_6.heap.size, 0, none⟩), 0, rfl, Ot_14.out, HBw_t_14.out⟩
  | true =>
    replace H := let_hid H
    obtain ⟨t_13, ht_13, H⟩ := H
    obtain rfl : t_13 = false := ht_13.symm
    replace H := ite_f H
    replace H := bind_hid H
    obtain ⟨t_23, qt_23, H⟩ := H
    obtain ⟨t_23_x0, t_23_x1, t_23_x2, t_23_x3, t_23_x4, t_23_x5, t_23_x6, t_23_x7, t_23_x8, t_23_x9⟩ := t_23
    replace H := unIntA10_hid H
    go_wp2_with fail
    go_at_call 108
    refine (Go.Proofs.Ytlljmgphgmklcaa.GiLatestMinutes.C fuel (list) (to_3) (t_6a) A0 c0 _   (Lib.hid (Cells.below M0.out HBwt_6.out)) N0 qt_23).mono ?_
    rintro e_t_23 wt_23 ⟨rfl, bt_23⟩
    unfold Go.Proofs.Ytlljmgphgmklcaa.PIntA10.IntA10.val
    have HBwt_23 := Lib.hid (Below.step HBwt_6.out bt_23)
    clear bt_23
    replace H := bind_hid H
    obtain ⟨t_24, qt_24, H⟩ := H
    go_wp2_with fail
    go_at_call 152
    refine (Go.Proofs.Ytlljmgphgmklcaa.GiFirstRoute.C fuel (list) (from_1) (minute) ((Go.Proofs.Ytlljmgphgmklcaa.PIntA10.IntA10.mk t_23_x0 t_23_x1 t_23_x2 t_23_x3 t_23_x4 t_23_x5 t_23_x6 t_23_x7 t_23_x8 t_23_x9)) A0 c0 _   (Lib.hid (Cells.below M0.out HBwt_23.out)) N0 qt_24).mono ?_
    rintro e_t_24 wt_24 ⟨At_24, ct_24, rfl, ot_24, bt_24⟩
    have Ot_24 := Lib.hid (own_lower ot_24 HBwt_23.out.size)
    clear ot_24
    have HBwt_24 := Lib.hid (Below.step HBwt_23.out bt_24)
    clear bt_24
    cases ret_hid H
    go_wp2_with fail
    go_ret2
    exact ⟨At_24, ct_24, rfl, Ot_24.out, HBwt_24.out⟩
end Go.Proofs.Ytlljmgphgmklcaa.GiBestRoute

