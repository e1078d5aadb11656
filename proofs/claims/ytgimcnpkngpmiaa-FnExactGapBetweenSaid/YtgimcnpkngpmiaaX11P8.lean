/- Texts on which the proofs of several laws stand, one behind the other (8 of 18). No condition of their own. -/
import Derived.Test.YtgimcnpkngpmiaaChecked
import Derived.Test.YtgimcnpkngpmiaaX11P1
import Derived.Test.YtgimcnpkngpmiaaX11P6
import Derived.Test.YtgimcnpkngpmiaaX11P2
import Derived.Test.YtgimcnpkngpmiaaX11P4
import Derived.Test.YtgimcnpkngpmiaaX11P7
import Derived.WalkKit
import Derived.WalkSpells
import Derived.WalkLawsBesides
import Derived.BigQuiet
import Derived.OwnWalk
import Derived.Deep.LoopGhost
import Derived.Deep.QuietTactic
import Derived.IntWalk
import Derived.Lib.QuietBelow
import Derived.Deep.RegionHeld3
/- loop.example/g01062/spec.TownsOn as a plain function, and the contract of the program's: where the plain one has an answer, the program has it. Conditions: slices read as lists. -/
namespace Go.Proofs.Ytgimcnpkngpmiaa.GsTownsOn
set_option linter.unusedVariables false
set_option linter.unusedSimpArgs false
open Go.RowKit
open Go.Proofs.Ytgimcnpkngpmiaa.Rowed Go.Proofs.Ytgimcnpkngpmiaa.Turn Go.Proofs.Ytgimcnpkngpmiaa.Aid Go.Proofs.Ytgimcnpkngpmiaa.GoP Go.Proofs.Ytgimcnpkngpmiaa.GoM

def l1 (out_6l0 : (List ByteArray)) (t_22_town : ByteArray) (k1 : Nat) (s : Bool) (nx1 bk1 : Bool → Option ((List ByteArray) × Bool)) : Option ((List ByteArray) × Bool) :=
  letK s fun known_10l1 =>
  joinK (fun (t_50 : Bool) =>
  appK nx1 (t_50)) fun jt_50 => iteK known_10l1 (appK jt_50 true) (Option.bind (idx out_6l0 (k1 : Int)) fun (yt_46 : ByteArray) =>
  letK (yt_46.toList == t_22_town.toList) fun (t_49 : Bool) =>
  appK jt_50 t_49)

def l2 (out_6l0 : (List ByteArray)) (t_22_town : ByteArray) (s : Int) (nx2 bk2 : Int → Option ((List ByteArray) × Bool)) : Option ((List ByteArray) × Bool) :=
  letK s fun k_9l2 =>
  letK (decide (0 < k_9l2)) fun (t_56 : Bool) =>
  joinK (fun (t_65 : Bool) =>
  iteK t_65
  (letK (IntKind.i64.wrap (k_9l2 - 1)) fun (t_67 : Int) =>
  appK nx2 (t_67))
  (appK bk2 (k_9l2))) fun jt_65 => iteK t_56 (letK (IntKind.i64.wrap (k_9l2 - 1)) fun (t_61 : Int) =>
  Option.bind (idx out_6l0 t_61) fun (yt_62 : ByteArray) =>
  letK (Op.bytesLess t_22_town.toList yt_62.toList) fun (t_64 : Bool) =>
  appK jt_65 t_64) (appK jt_65 false)

def e2 (nx0 : ((List ByteArray)) → Option ((List ByteArray) × Bool)) (out_6l0 : (List ByteArray)) (t_22_town : ByteArray) (known_10l1 : Bool) (s : Int) : Option ((List ByteArray) × Bool) :=
  letK s fun k_9l2 =>
  letK (!known_10l1) fun (t_70 : Bool) =>
  iteK t_70
  (guardK ((0 : Int) ≤ k_9l2 ∧ (k_9l2 : Int) ≤ (out_6l0.length : Int)) <|
  letK (List.take (Int.toNat k_9l2) out_6l0) fun (t_74 : (List ByteArray)) =>
  guardK (([] : List ByteArray).length + t_74.length ≤ 1099511627776) <|
  letK (([] : List ByteArray) ++ t_74) fun (t_75 : (List ByteArray)) =>
  guardK (t_75.length ≤ 1099511627776) <|
  letK (t_75 ++ [t_22_town]) fun (t_78 : (List ByteArray)) =>
  guardK ((0 : Int) ≤ k_9l2 ∧ (k_9l2 : Int) ≤ (out_6l0.length : Int)) <|
  letK (List.drop (Int.toNat k_9l2) out_6l0) fun (t_81 : (List ByteArray)) =>
  guardK (t_78.length + t_81.length ≤ 1099511627776) <|
  letK (t_78 ++ t_81) fun (t_82 : (List ByteArray)) =>
  appK nx0 (t_82))
  (appK nx0 (out_6l0))

def e1 (fuel : Nat) (nx0 : ((List ByteArray)) → Option ((List ByteArray) × Bool)) (out_6l0 : (List ByteArray)) (t_22_town : ByteArray) (s : Bool) : Option ((List ByteArray) × Bool) :=
  letK s fun known_10l1 =>
  loopK (l2 out_6l0 t_22_town) fuel ((out_6l0.length : Int)) (e2 nx0 out_6l0 t_22_town known_10l1)

def l0 (list : (List Go.Proofs.Ytgimcnpkngpmiaa.PPostmark.Postmark)) (day : Int) (fuel : Nat) (k0 : Nat) (s : (List ByteArray)) (nx0 bk0 : (List ByteArray) → Option ((List ByteArray) × Bool)) : Option ((List ByteArray) × Bool) :=
  letK s fun out_6l0 =>
  Option.bind (idx list (k0 : Int)) fun (yt_22 : Go.Proofs.Ytgimcnpkngpmiaa.PPostmark.Postmark) =>
  unPostmark yt_22 fun (t_22_id : Int) (t_22_town : ByteArray) (t_22_kind_ : Int) (t_22_first : Int) (t_22_last : Int) (t_22_lost : ByteArray) =>
  Option.bind (idx list (k0 : Int)) fun (yt_31 : Go.Proofs.Ytgimcnpkngpmiaa.PPostmark.Postmark) =>
  unPostmark yt_31 fun (t_31_id : Int) (t_31_town : ByteArray) (t_31_kind_ : Int) (t_31_first : Int) (t_31_last : Int) (t_31_lost : ByteArray) =>
  Option.bind (Go.Proofs.Ytgimcnpkngpmiaa.GsL11Used.P (Go.Proofs.Ytgimcnpkngpmiaa.PPostmark.Postmark.mk t_31_id t_31_town t_31_kind_ t_31_first t_31_last t_31_lost) day) fun (t_34 : Bool) =>
  letK (!t_34) fun (t_35 : Bool) =>
  cntK (l1 out_6l0 t_22_town) (out_6l0.length) 0 (t_35) (e1 fuel nx0 out_6l0 t_22_town)

def e0  (s : (List ByteArray)) : Option ((List ByteArray) × Bool) :=
  letK s fun out_6l0 =>
  some (out_6l0, true)

def P (fuel : Nat) (list : (List Go.Proofs.Ytgimcnpkngpmiaa.PPostmark.Postmark)) (day : Int) : Option ((List ByteArray) × Bool) :=
  Option.bind (Go.Proofs.Ytgimcnpkngpmiaa.GsL11Good.P fuel list) fun (t_5 : Bool) =>
  letK (!t_5) fun (t_6 : Bool) =>
  joinK (fun (t_11 : Bool) =>
  iteK t_11
  (some (([] : List ByteArray), false))
  (cntK (l0 list day fuel) (list.length) 0 (([] : List ByteArray)) (e0 ))) fun jt_11 => iteK t_6 (appK jt_11 true) (Option.bind (Go.Proofs.Ytgimcnpkngpmiaa.GsL2Day.P day) fun (t_9 : Bool) =>
  letK (!t_9) fun (t_10 : Bool) =>
  appK jt_11 t_10)

set_option maxRecDepth 100000 in
set_option maxHeartbeats 2000000 in
theorem C (fuel : Nat) (list : (List Go.Proofs.Ytgimcnpkngpmiaa.PPostmark.Postmark)) (day : Int) (A0 : Option Addr) (c0 : Nat)  (w : World) (M0 : Hid (Cells w 6 A0 list.length (Go.Proofs.Ytgimcnpkngpmiaa.PPostmark.flat list))) (N0 : Hid (list.length ≤ 9223372036854775807))  {r0 : (List ByteArray)} {r1 : Bool} (H : Hid (P fuel list day = some (r0, r1))) :
    Calls Try.prog 31 #[.slice A0 list.length c0, .int .i64 day] w (fun e w' => ∃ A_r0 c_r0, e = .returned (.tuple #[.slice A_r0 r0.length c_r0, .bool r1]) ∧ w'.ownsRow w.heap.size 9 1 (.slice A_r0 r0.length c_r0) r0.length (r0.map Value.string) ∧ Below w.heap.size w w') := by
  have HB := Lib.hid (Below.refl w.heap.size w)
  unfold P at H
  have N0o := N0.out
  obtain ⟨i0_9, hi_9, hz0_9, hz1_9, hz2_9⟩ := Aid.info_parts (P := Try.prog) (T := 9) (z := .string ByteArray.empty) (s := 1) (b := 16) (by kernel_rfl)
  go_enter Try.func31, Try.ntmps31
  obtain ⟨w_t_2, hw_t_2⟩ : ∃ x, w.alloc (.cells #[] 9) = x := ⟨_, rfl⟩
  have bw_t_2 : Below w.heap.size w w_t_2 := by rw [← hw_t_2]; exact (Below.refl _ _).alloc (Nat.le_refl _) _
  have Ot_2 : Hid (w_t_2.ownsRow w.heap.size 9 1 (.slice (some ⟨w.heap.size, 0, none⟩) 0 0) 0 []) := Lib.hid (by rw [← hw_t_2]; exact own_empty HB.out.size)
  have HBw_t_2 := Lib.hid (Below.step HB.out bw_t_2)
  clear bw_t_2
  replace H := bind_hid H
  obtain ⟨t_5, qt_5, H⟩ := H
  go_wp2_with fail
  go_at_call 45
  refine (Go.Proofs.Ytgimcnpkngpmiaa.GsL11Good.C fuel (list) A0 c0 _   (Lib.hid (Cells.below M0.out HBw_t_2.out)) N0 qt_5).mono ?_
  rintro e_t_5 wt_5 ⟨rfl, bt_5⟩
  have HBwt_5 := Lib.hid (Below.step HBw_t_2.out bt_5)
  replace Ot_2 := Lib.hid (own_below Ot_2.out bt_5)
  clear bt_5
  cases t_5 with
  | false =>
    replace H := let_hid H
    obtain ⟨t_6, ht_6, H⟩ := H
    obtain rfl : t_6 = true := ht_6.symm
    replace H := join_hid H
    replace H := ite_t H
    replace H := app_hid H
    replace H := ite_t H
    cases ret_hid H
    go_wp2_with fail
    go_ret2
    exact ⟨(some ⟨w.heap.size, 0, none⟩), 0, rfl, Ot_2.out, HBwt_5.out⟩
  | true =>
    replace H := let_hid H
    obtain ⟨t_6, ht_6, H⟩ := H
    obtain rfl : t_6 = false := ht_6.symm
    replace H := join_hid H
    replace H := ite_f H
    replace H := bind_hid H
    obtain ⟨t_9, qt_9, H⟩ := H
    go_wp2_with fail
    go_at_call 61
    refine (Go.Proofs.Ytgimcnpkngpmiaa.GsL2Day.C (day)  _    qt_9).mono ?_
    rintro e_t_9 wt_9 ⟨rfl, bt_9⟩
    have HBwt_9 := Lib.hid (Below.step HBwt_5.out bt_9)
    replace Ot_2 := Lib.hid (own_below Ot_2.out bt_9)
    clear bt_9
    cases t_9 with
    | false =>
      replace H := let_hid H
      obtain ⟨t_10, ht_10, H⟩ := H
      obtain rfl : t_10 = true := ht_10.symm
      replace H := app_hid H
      replace H := ite_t H
      cases ret_hid H
      go_wp2_with fail
      go_ret2
      exact ⟨(some ⟨w.heap.size, 0, none⟩), 0, rfl, Ot_2.out, HBwt_9.out⟩
    | true =>
      replace H := let_hid H
      obtain ⟨t_10, ht_10, H⟩ := H
      obtain rfl : t_10 = false := ht_10.symm
      replace H := app_hid H
      replace H := ite_f H
      go_wp2_with fail
      go_loopg [7, 6] (list.length) (fun m_ v7_ v6_ wr => ∃ (k0 : Nat) (out_6l0 : (List ByteArray)) (Aout_6l0 : Option Addr) (cout_6l0 : Nat), k0 + m_ = list.length ∧ v7_ = .int .i64 (k0 : Int) ∧ v6_ = .slice Aout_6l0 out_6l0.length cout_6l0 ∧ Hid (cntK (l0 list day fuel) m_ k0 (out_6l0) (e0 ) = some (r0, r1)) ∧ Hid (Below w.heap.size w wr) ∧ Hid (wr.ownsRow w.heap.size 9 1 (.slice Aout_6l0 out_6l0.length cout_6l0) out_6l0.length (out_6l0.map Value.string)))
      case atStart => exact ⟨0, _, _, _, by omega, rfl, rfl, H, HBwt_9, Ot_2⟩
      case round =>
        obtain ⟨k0, out_6l0, Aout_6l0, cout_6l0, hkm0, rfl, rfl, H, HBwr0, Oout_6l0⟩ := hrel
        rename World => wr0
        cases gk with
        | zero =>
          obtain rfl : k0 = list.length := by omega
          have hc0 : decide (((list.length : Nat) : Int) < ((list.length : Nat) : Int)) = false := by simp
          replace H := cnt_zero H
          unfold e0 at H
          replace H := let_hid H
          obtain ⟨_, rfl, H⟩ := H
          cases ret_hid H
          go_wp2_with fail
          go_ret2
          exact ⟨Aout_6l0, cout_6l0, rfl, Oout_6l0.out, HBwr0.out⟩
        | succ m0 =>
          have hlt0 : k0 < list.length := by omega
          have hc0 : decide ((k0 : Int) < ((list.length : Nat) : Int)) = true := by simp; omega
          replace H := cnt_succ H
          unfold l0 at H
          replace H := let_hid H
          obtain ⟨_, rfl, H⟩ := H
          replace H := idx_hid H
          obtain ⟨nt_22, yt_22, et_22, lt_22, gt_22, H⟩ := H
          obtain rfl : k0 = nt_22 := by omega
          clear et_22
          obtain ⟨t_22_id, t_22_town, t_22_kind_, t_22_first, t_22_last, t_22_lost⟩ := yt_22
          replace H := unPostmark_hid H
          obtain ⟨ab_t_22, ao_t_22, zt_22, At_22, z_t_22, ct_22_0, ct_22_1, ct_22_2, ct_22_3, ct_22_4, ct_22_5⟩ := Go.Proofs.Ytgimcnpkngpmiaa.OPostmark.at_ M0.out lt_22
          obtain rfl := Option.some.inj (gt_22.out.symm.trans z_t_22)
          subst At_22
          have ltt_22 := cell_lt ct_22_0
          replace ct_22_0 := cell_below HBwr0.out ct_22_0
          replace ct_22_1 := cell_below HBwr0.out ct_22_1
          replace ct_22_2 := cell_below HBwr0.out ct_22_2
          replace ct_22_3 := cell_below HBwr0.out ct_22_3
          replace ct_22_4 := cell_below HBwr0.out ct_22_4
          replace ct_22_5 := cell_below HBwr0.out ct_22_5
          clear z_t_22
          have b0t_22 : (0 : Int) ≤ (k0 : Int) := by omega
          have b1t_22 : (k0 : Int) < ((list.length : Nat) : Int) := by omega
          have b2t_22 : ((k0 : Int)).toNat = k0 := by omega
          replace H := idx_hid H
          obtain ⟨nt_31, yt_31, et_31, lt_31, gt_31, H⟩ := H
          obtain rfl : k0 = nt_31 := by omega
          clear et_31
          obtain rfl := Option.some.inj (gt_22.out.symm.trans gt_31.out)
          clear gt_31 lt_31
          replace H := unPostmark_hid H
          replace H := bind_hid H
          obtain ⟨t_34, qt_34, H⟩ := H
          go_wp2_with fail
          go_at_call 64
          refine (Go.Proofs.Ytgimcnpkngpmiaa.GsL11Used.C ((Go.Proofs.Ytgimcnpkngpmiaa.PPostmark.Postmark.mk t_22_id t_22_town t_22_kind_ t_22_first t_22_last t_22_lost)) (day)  _    qt_34).mono ?_
          rintro e_t_34 wt_34 ⟨rfl, bt_34⟩
          have HBwt_34 := Lib.hid (Below.step HBwr0.out bt_34)
          replace ct_22_0 := cell_below bt_34 ct_22_0
          replace ct_22_1 := cell_below bt_34 ct_22_1
          replace ct_22_2 := cell_below bt_34 ct_22_2
          replace ct_22_3 := cell_below bt_34 ct_22_3
          replace ct_22_4 := cell_below bt_34 ct_22_4
          replace ct_22_5 := cell_below bt_34 ct_22_5
          replace Oout_6l0 := Lib.hid (own_below Oout_6l0.out bt_34)
          clear bt_34
          cases t_34 with
          | false =>
            replace H := let_hid H
            obtain ⟨t_35, ht_35, H⟩ := H
            obtain rfl : t_35 = true := ht_35.symm
            have hb_1 : out_6l0.length ≤ 9223372036854775807 := own_max Oout_6l0.out
            go_wp2_with fail
            go_loopg [11, 10] (out_6l0.length) (fun m_ v11_ v10_ wr => ∃ (k1 : Nat) (known_10l1 : Bool), k1 + m_ = out_6l0.length ∧ v11_ = .int .i64 (k1 : Int) ∧ v10_ = .bool known_10l1 ∧ Hid (cntK (l1 out_6l0 t_22_town) m_ k1 (known_10l1) (e1 fuel (fun s' => cntK (l0 list day fuel) m0 (k0 + 1) s' (e0 )) out_6l0 t_22_town) = some (r0, r1)) ∧ Hid (Below w.heap.size w wr) ∧ Hid (wr.ownsRow w.heap.size 9 1 (.slice Aout_6l0 out_6l0.length cout_6l0) out_6l0.length (out_6l0.map Value.string)))
            case atStart => exact ⟨0, _, by omega, rfl, rfl, H, HBwt_34, Oout_6l0⟩
            case round =>
              obtain ⟨k1, known_10l1, hkm1, rfl, rfl, H, HBwr1, Oout_6l0⟩ := hrel
              rename World => wr1
              cases gk with
              | zero =>
                obtain rfl : k1 = out_6l0.length := by omega
                have hc1 : decide (((out_6l0.length : Nat) : Int) < ((out_6l0.length : Nat) : Int)) = false := by simp
                replace H := cnt_zero H
                unfold e1 at H
                replace H := let_hid H
                obtain ⟨_, rfl, H⟩ := H
                go_wp2_with fail
                go_loopg [9] (fuel) (fun m_ v9_ wr => ∃ (k_9l2 : Int), v9_ = .int .i64 k_9l2 ∧ Hid (loopK (l2 out_6l0 t_22_town) m_ (k_9l2) (e2 (fun s' => cntK (l0 list day fuel) m0 (k0 + 1) s' (e0 )) out_6l0 t_22_town known_10l1) = some (r0, r1)) ∧ Hid (Below w.heap.size w wr) ∧ Hid (wr.ownsRow w.heap.size 9 1 (.slice Aout_6l0 out_6l0.length cout_6l0) out_6l0.length (out_6l0.map Value.string)))
                case atStart => exact ⟨_, rfl, H, HBwr1, Oout_6l0⟩
                case round =>
                  obtain ⟨k_9l2, rfl, H, HBwr2, Oout_6l0⟩ := hrel
                  rename World => wr2
                  cases gk with
                  | zero => exact (loop_zero H).elim
                  | succ m2 =>
                    replace H := loop_succ H
                    unfold l2 at H
                    replace H := let_hid H
                    obtain ⟨_, rfl, H⟩ := H
                    replace H := let_hid H
                    obtain ⟨t_56, ht_56, H⟩ := H
                    replace H := join_hid H
                    cases t_56 with
                    | false =>
                      replace H := ite_f H
                      replace H := app_hid H
                      replace H := ite_f H
                      replace H := app_hid H
                      unfold e2 at H
                      replace H := let_hid H
                      obtain ⟨_, rfl, H⟩ := H
                      cases known_10l1 with
                      | false =>
                        replace H := let_hid H
                        obtain ⟨t_70, ht_70, H⟩ := H
                        obtain rfl : t_70 = true := ht_70.symm
                        replace H := ite_t H
                        go_wp2_with fail
                        have bd17 : Below wr2.heap.size wr2 wr2.drew := (Below.refl _ _).drew
                        have HBwr2.drew := Lib.hid (Below.step HBwr2.out bd17)
                        replace Oout_6l0 := Lib.hid (own_below Oout_6l0.out bd17)
                        clear bd17
                        replace H := guard_hid H
                        obtain ⟨hl_t_74, H⟩ := H
                        replace H := let_hid H
                        obtain ⟨t_74, ht_74, H⟩ := H
                        have hht_74 := Lib.hid ht_74
                        have hgt_74 := Lib.hid hl_t_74
                        clear ht_74
                        clear hl_t_74
                        replace H := guard_hid H
                        obtain ⟨hlt_75, H⟩ := H
                        replace H := let_hid H
                        obtain ⟨t_75, ht_75, H⟩ := H
                        have hht_75 := Lib.hid ht_75
                        clear ht_75
                        replace H := guard_hid H
                        obtain ⟨hlt_78, H⟩ := H
                        replace H := let_hid H
                        obtain ⟨t_78, ht_78, H⟩ := H
                        have hht_78 := Lib.hid ht_78
                        clear ht_78
                        replace H := guard_hid H
                        obtain ⟨hl_t_81, H⟩ := H
                        replace H := let_hid H
                        obtain ⟨t_81, ht_81, H⟩ := H
                        have hht_81 := Lib.hid ht_81
                        have hgt_81 := Lib.hid hl_t_81
                        clear ht_81
                        clear hl_t_81
                        replace H := guard_hid H
                        obtain ⟨hlt_82, H⟩ := H
                        replace H := let_hid H
                        obtain ⟨t_82, ht_82, H⟩ := H
                        have hht_82 := Lib.hid ht_82
                        clear ht_82
                        obtain ⟨At_74_p472, ct_74_p472, rt_74_p472, mt_74_p472, qt_74_p472⟩ := Go.Proofs.Ytgimcnpkngpmiaa.GoD.slice_viewH (P := Try.prog) (t := 47) (e := 9) (k := .i64) (ys := (t_74.map Value.string)) (m := t_74.length) (by kernel_rfl) (by kernel_rfl) hi_9 hz1_9 Oout_6l0.out (by have h_ := hgt_74.out; omega) (by have h_ := hgt_74.out; rw [← hht_74.out, List.length_take] <;> omega) (by rw [← hht_74.out]; simp [List.map_take])
                        have Mt_74_p472 := Lib.hid mt_74_p472
                        have Qt_74_p472 := Lib.hid qt_74_p472
                        have Nt_74_p472 : Hid (t_74.length ≤ 9223372036854775807) := Lib.hid (by have h_ := own_max Oout_6l0.out; rw [← hht_74.out, List.length_take] <;> omega)
                        obtain ⟨At_81_p473, ct_81_p473, rt_81_p473, mt_81_p473, qt_81_p473⟩ := Go.Proofs.Ytgimcnpkngpmiaa.GoD.slice_view (P := Try.prog) (t := 47) (e := 9) (k := .i64) (ys := (t_81.map Value.string)) (m := t_81.length) (by kernel_rfl) (by kernel_rfl) hi_9 hz1_9 Oout_6l0.out (by have h_ := hgt_81.out; omega) (by rw [← hht_81.out, List.length_drop] <;> omega) (by rw [← hht_81.out]; simp [List.map_drop])
                        have Mt_81_p473 := Lib.hid mt_81_p473
                        have Qt_81_p473 := Lib.hid qt_81_p473
                        have Nt_81_p473 : Hid (t_81.length ≤ 9223372036854775807) := Lib.hid (by have h_ := own_max Oout_6l0.out; rw [← hht_81.out, List.length_drop] <;> omega)
                        obtain ⟨w_t_71_p474, hw_t_71_p474⟩ : ∃ x, wr2.drew.alloc (.cells #[] 9) = x := ⟨_, rfl⟩
                        have bw_t_71_p474 : Below wr2.drew.heap.size wr2.drew w_t_71_p474 := by rw [← hw_t_71_p474]; exact (Below.refl _ _).alloc (Nat.le_refl _) _
                        have Ot_71_p474 : Hid (w_t_71_p474.ownsRow w.heap.size 9 1 (.slice (some ⟨wr2.heap.size, 0, none⟩) 0 0) 0 []) := Lib.hid (by rw [← hw_t_71_p474]; exact own_empty HBwr2.drew.out.size)
                        have Dt_71_out_6l0_p474 := Lib.hid (apart_fresh Oout_6l0.out)
                        have HBw_t_71_p474 := Lib.hid (Below.step HBwr2.drew.out bw_t_71_p474)
                        have Oout_6l0_p474 := Lib.hid (own_below Oout_6l0.out bw_t_71_p474)
                        obtain ⟨w_t_77_p479, hw_t_77_p479⟩ : ∃ x, w_t_71_p474.alloc (.cells #[.string t_22_town] 9) = x := ⟨_, rfl⟩
                        have bw_t_77_p479 : Below w_t_71_p474.heap.size w_t_71_p474 w_t_77_p479 := by rw [← hw_t_77_p479]; exact (Below.refl _ _).alloc (Nat.le_refl _) _
                        have Ot_77_p479 : Hid (w_t_77_p479.ownsRow w.heap.size 9 1 (.slice (some ⟨w_t_71_p474.heap.size, 0, none⟩) 1 1) 1 [.string t_22_town]) := Lib.hid (by rw [← hw_t_77_p479]; exact own_laid (n := 1) HBw_t_71_p474.out.size (rfl : ([.string t_22_town] : List Value) = [.string t_22_town]) rfl (by unfold maxLen; omega))
                        have Dt_77_out_6l0_p479 := Lib.hid (apart_fresh Oout_6l0_p474.out)
                        have Dt_77_t_71_p479 := Lib.hid (apart_fresh Ot_71_p474.out)
                        have HBw_t_77_p479 := Lib.hid (Below.step HBw_t_71_p474.out bw_t_77_p479)
                        have Oout_6l0_p474_p479 := Lib.hid (own_below Oout_6l0_p474.out bw_t_77_p479)
                        have Ot_71_p474_p479 := Lib.hid (own_below Ot_71_p474.out bw_t_77_p479)
                        obtain ⟨w_t_77_p483, hw_t_77_p483⟩ : ∃ x, wr2.drew.alloc (.cells #[.string t_22_town] 9) = x := ⟨_, rfl⟩
                        have bw_t_77_p483 : Below wr2.drew.heap.size wr2.drew w_t_77_p483 := by rw [← hw_t_77_p483]; exact (Below.refl _ _).alloc (Nat.le_refl _) _
                        have Ot_77_p483 : Hid (w_t_77_p483.ownsRow w.heap.size 9 1 (.slice (some ⟨wr2.heap.size, 0, none⟩) 1 1) 1 [.string t_22_town]) := Lib.hid (by rw [← hw_t_77_p483]; exact own_laid (n := 1) HBwr2.drew.out.size (rfl : ([.string t_22_town] : List Value) = [.string t_22_town]) rfl (by unfold maxLen; omega))
                        have Dt_77_out_6l0_p483 := Lib.hid (apart_fresh Oout_6l0.out)
                        have HBw_t_77_p483 := Lib.hid (Below.step HBwr2.drew.out bw_t_77_p483)
                        have Oout_6l0_p483 := Lib.hid (own_below Oout_6l0.out bw_t_77_p483)
                        obtain ⟨w_t_71_p484, hw_t_71_p484⟩ : ∃ x, w_t_77_p483.alloc (.cells #[] 9) = x := ⟨_, rfl⟩
                        have bw_t_71_p484 : Below w_t_77_p483.heap.size w_t_77_p483 w_t_71_p484 := by rw [← hw_t_71_p484]; exact (Below.refl _ _).alloc (Nat.le_refl _) _
                        have Ot_71_p484 : Hid (w_t_71_p484.ownsRow w.heap.size 9 1 (.slice (some ⟨w_t_77_p483.heap.size, 0, none⟩) 0 0) 0 []) := Lib.hid (by rw [← hw_t_71_p484]; exact own_empty HBw_t_77_p483.out.size)
                        have Dt_71_out_6l0_p484 := Lib.hid (apart_fresh Oout_6l0_p483.out)
                        have Dt_71_t_77_p484 := Lib.hid (apart_fresh Ot_77_p483.out)
                        have HBw_t_71_p484 := Lib.hid (Below.step HBw_t_77_p483.out bw_t_71_p484)
                        have Oout_6l0_p483_p484 := Lib.hid (own_below Oout_6l0_p483.out bw_t_71_p484)
                        have Ot_77_p483_p484 := Lib.hid (own_below Ot_77_p483.out bw_t_71_p484)
                        go_region_held3 (fun w' => Hid (0 ≤ w'.heap.size)) (first | exact Lib.hid (Nat.zero_le _))
                            (first
                              | (have hst_75_p475 := HBw_t_71_p474.out.size
                                 have Ct_75_p475 := Lib.hid ((Mt_74_p472.out _ Oout_6l0_p474.out))
                                 have h1t_75_p475 : 0 + t_74.length ≤ maxLen := by have h_ := hlt_75; simp only [List.length_nil] at h_; unfold maxLen; omega
                                 have h2t_75_p475 : (0 + t_74.length) * 16 ≤ 140737488355328 := by have h_ := hlt_75; simp only [List.length_nil] at h_; omega
                                 refine Go.Proofs.Ytgimcnpkngpmiaa.GoH.step_spread_own (w := w_t_71_p474) rfl (.tmp 72) (.tmp 75) 47 rfl w.heap.size 9 i0_9 (.string ByteArray.empty) 1 16 Try.underlying47 hi_9 hz0_9 hz1_9 hz2_9 rfl (by decide) (some ⟨wr2.heap.size, 0, none⟩) 0 0 _ rfl Ot_71_p474.out At_74_p472 t_74.length ct_74_p472 (t_74.map Value.string) rfl Qt_74_p472.out Ct_75_p475.out (fun u hu => by obtain ⟨y_, _, rfl⟩ := List.mem_map.1 hu; rfl) h1t_75_p475 h2t_75_p475 hst_75_p475 ?_
                                 intro vt_75_p475 wt_75_p475 ot_75_p475 gt_75_p475 yt_75_p475
                                 obtain ⟨At_75_p475, ct_75_p475, rfl, pt_75_p475⟩ := own_pushS (f := (fun z => z.map Value.string)) hht_75.out (by simp) rfl ot_75_p475
                                 have Pt_75_p475 := Lib.hid pt_75_p475
                                 have Yt_75_p475 := Lib.hid yt_75_p475
                                 have Gt_75_p475 := Lib.hid gt_75_p475
                                 have HBwt_75_p475 := Lib.hid (HBw_t_71_p474.out.grown Gt_75_p475.out hst_75_p475 (fun q hq => (Ot_71_p474.out.lt q hq).1))
                                 have Dt_75_out_6l0_p475 : Hid (Apart At_75_p475 _) := Lib.hid (apart_app Dt_71_out_6l0_p474.out (fun a_ ha_ => (own_lt Oout_6l0_p474.out a_ ha_).2) Yt_75_p475.out)
                                 have Oout_6l0_p474_p475 := Lib.hid (own_other Oout_6l0_p474.out Gt_75_p475.out Dt_71_out_6l0_p474.out)
                                 obtain ⟨w_t_77_p476, hw_t_77_p476⟩ : ∃ x, wt_75_p475.alloc (.cells #[.string t_22_town] 9) = x := ⟨_, rfl⟩
                                 have bw_t_77_p476 : Below wt_75_p475.heap.size wt_75_p475 w_t_77_p476 := by rw [← hw_t_77_p476]; exact (Below.refl _ _).alloc (Nat.le_refl _) _
                                 have Ot_77_p476 : Hid (w_t_77_p476.ownsRow w.heap.size 9 1 (.slice (some ⟨wt_75_p475.heap.size, 0, none⟩) 1 1) 1 [.string t_22_town]) := Lib.hid (by rw [← hw_t_77_p476]; exact own_laid (n := 1) HBwt_75_p475.out.size (rfl : ([.string t_22_town] : List Value) = [.string t_22_town]) rfl (by unfold maxLen; omega))
                                 have Dt_77_out_6l0_p476 := Lib.hid (apart_fresh Oout_6l0_p474_p475.out)
                                 have Dt_77_t_75_p476 := Lib.hid (apart_fresh Pt_75_p475.out)
                                 have HBw_t_77_p476 := Lib.hid (Below.step HBwt_75_p475.out bw_t_77_p476)
                                 have Oout_6l0_p474_p475_p476 := Lib.hid (own_below Oout_6l0_p474_p475.out bw_t_77_p476)
                                 have Pt_75_p475_p476 := Lib.hid (own_below Pt_75_p475.out bw_t_77_p476))
                              | (have hst_78_p477 := HBw_t_77_p476.out.size
                                 have h1t_78_p477 : t_75.length + 1 ≤ maxLen := by unfold maxLen; omega
                                 have h2t_78_p477 : (t_75.length + 1) * 16 ≤ 140737488355328 := by omega
                                 have h3t_78_p477 := Ot_77_p476.out.cells rfl
                                 refine Go.Proofs.Ytgimcnpkngpmiaa.GoH.step_append_own (w := w_t_77_p476) rfl (.tmp 76) (.tmp 78) 47 rfl w.heap.size 9 i0_9 (.string ByteArray.empty) 1 16 Try.underlying47 hi_9 hz0_9 hz1_9 hz2_9 rfl (by decide) At_75_p475 ct_75_p475 t_75.length _ rfl Pt_75_p475_p476.out ⟨wt_75_p475.heap.size, 0, none⟩ 1 [.string t_22_town] rfl rfl h3t_78_p477 (one_cells rfl) h1t_78_p477 h2t_78_p477 hst_78_p477 ?_
                                 intro vt_78_p477 wt_78_p477 ot_78_p477 gt_78_p477 yt_78_p477
                                 obtain ⟨qt_78_p477, ct_78_p477, rfl, pt_78_p477⟩ := own_push hht_78.out (by simp) rfl ot_78_p477
                                 have Pt_78_p477 := Lib.hid pt_78_p477
                                 have Yt_78_p477 := Lib.hid yt_78_p477
                                 have Gt_78_p477 := Lib.hid gt_78_p477
                                 have HBwt_78_p477 := Lib.hid (HBw_t_77_p476.out.grown Gt_78_p477.out hst_78_p477 (fun q hq => (Pt_75_p475_p476.out.lt q hq).1))
                                 have Dt_78_out_6l0_p477 : Hid (Apart (some ⟨qt_78_p477, 0, none⟩) _) := Lib.hid (apart_app Dt_75_out_6l0_p475.out (fun a_ ha_ => (own_lt Oout_6l0_p474_p475_p476.out a_ ha_).2) Yt_78_p477.out)
                                 have Dt_78_t_77_p477 : Hid (Apart (some ⟨qt_78_p477, 0, none⟩) _) := Lib.hid (apart_app (Apart.symm Dt_77_t_75_p476.out) (fun a_ ha_ => (own_lt Ot_77_p476.out a_ ha_).2) Yt_78_p477.out)
                                 have Oout_6l0_p474_p475_p476_p477 := Lib.hid (own_other Oout_6l0_p474_p475_p476.out Gt_78_p477.out Dt_75_out_6l0_p475.out)
                                 have Ot_77_p476_p477 := Lib.hid (own_other Ot_77_p476.out Gt_78_p477.out (Apart.symm Dt_77_t_75_p476.out)))
                              | (have hst_82_p478 := HBwt_78_p477.out.size
                                 have Ct_82_p478 := Lib.hid ((Mt_81_p473.out _ Oout_6l0_p474_p475_p476_p477.out))
                                 have h1t_82_p478 : t_78.length + t_81.length ≤ maxLen := by have h_ := hlt_82; unfold maxLen; omega
                                 have h2t_82_p478 : (t_78.length + t_81.length) * 16 ≤ 140737488355328 := by have h_ := hlt_82; omega
                                 refine Go.Proofs.Ytgimcnpkngpmiaa.GoH.step_spread_own (w := wt_78_p477) rfl (.tmp 79) (.tmp 82) 47 rfl w.heap.size 9 i0_9 (.string ByteArray.empty) 1 16 Try.underlying47 hi_9 hz0_9 hz1_9 hz2_9 rfl (by decide) (some ⟨qt_78_p477, 0, none⟩) ct_78_p477 t_78.length _ rfl Pt_78_p477.out At_81_p473 t_81.length ct_81_p473 (t_81.map Value.string) rfl Qt_81_p473.out Ct_82_p478.out (fun u hu => by obtain ⟨y_, _, rfl⟩ := List.mem_map.1 hu; rfl) h1t_82_p478 h2t_82_p478 hst_82_p478 ?_
                                 intro vt_82_p478 wt_82_p478 ot_82_p478 gt_82_p478 yt_82_p478
                                 obtain ⟨At_82_p478, ct_82_p478, rfl, pt_82_p478⟩ := own_pushS (f := (fun z => z.map Value.string)) hht_82.out (by simp) rfl ot_82_p478
                                 have Pt_82_p478 := Lib.hid pt_82_p478
                                 have Yt_82_p478 := Lib.hid yt_82_p478
                                 have Gt_82_p478 := Lib.hid gt_82_p478
                                 have HBwt_82_p478 := Lib.hid (HBwt_78_p477.out.grown Gt_82_p478.out hst_82_p478 (fun q hq => (Pt_78_p477.out.lt q hq).1))
                                 have Dt_82_out_6l0_p478 : Hid (Apart At_82_p478 _) := Lib.hid (apart_app Dt_78_out_6l0_p477.out (fun a_ ha_ => (own_lt Oout_6l0_p474_p475_p476_p477.out a_ ha_).2) Yt_82_p478.out)
                                 have Oout_6l0_p474_p475_p476_p477_p478 := Lib.hid (own_other Oout_6l0_p474_p475_p476_p477.out Gt_82_p478.out Dt_78_out_6l0_p477.out))
                              | (have hst_75_p480 := HBw_t_77_p479.out.size
                                 have Ct_75_p480 := Lib.hid ((Mt_74_p472.out _ Oout_6l0_p474_p479.out))
                                 have h1t_75_p480 : 0 + t_74.length ≤ maxLen := by have h_ := hlt_75; simp only [List.length_nil] at h_; unfold maxLen; omega
                                 have h2t_75_p480 : (0 + t_74.length) * 16 ≤ 140737488355328 := by have h_ := hlt_75; simp only [List.length_nil] at h_; omega
                                 refine Go.Proofs.Ytgimcnpkngpmiaa.GoH.step_spread_own (w := w_t_77_p479) rfl (.tmp 72) (.tmp 75) 47 rfl w.heap.size 9 i0_9 (.string ByteArray.empty) 1 16 Try.underlying47 hi_9 hz0_9 hz1_9 hz2_9 rfl (by decide) (some ⟨wr2.heap.size, 0, none⟩) 0 0 _ rfl Ot_71_p474_p479.out At_74_p472 t_74.length ct_74_p472 (t_74.map Value.string) rfl Qt_74_p472.out Ct_75_p480.out (fun u hu => by obtain ⟨y_, _, rfl⟩ := List.mem_map.1 hu; rfl) h1t_75_p480 h2t_75_p480 hst_75_p480 ?_
                                 intro vt_75_p480 wt_75_p480 ot_75_p480 gt_75_p480 yt_75_p480
                                 obtain ⟨At_75_p480, ct_75_p480, rfl, pt_75_p480⟩ := own_pushS (f := (fun z => z.map Value.string)) hht_75.out (by simp) rfl ot_75_p480
                                 have Pt_75_p480 := Lib.hid pt_75_p480
                                 have Yt_75_p480 := Lib.hid yt_75_p480
                                 have Gt_75_p480 := Lib.hid gt_75_p480
                                 have HBwt_75_p480 := Lib.hid (HBw_t_77_p479.out.grown Gt_75_p480.out hst_75_p480 (fun q hq => (Ot_71_p474_p479.out.lt q hq).1))
                                 have Dt_75_out_6l0_p480 : Hid (Apart At_75_p480 _) := Lib.hid (apart_app Dt_71_out_6l0_p474.out (fun a_ ha_ => (own_lt Oout_6l0_p474_p479.out a_ ha_).2) Yt_75_p480.out)
                                 have Dt_75_t_77_p480 : Hid (Apart At_75_p480 _) := Lib.hid (apart_app (Apart.symm Dt_77_t_71_p479.out) (fun a_ ha_ => (own_lt Ot_77_p479.out a_ ha_).2) Yt_75_p480.out)
                                 have Oout_6l0_p474_p479_p480 := Lib.hid (own_other Oout_6l0_p474_p479.out Gt_75_p480.out Dt_71_out_6l0_p474.out)
                                 have Ot_77_p479_p480 := Lib.hid (own_other Ot_77_p479.out Gt_75_p480.out (Apart.symm Dt_77_t_71_p479.out)))
                              | (have hst_78_p481 := HBwt_75_p480.out.size
                                 have h1t_78_p481 : t_75.length + 1 ≤ maxLen := by unfold maxLen; omega
                                 have h2t_78_p481 : (t_75.length + 1) * 16 ≤ 140737488355328 := by omega
                                 have h3t_78_p481 := Ot_77_p479_p480.out.cells rfl
                                 refine Go.Proofs.Ytgimcnpkngpmiaa.GoH.step_append_own (w := wt_75_p480) rfl (.tmp 76) (.tmp 78) 47 rfl w.heap.size 9 i0_9 (.string ByteArray.empty) 1 16 Try.underlying47 hi_9 hz0_9 hz1_9 hz2_9 rfl (by decide) At_75_p480 ct_75_p480 t_75.length _ rfl Pt_75_p480.out ⟨w_t_71_p474.heap.size, 0, none⟩ 1 [.string t_22_town] rfl rfl h3t_78_p481 (one_cells rfl) h1t_78_p481 h2t_78_p481 hst_78_p481 ?_
                                 intro vt_78_p481 wt_78_p481 ot_78_p481 gt_78_p481 yt_78_p481
                                 obtain ⟨qt_78_p481, ct_78_p481, rfl, pt_78_p481⟩ := own_push hht_78.out (by simp) rfl ot_78_p481
                                 have Pt_78_p481 := Lib.hid pt_78_p481
                                 have Yt_78_p481 := Lib.hid yt_78_p481
                                 have Gt_78_p481 := Lib.hid gt_78_p481
                                 have HBwt_78_p481 := Lib.hid (HBwt_75_p480.out.grown Gt_78_p481.out hst_78_p481 (fun q hq => (Pt_75_p480.out.lt q hq).1))
                                 have Dt_78_out_6l0_p481 : Hid (Apart (some ⟨qt_78_p481, 0, none⟩) _) := Lib.hid (apart_app Dt_75_out_6l0_p480.out (fun a_ ha_ => (own_lt Oout_6l0_p474_p479_p480.out a_ ha_).2) Yt_78_p481.out)
                                 have Dt_78_t_77_p481 : Hid (Apart (some ⟨qt_78_p481, 0, none⟩) _) := Lib.hid (apart_app Dt_75_t_77_p480.out (fun a_ ha_ => (own_lt Ot_77_p479_p480.out a_ ha_).2) Yt_78_p481.out)
                                 have Oout_6l0_p474_p479_p480_p481 := Lib.hid (own_other Oout_6l0_p474_p479_p480.out Gt_78_p481.out Dt_75_out_6l0_p480.out)
                                 have Ot_77_p479_p480_p481 := Lib.hid (own_other Ot_77_p479_p480.out Gt_78_p481.out Dt_75_t_77_p480.out))
                              | (have hst_82_p482 := HBwt_78_p481.out.size
                                 have Ct_82_p482 := Lib.hid ((Mt_81_p473.out _ Oout_6l0_p474_p479_p480_p481.out))
                                 have h1t_82_p482 : t_78.length + t_81.length ≤ maxLen := by have h_ := hlt_82; unfold maxLen; omega
                                 have h2t_82_p482 : (t_78.length + t_81.length) * 16 ≤ 140737488355328 := by have h_ := hlt_82; omega
                                 refine Go.Proofs.Ytgimcnpkngpmiaa.GoH.step_spread_own (w := wt_78_p481) rfl (.tmp 79) (.tmp 82) 47 rfl w.heap.size 9 i0_9 (.string ByteArray.empty) 1 16 Try.underlying47 hi_9 hz0_9 hz1_9 hz2_9 rfl (by decide) (some ⟨qt_78_p481, 0, none⟩) ct_78_p481 t_78.length _ rfl Pt_78_p481.out At_81_p473 t_81.length ct_81_p473 (t_81.map Value.string) rfl Qt_81_p473.out Ct_82_p482.out (fun u hu => by obtain ⟨y_, _, rfl⟩ := List.mem_map.1 hu; rfl) h1t_82_p482 h2t_82_p482 hst_82_p482 ?_
                                 intro vt_82_p482 wt_82_p482 ot_82_p482 gt_82_p482 yt_82_p482
                                 obtain ⟨At_82_p482, ct_82_p482, rfl, pt_82_p482⟩ := own_pushS (f := (fun z => z.map Value.string)) hht_82.out (by simp) rfl ot_82_p482
                                 have Pt_82_p482 := Lib.hid pt_82_p482
                                 have Yt_82_p482 := Lib.hid yt_82_p482
                                 have Gt_82_p482 := Lib.hid gt_82_p482
                                 have HBwt_82_p482 := Lib.hid (HBwt_78_p481.out.grown Gt_82_p482.out hst_82_p482 (fun q hq => (Pt_78_p481.out.lt q hq).1))
                                 have Dt_82_out_6l0_p482 : Hid (Apart At_82_p482 _) := Lib.hid (apart_app Dt_78_out_6l0_p481.out (fun a_ ha_ => (own_lt Oout_6l0_p474_p479_p480_p481.out a_ ha_).2) Yt_82_p482.out)
                                 have Oout_6l0_p474_p479_p480_p481_p482 := Lib.hid (own_other Oout_6l0_p474_p479_p480_p481.out Gt_82_p482.out Dt_78_out_6l0_p481.out))
                              | (have hst_75_p485 := HBw_t_71_p484.out.size
                                 have Ct_75_p485 := Lib.hid ((Mt_74_p472.out _ Oout_6l0_p483_p484.out))
                                 have h1t_75_p485 : 0 + t_74.length ≤ maxLen := by have h_ := hlt_75; simp only [List.length_nil] at h_; unfold maxLen; omega
                                 have h2t_75_p485 : (0 + t_74.length) * 16 ≤ 140737488355328 := by have h_ := hlt_75; simp only [List.length_nil] at h_; omega
                                 refine Go.Proofs.Ytgimcnpkngpmiaa.GoH.step_spread_own (w := w_t_71_p484) rfl (.tmp 72) (.tmp 75) 47 rfl w.heap.size 9 i0_9 (.string ByteArray.empty) 1 16 Try.underlying47 hi_9 hz0_9 hz1_9 hz2_9 rfl (by decide) (some ⟨w_t_77_p483.heap.size, 0, none⟩) 0 0 _ rfl Ot_71_p484.out At_74_p472 t_74.length ct_74_p472 (t_74.map Value.string) rfl Qt_74_p472.out Ct_75_p485.out (fun u hu => by obtain ⟨y_, _, rfl⟩ := List.mem_map.1 hu; rfl) h1t_75_p485 h2t_75_p485 hst_75_p485 ?_
                                 intro vt_75_p485 wt_75_p485 ot_75_p485 gt_75_p485 yt_75_p485
                                 obtain ⟨At_75_p485, ct_75_p485, rfl, pt_75_p485⟩ := own_pushS (f := (fun z => z.map Value.string)) hht_75.out (by simp) rfl ot_75_p485
                                 have Pt_75_p485 := Lib.hid pt_75_p485
                                 have Yt_75_p485 := Lib.hid yt_75_p485
                                 have Gt_75_p485 := Lib.hid gt_75_p485
                                 have HBwt_75_p485 := Lib.hid (HBw_t_71_p484.out.grown Gt_75_p485.out hst_75_p485 (fun q hq => (Ot_71_p484.out.lt q hq).1))
                                 have Dt_75_out_6l0_p485 : Hid (Apart At_75_p485 _) := Lib.hid (apart_app Dt_71_out_6l0_p484.out (fun a_ ha_ => (own_lt Oout_6l0_p483_p484.out a_ ha_).2) Yt_75_p485.out)
                                 have Dt_75_t_77_p485 : Hid (Apart At_75_p485 _) := Lib.hid (apart_app Dt_71_t_77_p484.out (fun a_ ha_ => (own_lt Ot_77_p483_p484.out a_ ha_).2) Yt_75_p485.out)
                                 have Oout_6l0_p483_p484_p485 := Lib.hid (own_other Oout_6l0_p483_p484.out Gt_75_p485.out Dt_71_out_6l0_p484.out)
                                 have Ot_77_p483_p484_p485 := Lib.hid (own_other Ot_77_p483_p484.out Gt_75_p485.out Dt_71_t_77_p484.out))
                              | (have hst_78_p486 := HBwt_75_p485.out.size
                                 have h1t_78_p486 : t_75.length + 1 ≤ maxLen := by unfold maxLen; omega
                                 have h2t_78_p486 : (t_75.length + 1) * 16 ≤ 140737488355328 := by omega
                                 have h3t_78_p486 := Ot_77_p483_p484_p485.out.cells rfl
                                 refine Go.Proofs.Ytgimcnpkngpmiaa.GoH.step_append_own (w := wt_75_p485) rfl (.tmp 76) (.tmp 78) 47 rfl w.heap.size 9 i0_9 (.string ByteArray.empty) 1 16 Try.underlying47 hi_9 hz0_9 hz1_9 hz2_9 rfl (by decide) At_75_p485 ct_75_p485 t_75.length _ rfl Pt_75_p485.out ⟨wr2.heap.size, 0, none⟩ 1 [.string t_22_town] rfl rfl h3t_78_p486 (one_cells rfl) h1t_78_p486 h2t_78_p486 hst_78_p486 ?_
                                 intro vt_78_p486 wt_78_p486 ot_78_p486 gt_78_p486 yt_78_p486
                                 obtain ⟨qt_78_p486, ct_78_p486, rfl, pt_78_p486⟩ := own_push hht_78.out (by simp) rfl ot_78_p486
                                 have Pt_78_p486 := Lib.hid pt_78_p486
                                 have Yt_78_p486 := Lib.hid yt_78_p486
                                 have Gt_78_p486 := Lib.hid gt_78_p486
                                 have HBwt_78_p486 := Lib.hid (HBwt_75_p485.out.grown Gt_78_p486.out hst_78_p486 (fun q hq => (Pt_75_p485.out.lt q hq).1))
                                 have Dt_78_out_6l0_p486 : Hid (Apart (some ⟨qt_78_p486, 0, none⟩) _) := Lib.hid (apart_app Dt_75_out_6l0_p485.out (fun a_ ha_ => (own_lt Oout_6l0_p483_p484_p485.out a_ ha_).2) Yt_78_p486.out)
                                 have Dt_78_t_77_p486 : Hid (Apart (some ⟨qt_78_p486, 0, none⟩) _) := Lib.hid (apart_app Dt_75_t_77_p485.out (fun a_ ha_ => (own_lt Ot_77_p483_p484_p485.out a_ ha_).2) Yt_78_p486.out)
                                 have Oout_6l0_p483_p484_p485_p486 := Lib.hid (own_other Oout_6l0_p483_p484_p485.out Gt_78_p486.out Dt_75_out_6l0_p485.out)
                                 have Ot_77_p483_p484_p485_p486 := Lib.hid (own_other Ot_77_p483_p484_p485.out Gt_78_p486.out Dt_75_t_77_p485.out))
                              | (have hst_82_p487 := HBwt_78_p486.out.size
                                 have Ct_82_p487 := Lib.hid ((Mt_81_p473.out _ Oout_6l0_p483_p484_p485_p486.out))
                                 have h1t_82_p487 : t_78.length + t_81.length ≤ maxLen := by have h_ := hlt_82; unfold maxLen; omega
                                 have h2t_82_p487 : (t_78.length + t_81.length) * 16 ≤ 140737488355328 := by have h_ := hlt_82; omega
                                 refine Go.Proofs.Ytgimcnpkngpmiaa.GoH.step_spread_own (w := wt_78_p486) rfl (.tmp 79) (.tmp 82) 47 rfl w.heap.size 9 i0_9 (.string ByteArray.empty) 1 16 Try.underlying47 hi_9 hz0_9 hz1_9 hz2_9 rfl (by decide) (some ⟨qt_78_p486, 0, none⟩) ct_78_p486 t_78.length _ rfl Pt_78_p486.out At_81_p473 t_81.length ct_81_p473 (t_81.map Value.string) rfl Qt_81_p473.out Ct_82_p487.out (fun u hu => by obtain ⟨y_, _, rfl⟩ := List.mem_map.1 hu; rfl) h1t_82_p487 h2t_82_p487 hst_82_p487 ?_
                                 intro vt_82_p487 wt_82_p487 ot_82_p487 gt_82_p487 yt_82_p487
                                 obtain ⟨At_82_p487, ct_82_p487, rfl, pt_82_p487⟩ := own_pushS (f := (fun z => z.map Value.string)) hht_82.out (by simp) rfl ot_82_p487
                                 have Pt_82_p487 := Lib.hid pt_82_p487
                                 have Yt_82_p487 := Lib.hid yt_82_p487
                                 have Gt_82_p487 := Lib.hid gt_82_p487
                                 have HBwt_82_p487 := Lib.hid (HBwt_78_p486.out.grown Gt_82_p487.out hst_82_p487 (fun q hq => (Pt_78_p486.out.lt q hq).1))
                                 have Dt_82_out_6l0_p487 : Hid (Apart At_82_p487 _) := Lib.hid (apart_app Dt_78_out_6l0_p486.out (fun a_ ha_ => (own_lt Oout_6l0_p483_p484_p485_p486.out a_ ha_).2) Yt_82_p487.out)
                                 have Oout_6l0_p483_p484_p485_p486_p487 := Lib.hid (own_other Oout_6l0_p483_p484_p485_p486.out Gt_82_p487.out Dt_78_out_6l0_p486.out)))
                        · skip
                          replace H := app_hid H
                          go_wp2_with fail
                          go_roundg m0
                          case measure => omega
                          case rel => exact ⟨k0 + 1, _, _, _, by omega, by go_num, rfl, H, HBwt_82_p478, Pt_82_p478⟩
                        · skip
                          replace H := app_hid H
                          go_wp2_with fail
                          go_roundg m0
                          case measure => omega
                          case rel => exact ⟨k0 + 1, _, _, _, by omega, by go_num, rfl, H, HBwt_82_p482, Pt_82_p482⟩
                        · skip
                          replace H := app_hid H
                          go_wp2_with fail
                          go_roundg m0
                          case measure => omega
                          case rel => exact ⟨k0 + 1, _, _, _, by omega, by go_num, rfl, H, HBwt_82_p487, Pt_82_p487⟩
                      | true =>
                        replace H := let_hid H
                        obtain ⟨t_70, ht_70, H⟩ := H
                        obtain rfl : t_70 = false := ht_70.symm
                        replace H := ite_f H
                        replace H := app_hid H
                        go_wp2_with fail
                        go_roundg m0
                        case measure => omega
                        case rel => exact ⟨k0 + 1, _, _, _, by omega, by go_num, rfl, H, HBwr2, Oout_6l0⟩
                    | true =>
                      replace H := ite_t H
                      replace H := let_hid H
                      obtain ⟨t_61, ht_61, H⟩ := H
                      replace H := idx_hid H
                      obtain ⟨nt_62, yt_62, et_62, lt_62, gt_62, H⟩ := H
                      subst et_62
                      obtain ⟨qt_62, Qt_62⟩ := own_some Oout_6l0.out (by omega)
                      subst Qt_62
                      obtain ⟨ab_t_62, ao_t_62, zt_62, At_62, z_t_62, ct_62_0⟩ := strs_at (own_cells Oout_6l0.out) (k := nt_62) (by omega)
                      obtain rfl := Option.some.inj (gt_62.out.symm.trans z_t_62)
                      simp only [Option.some.injEq, Addr.mk.injEq] at At_62
                      obtain ⟨rfl, rfl, _⟩ := At_62
                      clear z_t_62
                      simp only [Nat.zero_add] at ct_62_0
                      have b0t_62 : (0 : Int) ≤ (nt_62 : Int) := by omega
                      have b1t_62 : (nt_62 : Int) < ((out_6l0.length : Nat) : Int) := by omega
                      have b2t_62 : ((nt_62 : Int)).toNat = nt_62 := by omega
                      replace H := let_hid H
                      obtain ⟨t_64, ht_64, H⟩ := H
                      replace H := app_hid H
                      cases t_64 with
                      | false =>
                        replace H := ite_f H
                        replace H := app_hid H
                        unfold e2 at H
                        replace H := let_hid H
                        obtain ⟨_, rfl, H⟩ := H
                        cases known_10l1 with
                        | false =>
                          replace H := let_hid H
                          obtain ⟨t_70, ht_70, H⟩ := H
                          obtain rfl : t_70 = true := ht_70.symm
                          replace H := ite_t H
                          go_wp2_with fail
                          have bd17 : Below wr2.heap.size wr2 wr2.drew := (Below.refl _ _).drew
                          have HBwr2.drew := Lib.hid (Below.step HBwr2.out bd17)
                          replace ct_62_0 := cell_below bd17 ct_62_0
                          replace Oout_6l0 := Lib.hid (own_below Oout_6l0.out bd17)
                          clear bd17
                          replace H := guard_hid H
                          obtain ⟨hl_t_74, H⟩ := H
                          replace H := let_hid H
                          obtain ⟨t_74, ht_74, H⟩ := H
                          have hht_74 := Lib.hid ht_74
                          have hgt_74 := Lib.hid hl_t_74
                          clear ht_74
                          clear hl_t_74
                          replace H := guard_hid H
                          obtain ⟨hlt_75, H⟩ := H
                          replace H := let_hid H
                          obtain ⟨t_75, ht_75, H⟩ := H
                          have hht_75 := Lib.hid ht_75
                          clear ht_75
                          replace H := guard_hid H
                          obtain ⟨hlt_78, H⟩ := H
                          replace H := let_hid H
                          obtain ⟨t_78, ht_78, H⟩ := H
                          have hht_78 := Lib.hid ht_78
                          clear ht_78
                          replace H := guard_hid H
                          obtain ⟨hl_t_81, H⟩ := H
                          replace H := let_hid H
                          obtain ⟨t_81, ht_81, H⟩ := H
                          have hht_81 := Lib.hid ht_81
                          have hgt_81 := Lib.hid hl_t_81
                          clear ht_81
                          clear hl_t_81
                          replace H := guard_hid H
                          obtain ⟨hlt_82, H⟩ := H
                          replace H := let_hid H
                          obtain ⟨t_82, ht_82, H⟩ := H
                          have hht_82 := Lib.hid ht_82
                          clear ht_82
                          obtain ⟨At_74_p490, ct_74_p490, rt_74_p490, mt_74_p490, qt_74_p490⟩ := Go.Proofs.Ytgimcnpkngpmiaa.GoD.slice_viewH (P := Try.prog) (t := 47) (e := 9) (k := .i64) (ys := (t_74.map Value.string)) (m := t_74.length) (by kernel_rfl) (by kernel_rfl) hi_9 hz1_9 Oout_6l0.out (by have h_ := hgt_74.out; omega) (by have h_ := hgt_74.out; rw [← hht_74.out, List.length_take] <;> omega) (by rw [← hht_74.out]; simp [List.map_take])
                          have Mt_74_p490 := Lib.hid mt_74_p490
                          have Qt_74_p490 := Lib.hid qt_74_p490
                          have Nt_74_p490 : Hid (t_74.length ≤ 9223372036854775807) := Lib.hid (by have h_ := own_max Oout_6l0.out; rw [← hht_74.out, List.length_take] <;> omega)
                          obtain ⟨At_81_p491, ct_81_p491, rt_81_p491, mt_81_p491, qt_81_p491⟩ := Go.Proofs.Ytgimcnpkngpmiaa.GoD.slice_view (P := Try.prog) (t := 47) (e := 9) (k := .i64) (ys := (t_81.map Value.string)) (m := t_81.length) (by kernel_rfl) (by kernel_rfl) hi_9 hz1_9 Oout_6l0.out (by have h_ := hgt_81.out; omega) (by rw [← hht_81.out, List.length_drop] <;> omega) (by rw [← hht_81.out]; simp [List.map_drop])
                          have Mt_81_p491 := Lib.hid mt_81_p491
                          have Qt_81_p491 := Lib.hid qt_81_p491
                          have Nt_81_p491 : Hid (t_81.length ≤ 9223372036854775807) := Lib.hid (by have h_ := own_max Oout_6l0.out; rw [← hht_81.out, List.length_drop] <;> omega)
                          obtain ⟨w_t_71_p493, hw_t_71_p493⟩ : ∃ x, wr2.drew.alloc (.cells #[] 9) = x := ⟨_, rfl⟩
                          have bw_t_71_p493 : Below wr2.drew.heap.size wr2.drew w_t_71_p493 := by rw [← hw_t_71_p493]; exact (Below.refl _ _).alloc (Nat.le_refl _) _
                          have Ot_71_p493 : Hid (w_t_71_p493.ownsRow w.heap.size 9 1 (.slice (some ⟨wr2.heap.size, 0, none⟩) 0 0) 0 []) := Lib.hid (by rw [← hw_t_71_p493]; exact own_empty HBwr2.drew.out.size)
                          have Dt_71_out_6l0_p493 := Lib.hid (apart_fresh Oout_6l0.out)
                          have HBw_t_71_p493 := Lib.hid (Below.step HBwr2.drew.out bw_t_71_p493)
                          have ct_62_0__492_p493 := cell_below bw_t_71_p493 ct_62_0
                          have Oout_6l0_p493 := Lib.hid (own_below Oout_6l0.out bw_t_71_p493)
                          obtain ⟨w_t_77_p500, hw_t_77_p500⟩ : ∃ x, w_t_71_p493.alloc (.cells #[.string t_22_town] 9) = x := ⟨_, rfl⟩
                          have bw_t_77_p500 : Below w_t_71_p493.heap.size w_t_71_p493 w_t_77_p500 := by rw [← hw_t_77_p500]; exact (Below.refl _ _).alloc (Nat.le_refl _) _
                          have Ot_77_p500 : Hid (w_t_77_p500.ownsRow w.heap.size 9 1 (.slice (some ⟨w_t_71_p493.heap.size, 0, none⟩) 1 1) 1 [.string t_22_town]) := Lib.hid (by rw [← hw_t_77_p500]; exact own_laid (n := 1) HBw_t_71_p493.out.size (rfl : ([.string t_22_town] : List Value) = [.string t_22_town]) rfl (by unfold maxLen; omega))
                          have Dt_77_out_6l0_p500 := Lib.hid (apart_fresh Oout_6l0_p493.out)
                          have Dt_77_t_71_p500 := Lib.hid (apart_fresh Ot_71_p493.out)
                          have HBw_t_77_p500 := Lib.hid (Below.step HBw_t_71_p493.out bw_t_77_p500)
                          have ct_62_0__499_p500 := cell_below bw_t_77_p500 ct_62_0__492_p493
                          have Oout_6l0_p493_p500 := Lib.hid (own_below Oout_6l0_p493.out bw_t_77_p500)
                          have Ot_71_p493_p500 := Lib.hid (own_below Ot_71_p493.out bw_t_77_p500)
                          obtain ⟨w_t_77_p505, hw_t_77_p505⟩ : ∃ x, wr2.drew.alloc (.cells #[.string t_22_town] 9) = x := ⟨_, rfl⟩
                          have bw_t_77_p505 : Below wr2.drew.heap.size wr2.drew w_t_77_p505 := by rw [← hw_t_77_p505]; exact (Below.refl _ _).alloc (Nat.le_refl _) _
                          have Ot_77_p505 : Hid (w_t_77_p505.ownsRow w.heap.size 9 1 (.slice (some ⟨wr2.heap.size, 0, none⟩) 1 1) 1 [.string t_22_town]) := Lib.hid (by rw [← hw_t_77_p505]; exact own_laid (n := 1) HBwr2.drew.out.size (rfl : ([.string t_22_town] : List Value) = [.string t_22_town]) rfl (by unfold maxLen; omega))
                          have Dt_77_out_6l0_p505 := Lib.hid (apart_fresh Oout_6l0.out)
                          have HBw_t_77_p505 := Lib.hid (Below.step HBwr2.drew.out bw_t_77_p505)
                          have ct_62_0__504_p505 := cell_below bw_t_77_p505 ct_62_0
                          have Oout_6l0_p505 := Lib.hid (own_below Oout_6l0.out bw_t_77_p505)
                          obtain ⟨w_t_71_p507, hw_t_71_p507⟩ : ∃ x, w_t_77_p505.alloc (.cells #[] 9) = x := ⟨_, rfl⟩
                          have bw_t_71_p507 : Below w_t_77_p505.heap.size w_t_77_p505 w_t_71_p507 := by rw [← hw_t_71_p507]; exact (Below.refl _ _).alloc (Nat.le_refl _) _
                          have Ot_71_p507 : Hid (w_t_71_p507.ownsRow w.heap.size 9 1 (.slice (some ⟨w_t_77_p505.heap.size, 0, none⟩) 0 0) 0 []) := Lib.hid (by rw [← hw_t_71_p507]; exact own_empty HBw_t_77_p505.out.size)
                          have Dt_71_out_6l0_p507 := Lib.hid (apart_fresh Oout_6l0_p505.out)
                          have Dt_71_t_77_p507 := Lib.hid (apart_fresh Ot_77_p505.out)
                          have HBw_t_71_p507 := Lib.hid (Below.step HBw_t_77_p505.out bw_t_71_p507)
                          have ct_62_0__506_p507 := cell_below bw_t_71_p507 ct_62_0__504_p505
                          have Oout_6l0_p505_p507 := Lib.hid (own_below Oout_6l0_p505.out bw_t_71_p507)
                          have Ot_77_p505_p507 := Lib.hid (own_below Ot_77_p505.out bw_t_71_p507)
                          go_region_held3 (fun w' => w'.cell? ⟨qt_62, nt_62, none⟩ = some (.string yt_62)) (first | exact ct_62_0 | exact ct_62_0__492_p493 | exact ct_62_0__492_p493_p494 | exact ct_62_0__495_p496 | exact ct_62_0__495_p496_p497 | exact ct_62_0__495_p496_p497_p498 | exact ct_62_0__499_p500 | exact ct_62_0__499_p500_p501 | exact ct_62_0__499_p500_p501_p502 | exact ct_62_0__499_p500_p501_p502_p503 | exact ct_62_0__504_p505 | exact ct_62_0__506_p507 | exact ct_62_0__506_p507_p508 | exact ct_62_0__506_p507_p508_p509 | exact ct_62_0__506_p507_p508_p509_p510)
                              (first
                                | (have hst_75_p494 := HBw_t_71_p493.out.size
                                   have Ct_75_p494 := Lib.hid ((Mt_74_p490.out _ Oout_6l0_p493.out))
                                   have h1t_75_p494 : 0 + t_74.length ≤ maxLen := by have h_ := hlt_75; simp only [List.length_nil] at h_; unfold maxLen; omega
                                   have h2t_75_p494 : (0 + t_74.length) * 16 ≤ 140737488355328 := by have h_ := hlt_75; simp only [List.length_nil] at h_; omega
                                   refine Go.Proofs.Ytgimcnpkngpmiaa.GoH.step_spread_own (w := w_t_71_p493) rfl (.tmp 72) (.tmp 75) 47 rfl w.heap.size 9 i0_9 (.string ByteArray.empty) 1 16 Try.underlying47 hi_9 hz0_9 hz1_9 hz2_9 rfl (by decide) (some ⟨wr2.heap.size, 0, none⟩) 0 0 _ rfl Ot_71_p493.out At_74_p490 t_74.length ct_74_p490 (t_74.map Value.string) rfl Qt_74_p490.out Ct_75_p494.out (fun u hu => by obtain ⟨y_, _, rfl⟩ := List.mem_map.1 hu; rfl) h1t_75_p494 h2t_75_p494 hst_75_p494 ?_
                                   intro vt_75_p494 wt_75_p494 ot_75_p494 gt_75_p494 yt_75_p494
                                   obtain ⟨At_75_p494, ct_75_p494, rfl, pt_75_p494⟩ := own_pushS (f := (fun z => z.map Value.string)) hht_75.out (by simp) rfl ot_75_p494
                                   have Pt_75_p494 := Lib.hid pt_75_p494
                                   have Yt_75_p494 := Lib.hid yt_75_p494
                                   have Gt_75_p494 := Lib.hid gt_75_p494
                                   have HBwt_75_p494 := Lib.hid (HBw_t_71_p493.out.grown Gt_75_p494.out hst_75_p494 (fun q hq => (Ot_71_p493.out.lt q hq).1))
                                   have Dt_75_out_6l0_p494 : Hid (Apart At_75_p494 _) := Lib.hid (apart_app Dt_71_out_6l0_p493.out (fun a_ ha_ => (own_lt Oout_6l0_p493.out a_ ha_).2) Yt_75_p494.out)
                                   have ct_62_0__492_p493_p494 := cell_other ct_62_0__492_p493 Gt_75_p494.out Dt_71_out_6l0_p493.out
                                   have Oout_6l0_p493_p494 := Lib.hid (own_other Oout_6l0_p493.out Gt_75_p494.out Dt_71_out_6l0_p493.out)
                                   obtain ⟨w_t_77_p496, hw_t_77_p496⟩ : ∃ x, wt_75_p494.alloc (.cells #[.string t_22_town] 9) = x := ⟨_, rfl⟩
                                   have bw_t_77_p496 : Below wt_75_p494.heap.size wt_75_p494 w_t_77_p496 := by rw [← hw_t_77_p496]; exact (Below.refl _ _).alloc (Nat.le_refl _) _
                                   have Ot_77_p496 : Hid (w_t_77_p496.ownsRow w.heap.size 9 1 (.slice (some ⟨wt_75_p494.heap.size, 0, none⟩) 1 1) 1 [.string t_22_town]) := Lib.hid (by rw [← hw_t_77_p496]; exact own_laid (n := 1) HBwt_75_p494.out.size (rfl : ([.string t_22_town] : List Value) = [.string t_22_town]) rfl (by unfold maxLen; omega))
                                   have Dt_77_out_6l0_p496 := Lib.hid (apart_fresh Oout_6l0_p493_p494.out)
                                   have Dt_77_t_75_p496 := Lib.hid (apart_fresh Pt_75_p494.out)
                                   have HBw_t_77_p496 := Lib.hid (Below.step HBwt_75_p494.out bw_t_77_p496)
                                   have ct_62_0__495_p496 := cell_below bw_t_77_p496 ct_62_0__492_p493_p494
                                   have Oout_6l0_p493_p494_p496 := Lib.hid (own_below Oout_6l0_p493_p494.out bw_t_77_p496)
                                   have Pt_75_p494_p496 := Lib.hid (own_below Pt_75_p494.out bw_t_77_p496))
                                | (have hst_78_p497 := HBw_t_77_p496.out.size
                                   have h1t_78_p497 : t_75.length + 1 ≤ maxLen := by unfold maxLen; omega
                                   have h2t_78_p497 : (t_75.length + 1) * 16 ≤ 140737488355328 := by omega
                                   have h3t_78_p497 := Ot_77_p496.out.cells rfl
                                   refine Go.Proofs.Ytgimcnpkngpmiaa.GoH.step_append_own (w := w_t_77_p496) rfl (.tmp 76) (.tmp 78) 47 rfl w.heap.size 9 i0_9 (.string ByteArray.empty) 1 16 Try.underlying47 hi_9 hz0_9 hz1_9 hz2_9 rfl (by decide) At_75_p494 ct_75_p494 t_75.length _ rfl Pt_75_p494_p496.out ⟨wt_75_p494.heap.size, 0, none⟩ 1 [.string t_22_town] rfl rfl h3t_78_p497 (one_cells rfl) h1t_78_p497 h2t_78_p497 hst_78_p497 ?_
                                   intro vt_78_p497 wt_78_p497 ot_78_p497 gt_78_p497 yt_78_p497
                                   obtain ⟨qt_78_p497, ct_78_p497, rfl, pt_78_p497⟩ := own_push hht_78.out (by simp) rfl ot_78_p497
                                   have Pt_78_p497 := Lib.hid pt_78_p497
                                   have Yt_78_p497 := Lib.hid yt_78_p497
                                   have Gt_78_p497 := Lib.hid gt_78_p497
                                   have HBwt_78_p497 := Lib.hid (HBw_t_77_p496.out.grown Gt_78_p497.out hst_78_p497 (fun q hq => (Pt_75_p494_p496.out.lt q hq).1))
                                   have Dt_78_out_6l0_p497 : Hid (Apart (some ⟨qt_78_p497, 0, none⟩) _) := Lib.hid (apart_app Dt_75_out_6l0_p494.out (fun a_ ha_ => (own_lt Oout_6l0_p493_p494_p496.out a_ ha_).2) Yt_78_p497.out)
                                   have Dt_78_t_77_p497 : Hid (Apart (some ⟨qt_78_p497, 0, none⟩) _) := Lib.hid (apart_app (Apart.symm Dt_77_t_75_p496.out) (fun a_ ha_ => (own_lt Ot_77_p496.out a_ ha_).2) Yt_78_p497.out)
                                   have ct_62_0__495_p496_p497 := cell_other ct_62_0__495_p496 Gt_78_p497.out Dt_75_out_6l0_p494.out
                                   have Oout_6l0_p493_p494_p496_p497 := Lib.hid (own_other Oout_6l0_p493_p494_p496.out Gt_78_p497.out Dt_75_out_6l0_p494.out)
                                   have Ot_77_p496_p497 := Lib.hid (own_other Ot_77_p496.out Gt_78_p497.out (Apart.symm Dt_77_t_75_p496.out)))
                                | (have hst_82_p498 := HBwt_78_p497.out.size
                                   have Ct_82_p498 := Lib.hid ((Mt_81_p491.out _ Oout_6l0_p493_p494_p496_p497.out))
                                   have h1t_82_p498 : t_78.length + t_81.length ≤ maxLen := by have h_ := hlt_82; unfold maxLen; omega
                                   have h2t_82_p498 : (t_78.length + t_81.length) * 16 ≤ 140737488355328 := by have h_ := hlt_82; omega
                                   refine Go.Proofs.Ytgimcnpkngpmiaa.GoH.step_spread_own (w := wt_78_p497) rfl (.tmp 79) (.tmp 82) 47 rfl w.heap.size 9 i0_9 (.string ByteArray.empty) 1 16 Try.underlying47 hi_9 hz0_9 hz1_9 hz2_9 rfl (by decide) (some ⟨qt_78_p497, 0, none⟩) ct_78_p497 t_78.length _ rfl Pt_78_p497.out At_81_p491 t_81.length ct_81_p491 (t_81.map Value.string) rfl Qt_81_p491.out Ct_82_p498.out (fun u hu => by obtain ⟨y_, _, rfl⟩ := List.mem_map.1 hu; rfl) h1t_82_p498 h2t_82_p498 hst_82_p498 ?_
                                   intro vt_82_p498 wt_82_p498 ot_82_p498 gt_82_p498 yt_82_p498
                                   obtain ⟨At_82_p498, ct_82_p498, rfl, pt_82_p498⟩ := own_pushS (f := (fun z => z.map Value.string)) hht_82.out (by simp) rfl ot_82_p498
                                   have Pt_82_p498 := Lib.hid pt_82_p498
                                   have Yt_82_p498 := Lib.hid yt_82_p498
                                   have Gt_82_p498 := Lib.hid gt_82_p498
                                   have HBwt_82_p498 := Lib.hid (HBwt_78_p497.out.grown Gt_82_p498.out hst_82_p498 (fun q hq => (Pt_78_p497.out.lt q hq).1))
                                   have Dt_82_out_6l0_p498 : Hid (Apart At_82_p498 _) := Lib.hid (apart_app Dt_78_out_6l0_p497.out (fun a_ ha_ => (own_lt Oout_6l0_p493_p494_p496_p497.out a_ ha_).2) Yt_82_p498.out)
                                   have ct_62_0__495_p496_p497_p498 := cell_other ct_62_0__495_p496_p497 Gt_82_p498.out Dt_78_out_6l0_p497.out
                                   have Oout_6l0_p493_p494_p496_p497_p498 := Lib.hid (own_other Oout_6l0_p493_p494_p496_p497.out Gt_82_p498.out Dt_78_out_6l0_p497.out))
                                | (have hst_75_p501 := HBw_t_77_p500.out.size
                                   have Ct_75_p501 := Lib.hid ((Mt_74_p490.out _ Oout_6l0_p493_p500.out))
                                   have h1t_75_p501 : 0 + t_74.length ≤ maxLen := by have h_ := hlt_75; simp only [List.length_nil] at h_; unfold maxLen; omega
                                   have h2t_75_p501 : (0 + t_74.length) * 16 ≤ 140737488355328 := by have h_ := hlt_75; simp only [List.length_nil] at h_; omega
                                   refine Go.Proofs.Ytgimcnpkngpmiaa.GoH.step_spread_own (w := w_t_77_p500) rfl (.tmp 72) (.tmp 75) 47 rfl w.heap.size 9 i0_9 (.string ByteArray.empty) 1 16 Try.underlying47 hi_9 hz0_9 hz1_9 hz2_9 rfl (by decide) (some ⟨wr2.heap.size, 0, none⟩) 0 0 _ rfl Ot_71_p493_p500.out At_74_p490 t_74.length ct_74_p490 (t_74.map Value.string) rfl Qt_74_p490.out Ct_75_p501.out (fun u hu => by obtain ⟨y_, _, rfl⟩ := List.mem_map.1 hu; rfl) h1t_75_p501 h2t_75_p501 hst_75_p501 ?_
                                   intro vt_75_p501 wt_75_p501 ot_75_p501 gt_75_p501 yt_75_p501
                                   obtain ⟨At_75_p501, ct_75_p501, rfl, pt_75_p501⟩ := own_pushS (f := (fun z => z.map Value.string)) hht_75.out (by simp) rfl ot_75_p501
                                   have Pt_75_p501 := Lib.hid pt_75_p501
                                   have Yt_75_p501 := Lib.hid yt_75_p501
                                   have Gt_75_p501 := Lib.hid gt_75_p501
                                   have HBwt_75_p501 := Lib.hid (HBw_t_77_p500.out.grown Gt_75_p501.out hst_75_p501 (fun q hq => (Ot_71_p493_p500.out.lt q hq).1))
                                   have Dt_75_out_6l0_p501 : Hid (Apart At_75_p501 _) := Lib.hid (apart_app Dt_71_out_6l0_p493.out (fun a_ ha_ => (own_lt Oout_6l0_p493_p500.out a_ ha_).2) Yt_75_p501.out)
                                   have Dt_75_t_77_p501 : Hid (Apart At_75_p501 _) := Lib.hid (apart_app (Apart.symm Dt_77_t_71_p500.out) (fun a_ ha_ => (own_lt Ot_77_p500.out a_ ha_).2) Yt_75_p501.out)
                                   have ct_62_0__499_p500_p501 := cell_other ct_62_0__499_p500 Gt_75_p501.out Dt_71_out_6l0_p493.out
                                   have Oout_6l0_p493_p500_p501 := Lib.hid (own_other Oout_6l0_p493_p500.out Gt_75_p501.out Dt_71_out_6l0_p493.out)
                                   have Ot_77_p500_p501 := Lib.hid (own_other Ot_77_p500.out Gt_75_p501.out (Apart.symm Dt_77_t_71_p500.out)))
                                | (have hst_78_p502 := HBwt_75_p501.out.size
                                   have h1t_78_p502 : t_75.length + 1 ≤ maxLen := by unfold maxLen; omega
                                   have h2t_78_p502 : (t_75.length + 1) * 16 ≤ 140737488355328 := by omega
                                   have h3t_78_p502 := Ot_77_p500_p501.out.cells rfl
                                   refine Go.Proofs.Ytgimcnpkngpmiaa.GoH.step_append_own (w := wt_75_p501) rfl (.tmp 76) (.tmp 78) 47 rfl w.heap.size 9 i0_9 (.string ByteArray.empty) 1 16 Try.underlying47 hi_9 hz0_9 hz1_9 hz2_9 rfl (by decide) At_75_p501 ct_75_p501 t_75.length _ rfl Pt_75_p501.out ⟨w_t_71_p493.heap.size, 0, none⟩ 1 [.string t_22_town] rfl rfl h3t_78_p502 (one_cells rfl) h1t_78_p502 h2t_78_p502 hst_78_p502 ?_
                                   intro vt_78_p502 wt_78_p502 ot_78_p502 gt_78_p502 yt_78_p502
                                   obtain ⟨qt_78_p502, ct_78_p502, rfl, pt_78_p502⟩ := own_push hht_78.out (by simp) rfl ot_78_p502
                                   have Pt_78_p502 := Lib.hid pt_78_p502
                                   have Yt_78_p502 := Lib.hid yt_78_p502
                                   have Gt_78_p502 := Lib.hid gt_78_p502
                                   have HBwt_78_p502 := Lib.hid (HBwt_75_p501.out.grown Gt_78_p502.out hst_78_p502 (fun q hq => (Pt_75_p501.out.lt q hq).1))
                                   have Dt_78_out_6l0_p502 : Hid (Apart (some ⟨qt_78_p502, 0, none⟩) _) := Lib.hid (apart_app Dt_75_out_6l0_p501.out (fun a_ ha_ => (own_lt Oout_6l0_p493_p500_p501.out a_ ha_).2) Yt_78_p502.out)
                                   have Dt_78_t_77_p502 : Hid (Apart (some ⟨qt_78_p502, 0, none⟩) _) := Lib.hid (apart_app Dt_75_t_77_p501.out (fun a_ ha_ => (own_lt Ot_77_p500_p501.out a_ ha_).2) Yt_78_p502.out)
                                   have ct_62_0__499_p500_p501_p502 := cell_other ct_62_0__499_p500_p501 Gt_78_p502.out Dt_75_out_6l0_p501.out
                                   have Oout_6l0_p493_p500_p501_p502 := Lib.hid (own_other Oout_6l0_p493_p500_p501.out Gt_78_p502.out Dt_75_out_6l0_p501.out)
                                   have Ot_77_p500_p501_p502 := Lib.hid (own_other Ot_77_p500_p501.out Gt_78_p502.out Dt_75_t_77_p501.out))
                                | (have hst_82_p503 := HBwt_78_p502.out.size
                                   have Ct_82_p503 := Lib.hid ((Mt_81_p491.out _ Oout_6l0_p493_p500_p501_p502.out))
                                   have h1t_82_p503 : t_78.length + t_81.length ≤ maxLen := by have h_ := hlt_82; unfold maxLen; omega
                                   have h2t_82_p503 : (t_78.length + t_81.length) * 16 ≤ 140737488355328 := by have h_ := hlt_82; omega
                                   refine Go.Proofs.Ytgimcnpkngpmiaa.GoH.step_spread_own (w := wt_78_p502) rfl (.tmp 79) (.tmp 82) 47 rfl w.heap.size 9 i0_9 (.string ByteArray.empty) 1 16 Try.underlying47 hi_9 hz0_9 hz1_9 hz2_9 rfl (by decide) (some ⟨qt_78_p502, 0, none⟩) ct_78_p502 t_78.length _ rfl Pt_78_p502.out At_81_p491 t_81.length ct_81_p491 (t_81.map Value.string) rfl Qt_81_p491.out Ct_82_p503.out (fun u hu => by obtain ⟨y_, _, rfl⟩ := List.mem_map.1 hu; rfl) h1t_82_p503 h2t_82_p503 hst_82_p503 ?_
                                   intro vt_82_p503 wt_82_p503 ot_82_p503 gt_82_p503 yt_82_p503
                                   obtain ⟨At_82_p503, ct_82_p503, rfl, pt_82_p503⟩ := own_pushS (f := (fun z => z.map Value.string)) hht_82.out (by simp) rfl ot_82_p503
                                   have Pt_82_p503 := Lib.hid pt_82_p503
                                   have Yt_82_p503 := Lib.hid yt_82_p503
                                   have Gt_82_p503 := Lib.hid gt_82_p503
                                   have HBwt_82_p503 := Lib.hid (HBwt_78_p502.out.grown Gt_82_p503.out hst_82_p503 (fun q hq => (Pt_78_p502.out.lt q hq).1))
                                   have Dt_82_out_6l0_p503 : Hid (Apart At_82_p503 _) := Lib.hid (apart_app Dt_78_out_6l0_p502.out (fun a_ ha_ => (own_lt Oout_6l0_p493_p500_p501_p502.out a_ ha_).2) Yt_82_p503.out)
                                   have ct_62_0__499_p500_p501_p502_p503 := cell_other ct_62_0__499_p500_p501_p502 Gt_82_p503.out Dt_78_out_6l0_p502.out
                                   have Oout_6l0_p493_p500_p501_p502_p503 := Lib.hid (own_other Oout_6l0_p493_p500_p501_p502.out Gt_82_p503.out Dt_78_out_6l0_p502.out))
                                | (have hst_75_p508 := HBw_t_71_p507.out.size
                                   have Ct_75_p508 := Lib.hid ((Mt_74_p490.out _ Oout_6l0_p505_p507.out))
                                   have h1t_75_p508 : 0 + t_74.length ≤ maxLen := by have h_ := hlt_75; simp only [List.length_nil] at h_; unfold maxLen; omega
                                   have h2t_75_p508 : (0 + t_74.length) * 16 ≤ 140737488355328 := by have h_ := hlt_75; simp only [List.length_nil] at h_; omega
                                   refine Go.Proofs.Ytgimcnpkngpmiaa.GoH.step_spread_own (w := w_t_71_p507) rfl (.tmp 72) (.tmp 75) 47 rfl w.heap.size 9 i0_9 (.string ByteArray.empty) 1 16 Try.underlying47 hi_9 hz0_9 hz1_9 hz2_9 rfl (by decide) (some ⟨w_t_77_p505.heap.size, 0, none⟩) 0 0 _ rfl Ot_71_p507.out At_74_p490 t_74.length ct_74_p490 (t_74.map Value.string) rfl Qt_74_p490.out Ct_75_p508.out (fun u hu => by obtain ⟨y_, _, rfl⟩ := List.mem_map.1 hu; rfl) h1t_75_p508 h2t_75_p508 hst_75_p508 ?_
                                   intro vt_75_p508 wt_75_p508 ot_75_p508 gt_75_p508 yt_75_p508
                                   obtain ⟨At_75_p508, ct_75_p508, rfl, pt_75_p508⟩ := own_pushS (f := (fun z => z.map Value.string)) hht_75.out (by simp) rfl ot_75_p508
                                   have Pt_75_p508 := Lib.hid pt_75_p508
                                   have Yt_75_p508 := Lib.hid yt_75_p508
                                   have Gt_75_p508 := Lib.hid gt_75_p508
                                   have HBwt_75_p508 := Lib.hid (HBw_t_71_p507.out.grown Gt_75_p508.out hst_75_p508 (fun q hq => (Ot_71_p507.out.lt q hq).1))
                                   have Dt_75_out_6l0_p508 : Hid (Apart At_75_p508 _) := Lib.hid (apart_app Dt_71_out_6l0_p507.out (fun a_ ha_ => (own_lt Oout_6l0_p505_p507.out a_ ha_).2) Yt_75_p508.out)
                                   have Dt_75_t_77_p508 : Hid (Apart At_75_p508 _) := Lib.hid (apart_app Dt_71_t_77_p507.out (fun a_ ha_ => (own_lt Ot_77_p505_p507.out a_ ha_).2) Yt_75_p508.out)
                                   have ct_62_0__506_p507_p508 := cell_other ct_62_0__506_p507 Gt_75_p508.out Dt_71_out_6l0_p507.out
                                   have Oout_6l0_p505_p507_p508 := Lib.hid (own_other Oout_6l0_p505_p507.out Gt_75_p508.out Dt_71_out_6l0_p507.out)
                                   have Ot_77_p505_p507_p508 := Lib.hid (own_other Ot_77_p505_p507.out Gt_75_p508.out Dt_71_t_77_p507.out))
                                | (have hst_78_p509 := HBwt_75_p508.out.size
                                   have h1t_78_p509 : t_75.length + 1 ≤ maxLen := by unfold maxLen; omega
                                   have h2t_78_p509 : (t_75.length + 1) * 16 ≤ 140737488355328 := by omega
                                   have h3t_78_p509 := Ot_77_p505_p507_p508.out.cells rfl
                                   refine Go.Proofs.Ytgimcnpkngpmiaa.GoH.step_append_own (w := wt_75_p508) rfl (.tmp 76) (.tmp 78) 47 rfl w.heap.size 9 i0_9 (.string ByteArray.empty) 1 16 Try.underlying47 hi_9 hz0_9 hz1_9 hz2_9 rfl (by decide) At_75_p508 ct_75_p508 t_75.length _ rfl Pt_75_p508.out ⟨wr2.heap.size, 0, none⟩ 1 [.string t_22_town] rfl rfl h3t_78_p509 (one_cells rfl) h1t_78_p509 h2t_78_p509 hst_78_p509 ?_
                                   intro vt_78_p509 wt_78_p509 ot_78_p509 gt_78_p509 yt_78_p509
                                   obtain ⟨qt_78_p509, ct_78_p509, rfl, pt_78_p509⟩ := own_push hht_78.out (by simp) rfl ot_78_p509
                                   have Pt_78_p509 := Lib.hid pt_78_p509
                                   have Yt_78_p509 := Lib.hid yt_78_p509
                                   have Gt_78_p509 := Lib.hid gt_78_p509
                                   have HBwt_78_p509 := Lib.hid (HBwt_75_p508.out.grown Gt_78_p509.out hst_78_p509 (fun q hq => (Pt_75_p508.out.lt q hq).1))
                                   have Dt_78_out_6l0_p509 : Hid (Apart (some ⟨qt_78_p509, 0, none⟩) _) := Lib.hid (apart_app Dt_75_out_6l0_p508.out (fun a_ ha_ => (own_lt Oout_6l0_p505_p507_p508.out a_ ha_).2) Yt_78_p509.out)
                                   have Dt_78_t_77_p509 : Hid (Apart (some ⟨qt_78_p509, 0, none⟩) _) := Lib.hid (apart_app Dt_75_t_77_p508.out (fun a_ ha_ => (own_lt Ot_77_p505_p507_p508.out a_ ha_).2) Yt_78_p509.out)
                                   have ct_62_0__506_p507_p508_p509 := cell_other ct_62_0__506_p507_p508 Gt_78_p509.out Dt_75_out_6l0_p508.out
                                   have Oout_6l0_p505_p507_p508_p509 := Lib.hid (own_other Oout_6l0_p505_p507_p508.out Gt_78_p509.out Dt_75_out_6l0_p508.out)
                                   have Ot_77_p505_p507_p508_p509 := Lib.hid (own_other Ot_77_p505_p507_p508.out Gt_78_p509.out Dt_75_t_77_p508.out))
                                | (have hst_82_p510 := HBwt_78_p509.out.size
                                   have Ct_82_p510 := Lib.hid ((Mt_81_p491.out _ Oout_6l0_p505_p507_p508_p509.out))
                                   have h1t_82_p510 : t_78.length + t_81.length ≤ maxLen := by have h_ := hlt_82; unfold maxLen; omega
                                   have h2t_82_p510 : (t_78.length + t_81.length) * 16 ≤ 140737488355328 := by have h_ := hlt_82; omega
                                   refine Go.Proofs.Ytgimcnpkngpmiaa.GoH.step_spread_own (w := wt_78_p509) rfl (.tmp 79) (.tmp 82) 47 rfl w.heap.size 9 i0_9 (.string ByteArray.empty) 1 16 Try.underlying47 hi_9 hz0_9 hz1_9 hz2_9 rfl (by decide) (some ⟨qt_78_p509, 0, none⟩) ct_78_p509 t_78.length _ rfl Pt_78_p509.out At_81_p491 t_81.length ct_81_p491 (t_81.map Value.string) rfl Qt_81_p491.out Ct_82_p510.out (fun u hu => by obtain ⟨y_, _, rfl⟩ := List.mem_map.1 hu; rfl) h1t_82_p510 h2t_82_p510 hst_82_p510 ?_
                                   intro vt_82_p510 wt_82_p510 ot_82_p510 gt_82_p510 yt_82_p510
                                   obtain ⟨At_82_p510, ct_82_p510, rfl, pt_82_p510⟩ := own_pushS (f := (fun z => z.map Value.string)) hht_82.out (by simp) rfl ot_82_p510
                                   have Pt_82_p510 := Lib.hid pt_82_p510
                                   have Yt_82_p510 := Lib.hid yt_82_p510
                                   have Gt_82_p510 := Lib.hid gt_82_p510
                                   have HBwt_82_p510 := Lib.hid (HBwt_78_p509.out.grown Gt_82_p510.out hst_82_p510 (fun q hq => (Pt_78_p509.out.lt q hq).1))
                                   have Dt_82_out_6l0_p510 : Hid (Apart At_82_p510 _) := Lib.hid (apart_app Dt_78_out_6l0_p509.out (fun a_ ha_ => (own_lt Oout_6l0_p505_p507_p508_p509.out a_ ha_).2) Yt_82_p510.out)
                                   have ct_62_0__506_p507_p508_p509_p510 := cell_other ct_62_0__506_p507_p508_p509 Gt_82_p510.out Dt_78_out_6l0_p509.out
                                   have Oout_6l0_p505_p507_p508_p509_p510 := Lib.hid (own_other Oout_6l0_p505_p507_p508_p509.out Gt_82_p510.out Dt_78_out_6l0_p509.out)))
                          · skip
                            replace H := app_hid H
                            go_wp2_with fail
                            go_roundg m0
                            case measure => omega
                            case rel => exact ⟨k0 + 1, _, _, _, by omega, by go_num, rfl, H, HBwt_82_p498, Pt_82_p498⟩
                          · skip
                            replace H := app_hid H
                            go_wp2_with fail
                            go_roundg m0
                            case measure => omega
                            case rel => exact ⟨k0 + 1, _, _, _, by omega, by go_num, rfl, H, HBwt_82_p503, Pt_82_p503⟩
                          · skip
                            replace H := app_hid H
                            go_wp2_with fail
                            go_roundg m0
                            case measure => omega
                            case rel => exact ⟨k0 + 1, _, _, _, by omega, by go_num, rfl, H, HBwt_82_p510, Pt_82_p510⟩
                        | true =>
                          replace H := let_hid H
                          obtain ⟨t_70, ht_70, H⟩ := H
                          obtain rfl : t_70 = false := ht_70.symm
                          replace H := ite_f H
                          replace H := app_hid H
                          go_wp2_with fail
                          go_roundg m0
                          case measure => omega
                          case rel => exact ⟨k0 + 1, _, _, _, by omega, by go_num, rfl, H, HBwr2, Oout_6l0⟩
                      | true =>
                        replace H := ite_t H
                        replace H := let_hid H
                        obtain ⟨t_67, ht_67, H⟩ := H
                        obtain rfl := ht_61.symm.trans ht_67
                        replace H := app_hid H
                        go_wp2_with fail
                        go_roundg m2
                        case measure => omega
                        case rel => exact ⟨_, rfl, H, HBwr2, Oout_6l0⟩
              | succ m1 =>
                have hlt1 : k1 < out_6l0.length := by omega
                have hc1 : decide ((k1 : Int) < ((out_6l0.length : Nat) : Int)) = true := by simp; omega
                replace H := cnt_succ H
                unfold l1 at H
                replace H := let_hid H
                obtain ⟨_, rfl, H⟩ := H
                replace H := join_hid H
                cases known_10l1 with
                | false =>
                  replace H := ite_f H
                  replace H := idx_hid H
                  obtain ⟨nt_46, yt_46, et_46, lt_46, gt_46, H⟩ := H
                  obtain rfl : k1 = nt_46 := by omega
                  clear et_46
                  obtain ⟨qt_46, Qt_46⟩ := own_some Oout_6l0.out (by omega)
                  subst Qt_46
                  obtain ⟨ab_t_46, ao_t_46, zt_46, At_46, z_t_46, ct_46_0⟩ := strs_at (own_cells Oout_6l0.out) (k := k1) (by omega)
                  obtain rfl := Option.some.inj (gt_46.out.symm.trans z_t_46)
                  simp only [Option.some.injEq, Addr.mk.injEq] at At_46
                  obtain ⟨rfl, rfl, _⟩ := At_46
                  clear z_t_46
                  simp only [Nat.zero_add] at ct_46_0
                  have b0t_46 : (0 : Int) ≤ (k1 : Int) := by omega
                  have b1t_46 : (k1 : Int) < ((out_6l0.length : Nat) : Int) := by omega
                  have b2t_46 : ((k1 : Int)).toNat = k1 := by omega
                  replace H := let_hid H
                  obtain ⟨t_49, ht_49, H⟩ := H
                  replace H := app_hid H
                  replace H := app_hid H
                  go_wp2_with fail
                  go_roundg m1
                  case measure => omega
                  case rel => exact ⟨k1 + 1, _, by omega, by go_num, rfl, H, HBwr1, Oout_6l0⟩
                | true =>
                  replace H := ite_t H
                  replace H := app_hid H
                  replace H := app_hid H
                  go_wp2_with fail
                  go_roundg m1
                  case measure => omega
                  case rel => exact ⟨k1 + 1, _, by omega, by go_num, rfl, H, HBwr1, Oout_6l0⟩
          | true =>
            replace H := let_hid H
            obtain ⟨t_35, ht_35, H⟩ := H
            obtain rfl : t_35 = false := ht_35.symm
            have hb_1 : out_6l0.length ≤ 9223372036854775807 := own_max Oout_6l0.out
            go_wp2_with fail
            go_loopg [11, 10] (out_6l0.length) (fun m_ v11_ v10_ wr => ∃ (k1 : Nat) (known_10l1 : Bool), k1 + m_ = out_6l0.length ∧ v11_ = .int .i64 (k1 : Int) ∧ v10_ = .bool known_10l1 ∧ Hid (cntK (l1 out_6l0 t_22_town) m_ k1 (known_10l1) (e1 fuel (fun s' => cntK (l0 list day fuel) m0 (k0 + 1) s' (e0 )) out_6l0 t_22_town) = some (r0, r1)) ∧ Hid (Below w.heap.size w wr) ∧ Hid (wr.ownsRow w.heap.size 9 1 (.slice Aout_6l0 out_6l0.length cout_6l0) out_6l0.length (out_6l0.map Value.string)))
            case atStart => exact ⟨0, _, by omega, rfl, rfl, H, HBwt_34, Oout_6l0⟩
            case round =>
              obtain ⟨k1, known_10l1, hkm1, rfl, rfl, H, HBwr1, Oout_6l0⟩ := hrel
              rename World => wr1
              cases gk with
              | zero =>
                obtain rfl : k1 = out_6l0.length := by omega
                have hc1 : decide (((out_6l0.length : Nat) : Int) < ((out_6l0.length : Nat) : Int)) = false := by simp
                replace H := cnt_zero H
                unfold e1 at H
                replace H := let_hid H
                obtain ⟨_, rfl, H⟩ := H
                go_wp2_with fail
                go_loopg [9] (fuel) (fun m_ v9_ wr => ∃ (k_9l2 : Int), v9_ = .int .i64 k_9l2 ∧ Hid (loopK (l2 out_6l0 t_22_town) m_ (k_9l2) (e2 (fun s' => cntK (l0 list day fuel) m0 (k0 + 1) s' (e0 )) out_6l0 t_22_town known_10l1) = some (r0, r1)) ∧ Hid (Below w.heap.size w wr) ∧ Hid (wr.ownsRow w.heap.size 9 1 (.slice Aout_6l0 out_6l0.length cout_6l0) out_6l0.length (out_6l0.map Value.string)))
                case atStart => exact ⟨_, rfl, H, HBwr1, Oout_6l0⟩
                case round =>
                  obtain ⟨k_9l2, rfl, H, HBwr2, Oout_6l0⟩ := hrel
                  rename World => wr2
                  cases gk with
                  | zero => exact (loop_zero H).elim
                  | succ m2 =>
                    replace H := loop_succ H
                    unfold l2 at H
                    replace H := let_hid H
                    obtain ⟨_, rfl, H⟩ := H
                    replace H := let_hid H
                    obtain ⟨t_56, ht_56, H⟩ := H
                    replace H := join_hid H
                    cases t_56 with
                    | false =>
                      replace H := ite_f H
                      replace H := app_hid H
                      replace H := ite_f H
                      replace H := app_hid H
                      unfold e2 at H
                      replace H := let_hid H
                      obtain ⟨_, rfl, H⟩ := H
                      cases known_10l1 with
                      | false =>
                        replace H := let_hid H
                        obtain ⟨t_70, ht_70, H⟩ := H
                        obtain rfl : t_70 = true := ht_70.symm
                        replace H := ite_t H
                        go_wp2_with fail
                        have bd17 : Below wr2.heap.size wr2 wr2.drew := (Below.refl _ _).drew
                        have HBwr2.drew := Lib.hid (Below.step HBwr2.out bd17)
                        replace Oout_6l0 := Lib.hid (own_below Oout_6l0.out bd17)
                        clear bd17
                        replace H := guard_hid H
                        obtain ⟨hl_t_74, H⟩ := H
                        replace H := let_hid H
                        obtain ⟨t_74, ht_74, H⟩ := H
                        have hht_74 := Lib.hid ht_74
                        have hgt_74 := Lib.hid hl_t_74
                        clear ht_74
                        clear hl_t_74
                        replace H := guard_hid H
                        obtain ⟨hlt_75, H⟩ := H
                        replace H := let_hid H
                        obtain ⟨t_75, ht_75, H⟩ := H
                        have hht_75 := Lib.hid ht_75
                        clear ht_75
                        replace H := guard_hid H
                        obtain ⟨hlt_78, H⟩ := H
                        replace H := let_hid H
                        obtain ⟨t_78, ht_78, H⟩ := H
                        have hht_78 := Lib.hid ht_78
                        clear ht_78
                        replace H := guard_hid H
                        obtain ⟨hl_t_81, H⟩ := H
                        replace H := let_hid H
                        obtain ⟨t_81, ht_81, H⟩ := H
                        have hht_81 := Lib.hid ht_81
                        have hgt_81 := Lib.hid hl_t_81
                        clear ht_81
                        clear hl_t_81
                        replace H := guard_hid H
                        obtain ⟨hlt_82, H⟩ := H
                        replace H := let_hid H
                        obtain ⟨t_82, ht_82, H⟩ := H
                        have hht_82 := Lib.hid ht_82
                        clear ht_82
                        obtain ⟨At_74_p511, ct_74_p511, rt_74_p511, mt_74_p511, qt_74_p511⟩ := Go.Proofs.Ytgimcnpkngpmiaa.GoD.slice_viewH (P := Try.prog) (t := 47) (e := 9) (k := .i64) (ys := (t_74.map Value.string)) (m := t_74.length) (by kernel_rfl) (by kernel_rfl) hi_9 hz1_9 Oout_6l0.out (by have h_ := hgt_74.out; omega) (by have h_ := hgt_74.out; rw [← hht_74.out, List.length_take] <;> omega) (by rw [← hht_74.out]; simp [List.map_take])
                        have Mt_74_p511 := Lib.hid mt_74_p511
                        have Qt_74_p511 := Lib.hid qt_74_p511
                        have Nt_74_p511 : Hid (t_74.length ≤ 9223372036854775807) := Lib.hid (by have h_ := own_max Oout_6l0.out; rw [← hht_74.out, List.length_take] <;> omega)
                        obtain ⟨At_81_p512, ct_81_p512, rt_81_p512, mt_81_p512, qt_81_p512⟩ := Go.Proofs.Ytgimcnpkngpmiaa.GoD.slice_view (P := Try.prog) (t := 47) (e := 9) (k := .i64) (ys := (t_81.map Value.string)) (m := t_81.length) (by kernel_rfl) (by kernel_rfl) hi_9 hz1_9 Oout_6l0.out (by have h_ := hgt_81.out; omega) (by rw [← hht_81.out, List.length_drop] <;> omega) (by rw [← hht_81.out]; simp [List.map_drop])
                        have Mt_81_p512 := Lib.hid mt_81_p512
                        have Qt_81_p512 := Lib.hid qt_81_p512
                        have Nt_81_p512 : Hid (t_81.length ≤ 9223372036854775807) := Lib.hid (by have h_ := own_max Oout_6l0.out; rw [← hht_81.out, List.length_drop] <;> omega)
                        obtain ⟨w_t_71_p513, hw_t_71_p513⟩ : ∃ x, wr2.drew.alloc (.cells #[] 9) = x := ⟨_, rfl⟩
                        have bw_t_71_p513 : Below wr2.drew.heap.size wr2.drew w_t_71_p513 := by rw [← hw_t_71_p513]; exact (Below.refl _ _).alloc (Nat.le_refl _) _
                        have Ot_71_p513 : Hid (w_t_71_p513.ownsRow w.heap.size 9 1 (.slice (some ⟨wr2.heap.size, 0, none⟩) 0 0) 0 []) := Lib.hid (by rw [← hw_t_71_p513]; exact own_empty HBwr2.drew.out.size)
                        have Dt_71_out_6l0_p513 := Lib.hid (apart_fresh Oout_6l0.out)
                        have HBw_t_71_p513 := Lib.hid (Below.step HBwr2.drew.out bw_t_71_p513)
                        have Oout_6l0_p513 := Lib.hid (own_below Oout_6l0.out bw_t_71_p513)
                        obtain ⟨w_t_77_p518, hw_t_77_p518⟩ : ∃ x, w_t_71_p513.alloc (.cells #[.string t_22_town] 9) = x := ⟨_, rfl⟩
                        have bw_t_77_p518 : Below w_t_71_p513.heap.size w_t_71_p513 w_t_77_p518 := by rw [← hw_t_77_p518]; exact (Below.refl _ _).alloc (Nat.le_refl _) _
                        have Ot_77_p518 : Hid (w_t_77_p518.ownsRow w.heap.size 9 1 (.slice (some ⟨w_t_71_p513.heap.size, 0, none⟩) 1 1) 1 [.string t_22_town]) := Lib.hid (by rw [← hw_t_77_p518]; exact own_laid (n := 1) HBw_t_71_p513.out.size (rfl : ([.string t_22_town] : List Value) = [.string t_22_town]) rfl (by unfold maxLen; omega))
                        have Dt_77_out_6l0_p518 := Lib.hid (apart_fresh Oout_6l0_p513.out)
                        have Dt_77_t_71_p518 := Lib.hid (apart_fresh Ot_71_p513.out)
                        have HBw_t_77_p518 := Lib.hid (Below.step HBw_t_71_p513.out bw_t_77_p518)
                        have Oout_6l0_p513_p518 := Lib.hid (own_below Oout_6l0_p513.out bw_t_77_p518)
                        have Ot_71_p513_p518 := Lib.hid (own_below Ot_71_p513.out bw_t_77_p518)
                        obtain ⟨w_t_77_p522, hw_t_77_p522⟩ : ∃ x, wr2.drew.alloc (.cells #[.string t_22_town] 9) = x := ⟨_, rfl⟩
                        have bw_t_77_p522 : Below wr2.drew.heap.size wr2.drew w_t_77_p522 := by rw [← hw_t_77_p522]; exact (Below.refl _ _).alloc (Nat.le_refl _) _
                        have Ot_77_p522 : Hid (w_t_77_p522.ownsRow w.heap.size 9 1 (.slice (some ⟨wr2.heap.size, 0, none⟩) 1 1) 1 [.string t_22_town]) := Lib.hid (by rw [← hw_t_77_p522]; exact own_laid (n := 1) HBwr2.drew.out.size (rfl : ([.string t_22_town] : List Value) = [.string t_22_town]) rfl (by unfold maxLen; omega))
                        have Dt_77_out_6l0_p522 := Lib.hid (apart_fresh Oout_6l0.out)
                        have HBw_t_77_p522 := Lib.hid (Below.step HBwr2.drew.out bw_t_77_p522)
                        have Oout_6l0_p522 := Lib.hid (own_below Oout_6l0.out bw_t_77_p522)
                        obtain ⟨w_t_71_p523, hw_t_71_p523⟩ : ∃ x, w_t_77_p522.alloc (.cells #[] 9) = x := ⟨_, rfl⟩
                        have bw_t_71_p523 : Below w_t_77_p522.heap.size w_t_77_p522 w_t_71_p523 := by rw [← hw_t_71_p523]; exact (Below.refl _ _).alloc (Nat.le_refl _) _
                        have Ot_71_p523 : Hid (w_t_71_p523.ownsRow w.heap.size 9 1 (.slice (some ⟨w_t_77_p522.heap.size, 0, none⟩) 0 0) 0 []) := Lib.hid (by rw [← hw_t_71_p523]; exact own_empty HBw_t_77_p522.out.size)
                        have Dt_71_out_6l0_p523 := Lib.hid (apart_fresh Oout_6l0_p522.out)
                        have Dt_71_t_77_p523 := Lib.hid (apart_fresh Ot_77_p522.out)
                        have HBw_t_71_p523 := Lib.hid (Below.step HBw_t_77_p522.out bw_t_71_p523)
                        have Oout_6l0_p522_p523 := Lib.hid (own_below Oout_6l0_p522.out bw_t_71_p523)
                        have Ot_77_p522_p523 := Lib.hid (own_below Ot_77_p522.out bw_t_71_p523)
                        go_region_held3 (fun w' => Hid (0 ≤ w'.heap.size)) (first | exact Lib.hid (Nat.zero_le _))
                            (first
                              | (have hst_75_p514 := HBw_t_71_p513.out.size
                                 have Ct_75_p514 := Lib.hid ((Mt_74_p511.out _ Oout_6l0_p513.out))
                                 have h1t_75_p514 : 0 + t_74.length ≤ maxLen := by have h_ := hlt_75; simp only [List.length_nil] at h_; unfold maxLen; omega
                                 have h2t_75_p514 : (0 + t_74.length) * 16 ≤ 140737488355328 := by have h_ := hlt_75; simp only [List.length_nil] at h_; omega
                                 refine Go.Proofs.Ytgimcnpkngpmiaa.GoH.step_spread_own (w := w_t_71_p513) rfl (.tmp 72) (.tmp 75) 47 rfl w.heap.size 9 i0_9 (.string ByteArray.empty) 1 16 Try.underlying47 hi_9 hz0_9 hz1_9 hz2_9 rfl (by decide) (some ⟨wr2.heap.size, 0, none⟩) 0 0 _ rfl Ot_71_p513.out At_74_p511 t_74.length ct_74_p511 (t_74.map Value.string) rfl Qt_74_p511.out Ct_75_p514.out (fun u hu => by obtain ⟨y_, _, rfl⟩ := List.mem_map.1 hu; rfl) h1t_75_p514 h2t_75_p514 hst_75_p514 ?_
                                 intro vt_75_p514 wt_75_p514 ot_75_p514 gt_75_p514 yt_75_p514
                                 obtain ⟨At_75_p514, ct_75_p514, rfl, pt_75_p514⟩ := own_pushS (f := (fun z => z.map Value.string)) hht_75.out (by simp) rfl ot_75_p514
                                 have Pt_75_p514 := Lib.hid pt_75_p514
                                 have Yt_75_p514 := Lib.hid yt_75_p514
                                 have Gt_75_p514 := Lib.hid gt_75_p514
                                 have HBwt_75_p514 := Lib.hid (HBw_t_71_p513.out.grown Gt_75_p514.out hst_75_p514 (fun q hq => (Ot_71_p513.out.lt q hq).1))
                                 have Dt_75_out_6l0_p514 : Hid (Apart At_75_p514 _) := Lib.hid (apart_app Dt_71_out_6l0_p513.out (fun a_ ha_ => (own_lt Oout_6l0_p513.out a_ ha_).2) Yt_75_p514.out)
                                 have Oout_6l0_p513_p514 := Lib.hid (own_other Oout_6l0_p513.out Gt_75_p514.out Dt_71_out_6l0_p513.out)
                                 obtain ⟨w_t_77_p515, hw_t_77_p515⟩ : ∃ x, wt_75_p514.alloc (.cells #[.string t_22_town] 9) = x := ⟨_, rfl⟩
                                 have bw_t_77_p515 : Below wt_75_p514.heap.size wt_75_p514 w_t_77_p515 := by rw [← hw_t_77_p515]; exact (Below.refl _ _).alloc (Nat.le_refl _) _
                                 have Ot_77_p515 : Hid (w_t_77_p515.ownsRow w.heap.size 9 1 (.slice (some ⟨wt_75_p514.heap.size, 0, none⟩) 1 1) 1 [.string t_22_town]) := Lib.hid (by rw [← hw_t_77_p515]; exact own_laid (n := 1) HBwt_75_p514.out.size (rfl : ([.string t_22_town] : List Value) = [.string t_22_town]) rfl (by unfold maxLen; omega))
                                 have Dt_77_out_6l0_p515 := Lib.hid (apart_fresh Oout_6l0_p513_p514.out)
                                 have Dt_77_t_75_p515 := Lib.hid (apart_fresh Pt_75_p514.out)
                                 have HBw_t_77_p515 := Lib.hid (Below.step HBwt_75_p514.out bw_t_77_p515)
                                 have Oout_6l0_p513_p514_p515 := Lib.hid (own_below Oout_6l0_p513_p514.out bw_t_77_p515)
                                 have Pt_75_p514_p515 := Lib.hid (own_below Pt_75_p514.out bw_t_77_p515))
                              | (have hst_78_p516 := HBw_t_77_p515.out.size
                                 have h1t_78_p516 : t_75.length + 1 ≤ maxLen := by unfold maxLen; omega
                                 have h2t_78_p516 : (t_75.length + 1) * 16 ≤ 140737488355328 := by omega
                                 have h3t_78_p516 := Ot_77_p515.out.cells rfl
                                 refine Go.Proofs.Ytgimcnpkngpmiaa.GoH.step_append_own (w := w_t_77_p515) rfl (.tmp 76) (.tmp 78) 47 rfl w.heap.size 9 i0_9 (.string ByteArray.empty) 1 16 Try.underlying47 hi_9 hz0_9 hz1_9 hz2_9 rfl (by decide) At_75_p514 ct_75_p514 t_75.length _ rfl Pt_75_p514_p515.out ⟨wt_75_p514.heap.size, 0, none⟩ 1 [.string t_22_town] rfl rfl h3t_78_p516 (one_cells rfl) h1t_78_p516 h2t_78_p516 hst_78_p516 ?_
                                 intro vt_78_p516 wt_78_p516 ot_78_p516 gt_78_p516 yt_78_p516
                                 obtain ⟨qt_78_p516, ct_78_p516, rfl, pt_78_p516⟩ := own_push hht_78.out (by simp) rfl ot_78_p516
                                 have Pt_78_p516 := Lib.hid pt_78_p516
                                 have Yt_78_p516 := Lib.hid yt_78_p516
                                 have Gt_78_p516 := Lib.hid gt_78_p516
                                 have HBwt_78_p516 := Lib.hid (HBw_t_77_p515.out.grown Gt_78_p516.out hst_78_p516 (fun q hq => (Pt_75_p514_p515.out.lt q hq).1))
                                 have Dt_78_out_6l0_p516 : Hid (Apart (some ⟨qt_78_p516, 0, none⟩) _) := Lib.hid (apart_app Dt_75_out_6l0_p514.out (fun a_ ha_ => (own_lt Oout_6l0_p513_p514_p515.out a_ ha_).2) Yt_78_p516.out)
                                 have Dt_78_t_77_p516 : Hid (Apart (some ⟨qt_78_p516, 0, none⟩) _) := Lib.hid (apart_app (Apart.symm Dt_77_t_75_p515.out) (fun a_ ha_ => (own_lt Ot_77_p515.out a_ ha_).2) Yt_78_p516.out)
                                 have Oout_6l0_p513_p514_p515_p516 := Lib.hid (own_other Oout_6l0_p513_p514_p515.out Gt_78_p516.out Dt_75_out_6l0_p514.out)
                                 have Ot_77_p515_p516 := Lib.hid (own_other Ot_77_p515.out Gt_78_p516.out (Apart.symm Dt_77_t_75_p515.out)))
                              | (have hst_82_p517 := HBwt_78_p516.out.size
                                 have Ct_82_p517 := Lib.hid ((Mt_81_p512.out _ Oout_6l0_p513_p514_p515_p516.out))
                                 have h1t_82_p517 : t_78.length + t_81.length ≤ maxLen := by have h_ := hlt_82; unfold maxLen; omega
                                 have h2t_82_p517 : (t_78.length + t_81.length) * 16 ≤ 140737488355328 := by have h_ := hlt_82; omega
                                 refine Go.Proofs.Ytgimcnpkngpmiaa.GoH.step_spread_own (w := wt_78_p516) rfl (.tmp 79) (.tmp 82) 47 rfl w.heap.size 9 i0_9 (.string ByteArray.empty) 1 16 Try.underlying47 hi_9 hz0_9 hz1_9 hz2_9 rfl (by decide) (some ⟨qt_78_p516, 0, none⟩) ct_78_p516 t_78.length _ rfl Pt_78_p516.out At_81_p512 t_81.length ct_81_p512 (t_81.map Value.string) rfl Qt_81_p512.out Ct_82_p517.out (fun u hu => by obtain ⟨y_, _, rfl⟩ := List.mem_map.1 hu; rfl) h1t_82_p517 h2t_82_p517 hst_82_p517 ?_
                                 intro vt_82_p517 wt_82_p517 ot_82_p517 gt_82_p517 yt_82_p517
                                 obtain ⟨At_82_p517, ct_82_p517, rfl, pt_82_p517⟩ := own_pushS (f := (fun z => z.map Value.string)) hht_82.out (by simp) rfl ot_82_p517
                                 have Pt_82_p517 := Lib.hid pt_82_p517
                                 have Yt_82_p517 := Lib.hid yt_82_p517
                                 have Gt_82_p517 := Lib.hid gt_82_p517
                                 have HBwt_82_p517 := Lib.hid (HBwt_78_p516.out.grown Gt_82_p517.out hst_82_p517 (fun q hq => (Pt_78_p516.out.lt q hq).1))
                                 have Dt_82_out_6l0_p517 : Hid (Apart At_82_p517 _) := Lib.hid (apart_app Dt_78_out_6l0_p516.out (fun a_ ha_ => (own_lt Oout_6l0_p513_p514_p515_p516.out a_ ha_).2) Yt_82_p517.out)
                                 have Oout_6l0_p513_p514_p515_p516_p517 := Lib.hid (own_other Oout_6l0_p513_p514_p515_p516.out Gt_82_p517.out Dt_78_out_6l0_p516.out))
                              | (have hst_75_p519 := HBw_t_77_p518.out.size
                                 have Ct_75_p519 := Lib.hid ((Mt_74_p511.out _ Oout_6l0_p513_p518.out))
                                 have h1t_75_p519 : 0 + t_74.length ≤ maxLen := by have h_ := hlt_75; simp only [List.length_nil] at h_; unfold maxLen; omega
                                 have h2t_75_p519 : (0 + t_74.length) * 16 ≤ 140737488355328 := by have h_ := hlt_75; simp only [List.length_nil] at h_; omega
                                 refine Go.Proofs.Ytgimcnpkngpmiaa.GoH.step_spread_own (w := w_t_77_p518) rfl (.tmp 72) (.tmp 75) 47 rfl w.heap.size 9 i0_9 (.string ByteArray.empty) 1 16 Try.underlying47 hi_9 hz0_9 hz1_9 hz2_9 rfl (by decide) (some ⟨wr2.heap.size, 0, none⟩) 0 0 _ rfl Ot_71_p513_p518.out At_74_p511 t_74.length ct_74_p511 (t_74.map Value.string) rfl Qt_74_p511.out Ct_75_p519.out (fun u hu => by obtain ⟨y_, _, rfl⟩ := List.mem_map.1 hu; rfl) h1t_75_p519 h2t_75_p519 hst_75_p519 ?_
                                 intro vt_75_p519 wt_75_p519 ot_75_p519 gt_75_p519 yt_75_p519
                                 obtain ⟨At_75_p519, ct_75_p519, rfl, pt_75_p519⟩ := own_pushS (f := (fun z => z.map Value.string)) hht_75.out (by simp) rfl ot_75_p519
                                 have Pt_75_p519 := Lib.hid pt_75_p519
                                 have Yt_75_p519 := Lib.hid yt_75_p519
                                 have Gt_75_p519 := Lib.hid gt_75_p519
                                 have HBwt_75_p519 := Lib.hid (HBw_t_77_p518.out.grown Gt_75_p519.out hst_75_p519 (fun q hq => (Ot_71_p513_p518.out.lt q hq).1))
                                 have Dt_75_out_6l0_p519 : Hid (Apart At_75_p519 _) := Lib.hid (apart_app Dt_71_out_6l0_p513.out (fun a_ ha_ => (own_lt Oout_6l0_p513_p518.out a_ ha_).2) Yt_75_p519.out)
                                 have Dt_75_t_77_p519 : Hid (Apart At_75_p519 _) := Lib.hid (apart_app (Apart.symm Dt_77_t_71_p518.out) (fun a_ ha_ => (own_lt Ot_77_p518.out a_ ha_).2) Yt_75_p519.out)
                                 have Oout_6l0_p513_p518_p519 := Lib.hid (own_other Oout_6l0_p513_p518.out Gt_75_p519.out Dt_71_out_6l0_p513.out)
                                 have Ot_77_p518_p519 := Lib.hid (own_other Ot_77_p518.out Gt_75_p519.out (Apart.symm Dt_77_t_71_p518.out)))
                              | (have hst_78_p520 := HBwt_75_p519.out.size
                                 have h1t_78_p520 : t_75.length + 1 ≤ maxLen := by unfold maxLen; omega
                                 have h2t_78_p520 : (t_75.length + 1) * 16 ≤ 140737488355328 := by omega
                                 have h3t_78_p520 := Ot_77_p518_p519.out.cells rfl
                                 refine Go.Proofs.Ytgimcnpkngpmiaa.GoH.step_append_own (w := wt_75_p519) rfl (.tmp 76) (.tmp 78) 47 rfl w.heap.size 9 i0_9 (.string ByteArray.empty) 1 16 Try.underlying47 hi_9 hz0_9 hz1_9 hz2_9 rfl (by decide) At_75_p519 ct_75_p519 t_75.length _ rfl Pt_75_p519.out ⟨w_t_71_p513.heap.size, 0, none⟩ 1 [.string t_22_town] rfl rfl h3t_78_p520 (one_cells rfl) h1t_78_p520 h2t_78_p520 hst_78_p520 ?_
                                 intro vt_78_p520 wt_78_p520 ot_78_p520 gt_78_p520 yt_78_p520
                                 obtain ⟨qt_78_p520, ct_78_p520, rfl, pt_78_p520⟩ := own_push hht_78.out (by simp) rfl ot_78_p520
                                 have Pt_78_p520 := Lib.hid pt_78_p520
                                 have Yt_78_p520 := Lib.hid yt_78_p520
                                 have Gt_78_p520 := Lib.hid gt_78_p520
                                 have HBwt_78_p520 := Lib.hid (HBwt_75_p519.out.grown Gt_78_p520.out hst_78_p520 (fun q hq => (Pt_75_p519.out.lt q hq).1))
                                 have Dt_78_out_6l0_p520 : Hid (Apart (some ⟨qt_78_p520, 0, none⟩) _) := Lib.hid (apart_app Dt_75_out_6l0_p519.out (fun a_ ha_ => (own_lt Oout_6l0_p513_p518_p519.out a_ ha_).2) Yt_78_p520.out)
                                 have Dt_78_t_77_p520 : Hid (Apart (some ⟨qt_78_p520, 0, none⟩) _) := Lib.hid (apart_app Dt_75_t_77_p519.out (fun a_ ha_ => (own_lt Ot_77_p518_p519.out a_ ha_).2) Yt_78_p520.out)
                                 have Oout_6l0_p513_p518_p519_p520 := Lib.hid (own_other Oout_6l0_p513_p518_p519.out Gt_78_p520.out Dt_75_out_6l0_p519.out)
                                 have Ot_77_p518_p519_p520 := Lib.hid (own_other Ot_77_p518_p519.out Gt_78_p520.out Dt_75_t_77_p519.out))
                              | (have hst_82_p521 := HBwt_78_p520.out.size
                                 have Ct_82_p521 := Lib.hid ((Mt_81_p512.out _ Oout_6l0_p513_p518_p519_p520.out))
                                 have h1t_82_p521 : t_78.length + t_81.length ≤ maxLen := by have h_ := hlt_82; unfold maxLen; omega
                                 have h2t_82_p521 : (t_78.length + t_81.length) * 16 ≤ 140737488355328 := by have h_ := hlt_82; omega
                                 refine Go.Proofs.Ytgimcnpkngpmiaa.GoH.step_spread_own (w := wt_78_p520) rfl (.tmp 79) (.tmp 82) 47 rfl w.heap.size 9 i0_9 (.string ByteArray.empty) 1 16 Try.underlying47 hi_9 hz0_9 hz1_9 hz2_9 rfl (by decide) (some ⟨qt_78_p520, 0, none⟩) ct_78_p520 t_78.length _ rfl Pt_78_p520.out At_81_p512 t_81.length ct_81_p512 (t_81.map Value.string) rfl Qt_81_p512.out Ct_82_p521.out (fun u hu => by obtain ⟨y_, _, rfl⟩ := List.mem_map.1 hu; rfl) h1t_82_p521 h2t_82_p521 hst_82_p521 ?_
                                 intro vt_82_p521 wt_82_p521 ot_82_p521 gt_82_p521 yt_82_p521
                                 obtain ⟨At_82_p521, ct_82_p521, rfl, pt_82_p521⟩ := own_pushS (f := (fun z => z.map Value.string)) hht_82.out (by simp) rfl ot_82_p521
                                 have Pt_82_p521 := Lib.hid pt_82_p521
                                 have Yt_82_p521 := Lib.hid yt_82_p521
                                 have Gt_82_p521 := Lib.hid gt_82_p521
                                 have HBwt_82_p521 := Lib.hid (HBwt_78_p520.out.grown Gt_82_p521.out hst_82_p521 (fun q hq => (Pt_78_p520.out.lt q hq).1))
                                 have Dt_82_out_6l0_p521 : Hid (Apart At_82_p521 _) := Lib.hid (apart_app Dt_78_out_6l0_p520.out (fun a_ ha_ => (own_lt Oout_6l0_p513_p518_p519_p520.out a_ ha_).2) Yt_82_p521.out)
                                 have Oout_6l0_p513_p518_p519_p520_p521 := Lib.hid (own_other Oout_6l0_p513_p518_p519_p520.out Gt_82_p521.out Dt_78_out_6l0_p520.out))
                              | (have hst_75_p524 := HBw_t_71_p523.out.size
                                 have Ct_75_p524 := Lib.hid ((Mt_74_p511.out _ Oout_6l0_p522_p523.out))
                                 have h1t_75_p524 : 0 + t_74.length ≤ maxLen := by have h_ := hlt_75; simp only [List.length_nil] at h_; unfold maxLen; omega
                                 have h2t_75_p524 : (0 + t_74.length) * 16 ≤ 140737488355328 := by have h_ := hlt_75; simp only [List.length_nil] at h_; omega
                                 refine Go.Proofs.Ytgimcnpkngpmiaa.GoH.step_spread_own (w := w_t_71_p523) rfl (.tmp 72) (.tmp 75) 47 rfl w.heap.size 9 i0_9 (.string ByteArray.empty) 1 16 Try.underlying47 hi_9 hz0_9 hz1_9 hz2_9 rfl (by decide) (some ⟨w_t_77_p522.heap.size, 0, none⟩) 0 0 _ rfl Ot_71_p523.out At_74_p511 t_74.length ct_74_p511 (t_74.map Value.string) rfl Qt_74_p511.out Ct_75_p524.out (fun u hu => by obtain ⟨y_, _, rfl⟩ := List.mem_map.1 hu; rfl) h1t_75_p524 h2t_75_p524 hst_75_p524 ?_
                                 intro vt_75_p524 wt_75_p524 ot_75_p524 gt_75_p524 yt_75_p524
                                 obtain ⟨At_75_p524, ct_75_p524, rfl, pt_75_p524⟩ := own_pushS (f := (fun z => z.map Value.string)) hht_75.out (by simp) rfl ot_75_p524
                                 have Pt_75_p524 := Lib.hid pt_75_p524
                                 have Yt_75_p524 := Lib.hid yt_75_p524
                                 have Gt_75_p524 := Lib.hid gt_75_p524
                                 have HBwt_75_p524 := Lib.hid (HBw_t_71_p523.out.grown Gt_75_p524.out hst_75_p524 (fun q hq => (Ot_71_p523.out.lt q hq).1))
                                 have Dt_75_out_6l0_p524 : Hid (Apart At_75_p524 _) := Lib.hid (apart_app Dt_71_out_6l0_p523.out (fun a_ ha_ => (own_lt Oout_6l0_p522_p523.out a_ ha_).2) Yt_75_p524.out)
                                 have Dt_75_t_77_p524 : Hid (Apart At_75_p524 _) := Lib.hid (apart_app Dt_71_t_77_p523.out (fun a_ ha_ => (own_lt Ot_77_p522_p523.out a_ ha_).2) Yt_75_p524.out)
                                 have Oout_6l0_p522_p523_p524 := Lib.hid (own_other Oout_6l0_p522_p523.out Gt_75_p524.out Dt_71_out_6l0_p523.out)
                                 have Ot_77_p522_p523_p524 := Lib.hid (own_other Ot_77_p522_p523.out Gt_75_p524.out Dt_71_t_77_p523.out))
                              | (have hst_78_p525 := HBwt_75_p524.out.size
                                 have h1t_78_p525 : t_75.length + 1 ≤ maxLen := by unfold maxLen; omega
                                 have h2t_78_p525 : (t_75.length + 1) * 16 ≤ 140737488355328 := by omega
                                 have h3t_78_p525 := Ot_77_p522_p523_p524.out.cells rfl
                                 refine Go.Proofs.Ytgimcnpkngpmiaa.GoH.step_append_own (w := wt_75_p524) rfl (.tmp 76) (.tmp 78) 47 rfl w.heap.size 9 i0_9 (.string ByteArray.empty) 1 16 Try.underlying47 hi_9 hz0_9 hz1_9 hz2_9 rfl (by decide) At_75_p524 ct_75_p524 t_75.length _ rfl Pt_75_p524.out ⟨wr2.heap.size, 0, none⟩ 1 [.string t_22_town] rfl rfl h3t_78_p525 (one_cells rfl) h1t_78_p525 h2t_78_p525 hst_78_p525 ?_
                                 intro vt_78_p525 wt_78_p525 ot_78_p525 gt_78_p525 yt_78_p525
                                 obtain ⟨qt_78_p525, ct_78_p525, rfl, pt_78_p525⟩ := own_push hht_78.out (by simp) rfl ot_78_p525
                                 have Pt_78_p525 := Lib.hid pt_78_p525
                                 have Yt_78_p525 := Lib.hid yt_78_p525
                                 have Gt_78_p525 := Lib.hid gt_78_p525
                                 have HBwt_78_p525 := Lib.hid (HBwt_75_p524.out.grown Gt_78_p525.out hst_78_p525 (fun q hq => (Pt_75_p524.out.lt q hq).1))
                                 have Dt_78_out_6l0_p525 : Hid (Apart (some ⟨qt_78_p525, 0, none⟩) _) := Lib.hid (apart_app Dt_75_out_6l0_p524.out (fun a_ ha_ => (own_lt Oout_6l0_p522_p523_p524.out a_ ha_).2) Yt_78_p525.out)
                                 have Dt_78_t_77_p525 : Hid (Apart (some ⟨qt_78_p525, 0, none⟩) _) := Lib.hid (apart_app Dt_75_t_77_p524.out (fun a_ ha_ => (own_lt Ot_77_p522_p523_p524.out a_ ha_).2) Yt_78_p525.out)
                                 have Oout_6l0_p522_p523_p524_p525 := Lib.hid (own_other Oout_6l0_p522_p523_p524.out Gt_78_p525.out Dt_75_out_6l0_p524.out)
                                 have Ot_77_p522_p523_p524_p525 := Lib.hid (own_other Ot_77_p522_p523_p524.out Gt_78_p525.out Dt_75_t_77_p524.out))
                              | (have hst_82_p526 := HBwt_78_p525.out.size
                                 have Ct_82_p526 := Lib.hid ((Mt_81_p512.out _ Oout_6l0_p522_p523_p524_p525.out))
                                 have h1t_82_p526 : t_78.length + t_81.length ≤ maxLen := by have h_ := hlt_82; unfold maxLen; omega
                                 have h2t_82_p526 : (t_78.length + t_81.length) * 16 ≤ 140737488355328 := by have h_ := hlt_82; omega
                                 refine Go.Proofs.Ytgimcnpkngpmiaa.GoH.step_spread_own (w := wt_78_p525) rfl (.tmp 79) (.tmp 82) 47 rfl w.heap.size 9 i0_9 (.string ByteArray.empty) 1 16 Try.underlying47 hi_9 hz0_9 hz1_9 hz2_9 rfl (by decide) (some ⟨qt_78_p525, 0, none⟩) ct_78_p525 t_78.length _ rfl Pt_78_p525.out At_81_p512 t_81.length ct_81_p512 (t_81.map Value.string) rfl Qt_81_p512.out Ct_82_p526.out (fun u hu => by obtain ⟨y_, _, rfl⟩ := List.mem_map.1 hu; rfl) h1t_82_p526 h2t_82_p526 hst_82_p526 ?_
                                 intro vt_82_p526 wt_82_p526 ot_82_p526 gt_82_p526 yt_82_p526
                                 obtain ⟨At_82_p526, ct_82_p526, rfl, pt_82_p526⟩ := own_pushS (f := (fun z => z.map Value.string)) hht_82.out (by simp) rfl ot_82_p526
                                 have Pt_82_p526 := Lib.hid pt_82_p526
                                 have Yt_82_p526 := Lib.hid yt_82_p526
                                 have Gt_82_p526 := Lib.hid gt_82_p526
                                 have HBwt_82_p526 := Lib.hid (HBwt_78_p525.out.grown Gt_82_p526.out hst_82_p526 (fun q hq => (Pt_78_p525.out.lt q hq).1))
                                 have Dt_82_out_6l0_p526 : Hid (Apart At_82_p526 _) := Lib.hid (apart_app Dt_78_out_6l0_p525.out (fun a_ ha_ => (own_lt Oout_6l0_p522_p523_p524_p525.out a_ ha_).2) Yt_82_p526.out)
                                 have Oout_6l0_p522_p523_p524_p525_p526 := Lib.hid (own_other Oout_6l0_p522_p523_p524_p525.out Gt_82_p526.out Dt_78_out_6l0_p525.out)))
                        · skip
                          replace H := app_hid H
                          go_wp2_with fail
                          go_roundg m0
                          case measure => omega
                          case rel => exact ⟨k0 + 1, _, _, _, by omega, by go_num, rfl, H, HBwt_82_p517, Pt_82_p517⟩
                        · skip
                          replace H := app_hid H
                          go_wp2_with fail
                          go_roundg m0
                          case measure => omega
                          case rel => exact ⟨k0 + 1, _, _, _, by omega, by go_num, rfl, H, HBwt_82_p521, Pt_82_p521⟩
                        · skip
                          replace H := app_hid H
                          go_wp2_with fail
                          go_roundg m0
                          case measure => omega
                          case rel => exact ⟨k0 + 1, _, _, _, by omega, by go_num, rfl, H, HBwt_82_p526, Pt_82_p526⟩
                      | true =>
                        replace H := let_hid H
                        obtain ⟨t_70, ht_70, H⟩ := H
                        obtain rfl : t_70 = false := ht_70.symm
                        replace H := ite_f H
                        replace H := app_hid H
                        go_wp2_with fail
                        go_roundg m0
                        case measure => omega
                        case rel => exact ⟨k0 + 1, _, _, _, by omega, by go_num, rfl, H, HBwr2, Oout_6l0⟩
                    | true =>
                      replace H := ite_t H
                      replace H := let_hid H
                      obtain ⟨t_61, ht_61, H⟩ := H
                      replace H := idx_hid H
                      obtain ⟨nt_62, yt_62, et_62, lt_62, gt_62, H⟩ := H
                      subst et_62
                      obtain ⟨qt_62, Qt_62⟩ := own_some Oout_6l0.out (by omega)
                      subst Qt_62
                      obtain ⟨ab_t_62, ao_t_62, zt_62, At_62, z_t_62, ct_62_0⟩ := strs_at (own_cells Oout_6l0.out) (k := nt_62) (by omega)
                      obtain rfl := Option.some.inj (gt_62.out.symm.trans z_t_62)
                      simp only [Option.some.injEq, Addr.mk.injEq] at At_62
                      obtain ⟨rfl, rfl, _⟩ := At_62
                      clear z_t_62
                      simp only [Nat.zero_add] at ct_62_0
                      have b0t_62 : (0 : Int) ≤ (nt_62 : Int) := by omega
                      have b1t_62 : (nt_62 : Int) < ((out_6l0.length : Nat) : Int) := by omega
                      have b2t_62 : ((nt_62 : Int)).toNat = nt_62 := by omega
                      replace H := let_hid H
                      obtain ⟨t_64, ht_64, H⟩ := H
                      replace H := app_hid H
                      cases t_64 with
                      | false =>
                        replace H := ite_f H
                        replace H := app_hid H
                        unfold e2 at H
                        replace H := let_hid H
                        obtain ⟨_, rfl, H⟩ := H
                        cases known_10l1 with
                        | false =>
                          replace H := let_hid H
                          obtain ⟨t_70, ht_70, H⟩ := H
                          obtain rfl : t_70 = true := ht_70.symm
                          replace H := ite_t H
                          go_wp2_with fail
                          have bd17 : Below wr2.heap.size wr2 wr2.drew := (Below.refl _ _).drew
                          have HBwr2.drew := Lib.hid (Below.step HBwr2.out bd17)
                          replace ct_62_0 := cell_below bd17 ct_62_0
                          replace Oout_6l0 := Lib.hid (own_below Oout_6l0.out bd17)
                          clear bd17
                          replace H := guard_hid H
                          obtain ⟨hl_t_74, H⟩ := H
                          replace H := let_hid H
                          obtain ⟨t_74, ht_74, H⟩ := H
                          have hht_74 := Lib.hid ht_74
                          have hgt_74 := Lib.hid hl_t_74
                          clear ht_74
                          clear hl_t_74
                          replace H := guard_hid H
                          obtain ⟨hlt_75, H⟩ := H
                          replace H := let_hid H
                          obtain ⟨t_75, ht_75, H⟩ := H
                          have hht_75 := Lib.hid ht_75
                          clear ht_75
                          replace H := guard_hid H
                          obtain ⟨hlt_78, H⟩ := H
                          replace H := let_hid H
                          obtain ⟨t_78, ht_78, H⟩ := H
                          have hht_78 := Lib.hid ht_78
                          clear ht_78
                          replace H := guard_hid H
                          obtain ⟨hl_t_81, H⟩ := H
                          replace H := let_hid H
                          obtain ⟨t_81, ht_81, H⟩ := H
                          have hht_81 := Lib.hid ht_81
                          have hgt_81 := Lib.hid hl_t_81
                          clear ht_81
                          clear hl_t_81
                          replace H := guard_hid H
                          obtain ⟨hlt_82, H⟩ := H
                          replace H := let_hid H
                          obtain ⟨t_82, ht_82, H⟩ := H
                          have hht_82 := Lib.hid ht_82
                          clear ht_82
                          obtain ⟨At_74_p529, ct_74_p529, rt_74_p529, mt_74_p529, qt_74_p529⟩ := Go.Proofs.Ytgimcnpkngpmiaa.GoD.slice_viewH (P := Try.prog) (t := 47) (e := 9) (k := .i64) (ys := (t_74.map Value.string)) (m := t_74.length) (by kernel_rfl) (by kernel_rfl) hi_9 hz1_9 Oout_6l0.out (by have h_ := hgt_74.out; omega) (by have h_ := hgt_74.out; rw [← hht_74.out, List.length_take] <;> omega) (by rw [← hht_74.out]; simp [List.map_take])
                          have Mt_74_p529 := Lib.hid mt_74_p529
                          have Qt_74_p529 := Lib.hid qt_74_p529
                          have Nt_74_p529 : Hid (t_74.length ≤ 9223372036854775807) := Lib.hid (by have h_ := own_max Oout_6l0.out; rw [← hht_74.out, List.length_take] <;> omega)
                          obtain ⟨At_81_p530, ct_81_p530, rt_81_p530, mt_81_p530, qt_81_p530⟩ := Go.Proofs.Ytgimcnpkngpmiaa.GoD.slice_view (P := Try.prog) (t := 47) (e := 9) (k := .i64) (ys := (t_81.map Value.string)) (m := t_81.length) (by kernel_rfl) (by kernel_rfl) hi_9 hz1_9 Oout_6l0.out (by have h_ := hgt_81.out; omega) (by rw [← hht_81.out, List.length_drop] <;> omega) (by rw [← hht_81.out]; simp [List.map_drop])
                          have Mt_81_p530 := Lib.hid mt_81_p530
                          have Qt_81_p530 := Lib.hid qt_81_p530
                          have Nt_81_p530 : Hid (t_81.length ≤ 9223372036854775807) := Lib.hid (by have h_ := own_max Oout_6l0.out; rw [← hht_81.out, List.length_drop] <;> omega)
                          obtain ⟨w_t_71_p532, hw_t_71_p532⟩ : ∃ x, wr2.drew.alloc (.cells #[] 9) = x := ⟨_, rfl⟩
                          have bw_t_71_p532 : Below wr2.drew.heap.size wr2.drew w_t_71_p532 := by rw [← hw_t_71_p532]; exact (Below.refl _ _).alloc (Nat.le_refl _) _
                          have Ot_71_p532 : Hid (w_t_71_p532.ownsRow w.heap.size 9 1 (.slice (some ⟨wr2.heap.size, 0, none⟩) 0 0) 0 []) := Lib.hid (by rw [← hw_t_71_p532]; exact own_empty HBwr2.drew.out.size)
                          have Dt_71_out_6l0_p532 := Lib.hid (apart_fresh Oout_6l0.out)
                          have HBw_t_71_p532 := Lib.hid (Below.step HBwr2.drew.out bw_t_71_p532)
                          have ct_62_0__531_p532 := cell_below bw_t_71_p532 ct_62_0
                          have Oout_6l0_p532 := Lib.hid (own_below Oout_6l0.out bw_t_71_p532)
                          obtain ⟨w_t_77_p539, hw_t_77_p539⟩ : ∃ x, w_t_71_p532.alloc (.cells #[.string t_22_town] 9) = x := ⟨_, rfl⟩
                          have bw_t_77_p539 : Below w_t_71_p532.heap.size w_t_71_p532 w_t_77_p539 := by rw [← hw_t_77_p539]; exact (Below.refl _ _).alloc (Nat.le_refl _) _
                          have Ot_77_p539 : Hid (w_t_77_p539.ownsRow w.heap.size 9 1 (.slice (some ⟨w_t_71_p532.heap.size, 0, none⟩) 1 1) 1 [.string t_22_town]) := Lib.hid (by rw [← hw_t_77_p539]; exact own_laid (n := 1) HBw_t_71_p532.out.size (rfl : ([.string t_22_town] : List Value) = [.string t_22_town]) rfl (by unfold maxLen; omega))
                          have Dt_77_out_6l0_p539 := Lib.hid (apart_fresh Oout_6l0_p532.out)
                          have Dt_77_t_71_p539 := Lib.hid (apart_fresh Ot_71_p532.out)
                          have HBw_t_77_p539 := Lib.hid (Below.step HBw_t_71_p532.out bw_t_77_p539)
                          have ct_62_0__538_p539 := cell_below bw_t_77_p539 ct_62_0__531_p532
                          have Oout_6l0_p532_p539 := Lib.hid (own_below Oout_6l0_p532.out bw_t_77_p539)
                          have Ot_71_p532_p539 := Lib.hid (own_below Ot_71_p532.out bw_t_77_p539)
                          obtain ⟨w_t_77_p544, hw_t_77_p544⟩ : ∃ x, wr2.drew.alloc (.cells #[.string t_22_town] 9) = x := ⟨_, rfl⟩
                          have bw_t_77_p544 : Below wr2.drew.heap.size wr2.drew w_t_77_p544 := by rw [← hw_t_77_p544]; exact (Below.refl _ _).alloc (Nat.le_refl _) _
                          have Ot_77_p544 : Hid (w_t_77_p544.ownsRow w.heap.size 9 1 (.slice (some ⟨wr2.heap.size, 0, none⟩) 1 1) 1 [.string t_22_town]) := Lib.hid (by rw [← hw_t_77_p544]; exact own_laid (n := 1) HBwr2.drew.out.size (rfl : ([.string t_22_town] : List Value) = [.string t_22_town]) rfl (by unfold maxLen; omega))
                          have Dt_77_out_6l0_p544 := Lib.hid (apart_fresh Oout_6l0.out)
                          have HBw_t_77_p544 := Lib.hid (Below.step HBwr2.drew.out bw_t_77_p544)
                          have ct_62_0__543_p544 := cell_below bw_t_77_p544 ct_62_0
                          have Oout_6l0_p544 := Lib.hid (own_below Oout_6l0.out bw_t_77_p544)
                          obtain ⟨w_t_71_p546, hw_t_71_p546⟩ : ∃ x, w_t_77_p544.alloc (.cells #[] 9) = x := ⟨_, rfl⟩
                          have bw_t_71_p546 : Below w_t_77_p544.heap.size w_t_77_p544 w_t_71_p546 := by rw [← hw_t_71_p546]; exact (Below.refl _ _).alloc (Nat.le_refl _) _
                          have Ot_71_p546 : Hid (w_t_71_p546.ownsRow w.heap.size 9 1 (.slice (some ⟨w_t_77_p544.heap.size, 0, none⟩) 0 0) 0 []) := Lib.hid (by rw [← hw_t_71_p546]; exact own_empty HBw_t_77_p544.out.size)
                          have Dt_71_out_6l0_p546 := Lib.hid (apart_fresh Oout_6l0_p544.out)
                          have Dt_71_t_77_p546 := Lib.hid (apart_fresh Ot_77_p544.out)
                          have HBw_t_71_p546 := Lib.hid (Below.step HBw_t_77_p544.out bw_t_71_p546)
                          have ct_62_0__545_p546 := cell_below bw_t_71_p546 ct_62_0__543_p544
                          have Oout_6l0_p544_p546 := Lib.hid (own_below Oout_6l0_p544.out bw_t_71_p546)
                          have Ot_77_p544_p546 := Lib.hid (own_below Ot_77_p544.out bw_t_71_p546)
                          go_region_held3 (fun w' => w'.cell? ⟨qt_62, nt_62, none⟩ = some (.string yt_62)) (first | exact ct_62_0 | exact ct_62_0__531_p532 | exact ct_62_0__531_p532_p533 | exact ct_62_0__534_p535 | exact ct_62_0__534_p535_p536 | exact ct_62_0__534_p535_p536_p537 | exact ct_62_0__538_p539 | exact ct_62_0__538_p539_p540 | exact ct_62_0__538_p539_p540_p541 | exact ct_62_0__538_p539_p540_p541_p542 | exact ct_62_0__543_p544 | exact ct_62_0__545_p546 | exact ct_62_0__545_p546_p547 | exact ct_62_0__545_p546_p547_p548 | exact ct_62_0__545_p546_p547_p548_p549)
                              (first
                                | (have hst_75_p533 := HBw_t_71_p532.out.size
                                   have Ct_75_p533 := Lib.hid ((Mt_74_p529.out _ Oout_6l0_p532.out))
                                   have h1t_75_p533 : 0 + t_74.length ≤ maxLen := by have h_ := hlt_75; simp only [List.length_nil] at h_; unfold maxLen; omega
                                   have h2t_75_p533 : (0 + t_74.length) * 16 ≤ 140737488355328 := by have h_ := hlt_75; simp only [List.length_nil] at h_; omega
                                   refine Go.Proofs.Ytgimcnpkngpmiaa.GoH.step_spread_own (w := w_t_71_p532) rfl (.tmp 72) (.tmp 75) 47 rfl w.heap.size 9 i0_9 (.string ByteArray.empty) 1 16 Try.underlying47 hi_9 hz0_9 hz1_9 hz2_9 rfl (by decide) (some ⟨wr2.heap.size, 0, none⟩) 0 0 _ rfl Ot_71_p532.out At_74_p529 t_74.length ct_74_p529 (t_74.map Value.string) rfl Qt_74_p529.out Ct_75_p533.out (fun u hu => by obtain ⟨y_, _, rfl⟩ := List.mem_map.1 hu; rfl) h1t_75_p533 h2t_75_p533 hst_75_p533 ?_
                                   intro vt_75_p533 wt_75_p533 ot_75_p533 gt_75_p533 yt_75_p533
                                   obtain ⟨At_75_p533, ct_75_p533, rfl, pt_75_p533⟩ := own_pushS (f := (fun z => z.map Value.string)) hht_75.out (by simp) rfl ot_75_p533
                                   have Pt_75_p533 := Lib.hid pt_75_p533
                                   have Yt_75_p533 := Lib.hid yt_75_p533
                                   have Gt_75_p533 := Lib.hid gt_75_p533
                                   have HBwt_75_p533 := Lib.hid (HBw_t_71_p532.out.grown Gt_75_p533.out hst_75_p533 (fun q hq => (Ot_71_p532.out.lt q hq).1))
                                   have Dt_75_out_6l0_p533 : Hid (Apart At_75_p533 _) := Lib.hid (apart_app Dt_71_out_6l0_p532.out (fun a_ ha_ => (own_lt Oout_6l0_p532.out a_ ha_).2) Yt_75_p533.out)
                                   have ct_62_0__531_p532_p533 := cell_other ct_62_0__531_p532 Gt_75_p533.out Dt_71_out_6l0_p532.out
                                   have Oout_6l0_p532_p533 := Lib.hid (own_other Oout_6l0_p532.out Gt_75_p533.out Dt_71_out_6l0_p532.out)
                                   obtain ⟨w_t_77_p535, hw_t_77_p535⟩ : ∃ x, wt_75_p533.alloc (.cells #[.string t_22_town] 9) = x := ⟨_, rfl⟩
                                   have bw_t_77_p535 : Below wt_75_p533.heap.size wt_75_p533 w_t_77_p535 := by rw [← hw_t_77_p535]; exact (Below.refl _ _).alloc (Nat.le_refl _) _
                                   have Ot_77_p535 : Hid (w_t_77_p535.ownsRow w.heap.size 9 1 (.slice (some ⟨wt_75_p533.heap.size, 0, none⟩) 1 1) 1 [.string t_22_town]) := Lib.hid (by rw [← hw_t_77_p535]; exact own_laid (n := 1) HBwt_75_p533.out.size (rfl : ([.string t_22_town] : List Value) = [.string t_22_town]) rfl (by unfold maxLen; omega))
                                   have Dt_77_out_6l0_p535 := Lib.hid (apart_fresh Oout_6l0_p532_p533.out)
                                   have Dt_77_t_75_p535 := Lib.hid (apart_fresh Pt_75_p533.out)
                                   have HBw_t_77_p535 := Lib.hid (Below.step HBwt_75_p533.out bw_t_77_p535)
                                   have ct_62_0__534_p535 := cell_below bw_t_77_p535 ct_62_0__531_p532_p533
                                   have Oout_6l0_p532_p533_p535 := Lib.hid (own_below Oout_6l0_p532_p533.out bw_t_77_p535)
                                   have Pt_75_p533_p535 := Lib.hid (own_below Pt_75_p533.out bw_t_77_p535))
                                | (have hst_78_p536 := HBw_t_77_p535.out.size
                                   have h1t_78_p536 : t_75.length + 1 ≤ maxLen := by unfold maxLen; omega
                                   have h2t_78_p536 : (t_75.length + 1) * 16 ≤ 140737488355328 := by omega
                                   have h3t_78_p536 := Ot_77_p535.out.cells rfl
                                   refine Go.Proofs.Ytgimcnpkngpmiaa.GoH.step_append_own (w := w_t_77_p535) rfl (.tmp 76) (.tmp 78) 47 rfl w.heap.size 9 i0_9 (.string ByteArray.empty) 1 16 Try.underlying47 hi_9 hz0_9 hz1_9 hz2_9 rfl (by decide) At_75_p533 ct_75_p533 t_75.length _ rfl Pt_75_p533_p535.out ⟨wt_75_p533.heap.size, 0, none⟩ 1 [.string t_22_town] rfl rfl h3t_78_p536 (one_cells rfl) h1t_78_p536 h2t_78_p536 hst_78_p536 ?_
                                   intro vt_78_p536 wt_78_p536 ot_78_p536 gt_78_p536 yt_78_p536
                                   obtain ⟨qt_78_p536, ct_78_p536, rfl, pt_78_p536⟩ := own_push hht_78.out (by simp) rfl ot_78_p536
                                   have Pt_78_p536 := Lib.hid pt_78_p536
                                   have Yt_78_p536 := Lib.hid yt_78_p536
                                   have Gt_78_p536 := Lib.hid gt_78_p536
                                   have HBwt_78_p536 := Lib.hid (HBw_t_77_p535.out.grown Gt_78_p536.out hst_78_p536 (fun q hq => (Pt_75_p533_p535.out.lt q hq).1))
                                   have Dt_78_out_6l0_p536 : Hid (Apart (some ⟨qt_78_p536, 0, none⟩) _) := Lib.hid (apart_app Dt_75_out_6l0_p533.out (fun a_ ha_ => (own_lt Oout_6l0_p532_p533_p535.out a_ ha_).2) Yt_78_p536.out)
                                   have Dt_78_t_77_p536 : Hid (Apart (some ⟨qt_78_p536, 0, none⟩) _) := Lib.hid (apart_app (Apart.symm Dt_77_t_75_p535.out) (fun a_ ha_ => (own_lt Ot_77_p535.out a_ ha_).2) Yt_78_p536.out)
                                   have ct_62_0__534_p535_p536 := cell_other ct_62_0__534_p535 Gt_78_p536.out Dt_75_out_6l0_p533.out
                                   have Oout_6l0_p532_p533_p535_p536 := Lib.hid (own_other Oout_6l0_p532_p533_p535.out Gt_78_p536.out Dt_75_out_6l0_p533.out)
                                   have Ot_77_p535_p536 := Lib.hid (own_other Ot_77_p535.out Gt_78_p536.out (Apart.symm Dt_77_t_75_p535.out)))
                                | (have hst_82_p537 := HBwt_78_p536.out.size
                                   have Ct_82_p537 := Lib.hid ((Mt_81_p530.out _ Oout_6l0_p532_p533_p535_p536.out))
                                   have h1t_82_p537 : t_78.length + t_81.length ≤ maxLen := by have h_ := hlt_82; unfold maxLen; omega
                                   have h2t_82_p537 : (t_78.length + t_81.length) * 16 ≤ 140737488355328 := by have h_ := hlt_82; omega
                                   refine Go.Proofs.Ytgimcnpkngpmiaa.GoH.step_spread_own (w := wt_78_p536) rfl (.tmp 79) (.tmp 82) 47 rfl w.heap.size 9 i0_9 (.string ByteArray.empty) 1 16 Try.underlying47 hi_9 hz0_9 hz1_9 hz2_9 rfl (by decide) (some ⟨qt_78_p536, 0, none⟩) ct_78_p536 t_78.length _ rfl Pt_78_p536.out At_81_p530 t_81.length ct_81_p530 (t_81.map Value.string) rfl Qt_81_p530.out Ct_82_p537.out (fun u hu => by obtain ⟨y_, _, rfl⟩ := List.mem_map.1 hu; rfl) h1t_82_p537 h2t_82_p537 hst_82_p537 ?_
                                   intro vt_82_p537 wt_82_p537 ot_82_p537 gt_82_p537 yt_82_p537
                                   obtain ⟨At_82_p537, ct_82_p537, rfl, pt_82_p537⟩ := own_pushS (f := (fun z => z.map Value.string)) hht_82.out (by simp) rfl ot_82_p537
                                   have Pt_82_p537 := Lib.hid pt_82_p537
                                   have Yt_82_p537 := Lib.hid yt_82_p537
                                   have Gt_82_p537 := Lib.hid gt_82_p537
                                   have HBwt_82_p537 := Lib.hid (HBwt_78_p536.out.grown Gt_82_p537.out hst_82_p537 (fun q hq => (Pt_78_p536.out.lt q hq).1))
                                   have Dt_82_out_6l0_p537 : Hid (Apart At_82_p537 _) := Lib.hid (apart_app Dt_78_out_6l0_p536.out (fun a_ ha_ => (own_lt Oout_6l0_p532_p533_p535_p536.out a_ ha_).2) Yt_82_p537.out)
                                   have ct_62_0__534_p535_p536_p537 := cell_other ct_62_0__534_p535_p536 Gt_82_p537.out Dt_78_out_6l0_p536.out
                                   have Oout_6l0_p532_p533_p535_p536_p537 := Lib.hid (own_other Oout_6l0_p532_p533_p535_p536.out Gt_82_p537.out Dt_78_out_6l0_p536.out))
                                | (have hst_75_p540 := HBw_t_77_p539.out.size
                                   have Ct_75_p540 := Lib.hid ((Mt_74_p529.out _ Oout_6l0_p532_p539.out))
                                   have h1t_75_p540 : 0 + t_74.length ≤ maxLen := by have h_ := hlt_75; simp only [List.length_nil] at h_; unfold maxLen; omega
                                   have h2t_75_p540 : (0 + t_74.length) * 16 ≤ 140737488355328 := by have h_ := hlt_75; simp only [List.length_nil] at h_; omega
                                   refine Go.Proofs.Ytgimcnpkngpmiaa.GoH.step_spread_own (w := w_t_77_p539) rfl (.tmp 72) (.tmp 75) 47 rfl w.heap.size 9 i0_9 (.string ByteArray.empty) 1 16 Try.underlying47 hi_9 hz0_9 hz1_9 hz2_9 rfl (by decide) (some ⟨wr2.heap.size, 0, none⟩) 0 0 _ rfl Ot_71_p532_p539.out At_74_p529 t_74.length ct_74_p529 (t_74.map Value.string) rfl Qt_74_p529.out Ct_75_p540.out (fun u hu => by obtain ⟨y_, _, rfl⟩ := List.mem_map.1 hu; rfl) h1t_75_p540 h2t_75_p540 hst_75_p540 ?_
                                   intro vt_75_p540 wt_75_p540 ot_75_p540 gt_75_p540 yt_75_p540
                                   obtain ⟨At_75_p540, ct_75_p540, rfl, pt_75_p540⟩ := own_pushS (f := (fun z => z.map Value.string)) hht_75.out (by simp) rfl ot_75_p540
                                   have Pt_75_p540 := Lib.hid pt_75_p540
                                   have Yt_75_p540 := Lib.hid yt_75_p540
                                   have Gt_75_p540 := Lib.hid gt_75_p540
                                   have HBwt_75_p540 := Lib.hid (HBw_t_77_p539.out.grown Gt_75_p540.out hst_75_p540 (fun q hq => (Ot_71_p532_p539.out.lt q hq).1))
                                   have Dt_75_out_6l0_p540 : Hid (Apart At_75_p540 _) := Lib.hid (apart_app Dt_71_out_6l0_p532.out (fun a_ ha_ => (own_lt Oout_6l0_p532_p539.out a_ ha_).2) Yt_75_p540.out)
                                   have Dt_75_t_77_p540 : Hid (Apart At_75_p540 _) := Lib.hid (apart_app (Apart.symm Dt_77_t_71_p539.out) (fun a_ ha_ => (own_lt Ot_77_p539.out a_ ha_).2) Yt_75_p540.out)
                                   have ct_62_0__538_p539_p540 := cell_other ct_62_0__538_p539 Gt_75_p540.out Dt_71_out_6l0_p532.out
                                   have Oout_6l0_p532_p539_p540 := Lib.hid (own_other Oout_6l0_p532_p539.out Gt_75_p540.out Dt_71_out_6l0_p532.out)
                                   have Ot_77_p539_p540 := Lib.hid (own_other Ot_77_p539.out Gt_75_p540.out (Apart.symm Dt_77_t_71_p539.out)))
                                | (have hst_78_p541 := HBwt_75_p540.out.size
                                   have h1t_78_p541 : t_75.length + 1 ≤ maxLen := by unfold maxLen; omega
                                   have h2t_78_p541 : (t_75.length + 1) * 16 ≤ 140737488355328 := by omega
                                   have h3t_78_p541 := Ot_77_p539_p540.out.cells rfl
                                   refine Go.Proofs.Ytgimcnpkngpmiaa.GoH.step_append_own (w := wt_75_p540) rfl (.tmp 76) (.tmp 78) 47 rfl w.heap.size 9 i0_9 (.string ByteArray.empty) 1 16 Try.underlying47 hi_9 hz0_9 hz1_9 hz2_9 rfl (by decide) At_75_p540 ct_75_p540 t_75.length _ rfl Pt_75_p540.out ⟨w_t_71_p532.heap.size, 0, none⟩ 1 [.string t_22_town] rfl rfl h3t_78_p541 (one_cells rfl) h1t_78_p541 h2t_78_p541 hst_78_p541 ?_
                                   intro vt_78_p541 wt_78_p541 ot_78_p541 gt_78_p541 yt_78_p541
                                   obtain ⟨qt_78_p541, ct_78_p541, rfl, pt_78_p541⟩ := own_push hht_78.out (by simp) rfl ot_78_p541
                                   have Pt_78_p541 := Lib.hid pt_78_p541
                                   have Yt_78_p541 := Lib.hid yt_78_p541
                                   have Gt_78_p541 := Lib.hid gt_78_p541
                                   have HBwt_78_p541 := Lib.hid (HBwt_75_p540.out.grown Gt_78_p541.out hst_78_p541 (fun q hq => (Pt_75_p540.out.lt q hq).1))
                                   have Dt_78_out_6l0_p541 : Hid (Apart (some ⟨qt_78_p541, 0, none⟩) _) := Lib.hid (apart_app Dt_75_out_6l0_p540.out (fun a_ ha_ => (own_lt Oout_6l0_p532_p539_p540.out a_ ha_).2) Yt_78_p541.out)
                                   have Dt_78_t_77_p541 : Hid (Apart (some ⟨qt_78_p541, 0, none⟩) _) := Lib.hid (apart_app Dt_75_t_77_p540.out (fun a_ ha_ => (own_lt Ot_77_p539_p540.out a_ ha_).2) Yt_78_p541.out)
                                   have ct_62_0__538_p539_p540_p541 := cell_other ct_62_0__538_p539_p540 Gt_78_p541.out Dt_75_out_6l0_p540.out
                                   have Oout_6l0_p532_p539_p540_p541 := Lib.hid (own_other Oout_6l0_p532_p539_p540.out Gt_78_p541.out Dt_75_out_6l0_p540.out)
                                   have Ot_77_p539_p540_p541 := Lib.hid (own_other Ot_77_p539_p540.out Gt_78_p541.out Dt_75_t_77_p540.out))
                                | (have hst_82_p542 := HBwt_78_p541.out.size
                                   have Ct_82_p542 := Lib.hid ((Mt_81_p530.out _ Oout_6l0_p532_p539_p540_p541.out))
                                   have h1t_82_p542 : t_78.length + t_81.length ≤ maxLen := by have h_ := hlt_82; unfold maxLen; omega
                                   have h2t_82_p542 : (t_78.length + t_81.length) * 16 ≤ 140737488355328 := by have h_ := hlt_82; omega
                                   refine Go.Proofs.Ytgimcnpkngpmiaa.GoH.step_spread_own (w := wt_78_p541) rfl (.tmp 79) (.tmp 82) 47 rfl w.heap.size 9 i0_9 (.string ByteArray.empty) 1 16 Try.underlying47 hi_9 hz0_9 hz1_9 hz2_9 rfl (by decide) (some ⟨qt_78_p541, 0, none⟩) ct_78_p541 t_78.length _ rfl Pt_78_p541.out At_81_p530 t_81.length ct_81_p530 (t_81.map Value.string) rfl Qt_81_p530.out Ct_82_p542.out (fun u hu => by obtain ⟨y_, _, rfl⟩ := List.mem_map.1 hu; rfl) h1t_82_p542 h2t_82_p542 hst_82_p542 ?_
                                   intro vt_82_p542 wt_82_p542 ot_82_p542 gt_82_p542 yt_82_p542
                                   obtain ⟨At_82_p542, ct_82_p542, rfl, pt_82_p542⟩ := own_pushS (f := (fun z => z.map Value.string)) hht_82.out (by simp) rfl ot_82_p542
                                   have Pt_82_p542 := Lib.hid pt_82_p542
                                   have Yt_82_p542 := Lib.hid yt_82_p542
                                   have Gt_82_p542 := Lib.hid gt_82_p542
                                   have HBwt_82_p542 := Lib.hid (HBwt_78_p541.out.grown Gt_82_p542.out hst_82_p542 (fun q hq => (Pt_78_p541.out.lt q hq).1))
                                   have Dt_82_out_6l0_p542 : Hid (Apart At_82_p542 _) := Lib.hid (apart_app Dt_78_out_6l0_p541.out (fun a_ ha_ => (own_lt Oout_6l0_p532_p539_p540_p541.out a_ ha_).2) Yt_82_p542.out)
                                   have ct_62_0__538_p539_p540_p541_p542 := cell_other ct_62_0__538_p539_p540_p541 Gt_82_p542.out Dt_78_out_6l0_p541.out
                                   have Oout_6l0_p532_p539_p540_p541_p542 := Lib.hid (own_other Oout_6l0_p532_p539_p540_p541.out Gt_82_p542.out Dt_78_out_6l0_p541.out))
                                | (have hst_75_p547 := HBw_t_71_p546.out.size
                                   have Ct_75_p547 := Lib.hid ((Mt_74_p529.out _ Oout_6l0_p544_p546.out))
                                   have h1t_75_p547 : 0 + t_74.length ≤ maxLen := by have h_ := hlt_75; simp only [List.length_nil] at h_; unfold maxLen; omega
                                   have h2t_75_p547 : (0 + t_74.length) * 16 ≤ 140737488355328 := by have h_ := hlt_75; simp only [List.length_nil] at h_; omega
                                   refine Go.Proofs.Ytgimcnpkngpmiaa.GoH.step_spread_own (w := w_t_71_p546) rfl (.tmp 72) (.tmp 75) 47 rfl w.heap.size 9 i0_9 (.string ByteArray.empty) 1 16 Try.underlying47 hi_9 hz0_9 hz1_9 hz2_9 rfl (by decide) (some ⟨w_t_77_p544.heap.size, 0, none⟩) 0 0 _ rfl Ot_71_p546.out At_74_p529 t_74.length ct_74_p529 (t_74.map Value.string) rfl Qt_74_p529.out Ct_75_p547.out (fun u hu => by obtain ⟨y_, _, rfl⟩ := List.mem_map.1 hu; rfl) h1t_75_p547 h2t_75_p547 hst_75_p547 ?_
                                   intro vt_75_p547 wt_75_p547 ot_75_p547 gt_75_p547 yt_75_p547
                                   obtain ⟨At_75_p547, ct_75_p547, rfl, pt_75_p547⟩ := own_pushS (f := (fun z => z.map Value.string)) hht_75.out (by simp) rfl ot_75_p547
                                   have Pt_75_p547 := Lib.hid pt_75_p547
                                   have Yt_75_p547 := Lib.hid yt_75_p547
                                   have Gt_75_p547 := Lib.hid gt_75_p547
                                   have HBwt_75_p547 := Lib.hid (HBw_t_71_p546.out.grown Gt_75_p547.out hst_75_p547 (fun q hq => (Ot_71_p546.out.lt q hq).1))
                                   have Dt_75_out_6l0_p547 : Hid (Apart At_75_p547 _) := Lib.hid (apart_app Dt_71_out_6l0_p546.out (fun a_ ha_ => (own_lt Oout_6l0_p544_p546.out a_ ha_).2) Yt_75_p547.out)
                                   have Dt_75_t_77_p547 : Hid (Apart At_75_p547 _) := Lib.hid (apart_app Dt_71_t_77_p546.out (fun a_ ha_ => (own_lt Ot_77_p544_p546.out a_ ha_).2) Yt_75_p547.out)
                                   have ct_62_0__545_p546_p547 := cell_other ct_62_0__545_p546 Gt_75_p547.out Dt_71_out_6l0_p546.out
                                   have Oout_6l0_p544_p546_p547 := Lib.hid (own_other Oout_6l0_p544_p546.out Gt_75_p547.out Dt_71_out_6l0_p546.out)
                                   have Ot_77_p544_p546_p547 := Lib.hid (own_other Ot_77_p544_p546.out Gt_75_p547.out Dt_71_t_77_p546.out))
                                | (have hst_78_p548 := HBwt_75_p547.out.size
                                   have h1t_78_p548 : t_75.length + 1 ≤ maxLen := by unfold maxLen; omega
                                   have h2t_78_p548 : (t_75.length + 1) * 16 ≤ 140737488355328 := by omega
                                   have h3t_78_p548 := Ot_77_p544_p546_p547.out.cells rfl
                                   refine Go.Proofs.Ytgimcnpkngpmiaa.GoH.step_append_own (w := wt_75_p547) rfl (.tmp 76) (.tmp 78) 47 rfl w.heap.size 9 i0_9 (.string ByteArray.empty) 1 16 Try.underlying47 hi_9 hz0_9 hz1_9 hz2_9 rfl (by decide) At_75_p547 ct_75_p547 t_75.length _ rfl Pt_75_p547.out ⟨wr2.heap.size, 0, none⟩ 1 [.string t_22_town] rfl rfl h3t_78_p548 (one_cells rfl) h1t_78_p548 h2t_78_p548 hst_78_p548 ?_
                                   intro vt_78_p548 wt_78_p548 ot_78_p548 gt_78_p548 yt_78_p548
                                   obtain ⟨qt_78_p548, ct_78_p548, rfl, pt_78_p548⟩ := own_push hht_78.out (by simp) rfl ot_78_p548
                                   have Pt_78_p548 := Lib.hid pt_78_p548
                                   have Yt_78_p548 := Lib.hid yt_78_p548
                                   have Gt_78_p548 := Lib.hid gt_78_p548
                                   have HBwt_78_p548 := Lib.hid (HBwt_75_p547.out.grown Gt_78_p548.out hst_78_p548 (fun q hq => (Pt_75_p547.out.lt q hq).1))
                                   have Dt_78_out_6l0_p548 : Hid (Apart (some ⟨qt_78_p548, 0, none⟩) _) := Lib.hid (apart_app Dt_75_out_6l0_p547.out (fun a_ ha_ => (own_lt Oout_6l0_p544_p546_p547.out a_ ha_).2) Yt_78_p548.out)
                                   have Dt_78_t_77_p548 : Hid (Apart (some ⟨qt_78_p548, 0, none⟩) _) := Lib.hid (apart_app Dt_75_t_77_p547.out (fun a_ ha_ => (own_lt Ot_77_p544_p546_p547.out a_ ha_).2) Yt_78_p548.out)
                                   have ct_62_0__545_p546_p547_p548 := cell_other ct_62_0__545_p546_p547 Gt_78_p548.out Dt_75_out_6l0_p547.out
                                   have Oout_6l0_p544_p546_p547_p548 := Lib.hid (own_other Oout_6l0_p544_p546_p547.out Gt_78_p548.out Dt_75_out_6l0_p547.out)
                                   have Ot_77_p544_p546_p547_p548 := Lib.hid (own_other Ot_77_p544_p546_p547.out Gt_78_p548.out Dt_75_t_77_p547.out))
                                | (have hst_82_p549 := HBwt_78_p548.out.size
                                   have Ct_82_p549 := Lib.hid ((Mt_81_p530.out _ Oout_6l0_p544_p546_p547_p548.out))
                                   have h1t_82_p549 : t_78.length + t_81.length ≤ maxLen := by have h_ := hlt_82; unfold maxLen; omega
                                   have h2t_82_p549 : (t_78.length + t_81.length) * 16 ≤ 140737488355328 := by have h_ := hlt_82; omega
                                   refine Go.Proofs.Ytgimcnpkngpmiaa.GoH.step_spread_own (w := wt_78_p548) rfl (.tmp 79) (.tmp 82) 47 rfl w.heap.size 9 i0_9 (.string ByteArray.empty) 1 16 Try.underlying47 hi_9 hz0_9 hz1_9 hz2_9 rfl (by decide) (some ⟨qt_78_p548, 0, none⟩) ct_78_p548 t_78.length _ rfl Pt_78_p548.out At_81_p530 t_81.length ct_81_p530 (t_81.map Value.string) rfl Qt_81_p530.out Ct_82_p549.out (fun u hu => by obtain ⟨y_, _, rfl⟩ := List.mem_map.1 hu; rfl) h1t_82_p549 h2t_82_p549 hst_82_p549 ?_
                                   intro vt_82_p549 wt_82_p549 ot_82_p549 gt_82_p549 yt_82_p549
                                   obtain ⟨At_82_p549, ct_82_p549, rfl, pt_82_p549⟩ := own_pushS (f := (fun z => z.map Value.string)) hht_82.out (by simp) rfl ot_82_p549
                                   have Pt_82_p549 := Lib.hid pt_82_p549
                                   have Yt_82_p549 := Lib.hid yt_82_p549
                                   have Gt_82_p549 := Lib.hid gt_82_p549
                                   have HBwt_82_p549 := Lib.hid (HBwt_78_p548.out.grown Gt_82_p549.out hst_82_p549 (fun q hq => (Pt_78_p548.out.lt q hq).1))
                                   have Dt_82_out_6l0_p549 : Hid (Apart At_82_p549 _) := Lib.hid (apart_app Dt_78_out_6l0_p548.out (fun a_ ha_ => (own_lt Oout_6l0_p544_p546_p547_p548.out a_ ha_).2) Yt_82_p549.out)
                                   have ct_62_0__545_p546_p547_p548_p549 := cell_other ct_62_0__545_p546_p547_p548 Gt_82_p549.out Dt_78_out_6l0_p548.out
                                   have Oout_6l0_p544_p546_p547_p548_p549 := Lib.hid (own_other Oout_6l0_p544_p546_p547_p548.out Gt_82_p549.out Dt_78_out_6l0_p548.out)))
                          · skip
                            replace H := app_hid H
                            go_wp2_with fail
                            go_roundg m0
                            case measure => omega
                            case rel => exact ⟨k0 + 1, _, _, _, by omega, by go_num, rfl, H, HBwt_82_p537, Pt_82_p537⟩
                          · skip
                            replace H := app_hid H
                            go_wp2_with fail
                            go_roundg m0
                            case measure => omega
                            case rel => exact ⟨k0 + 1, _, _, _, by omega, by go_num, rfl, H, HBwt_82_p542, Pt_82_p542⟩
                          · skip
                            replace H := app_hid H
                            go_wp2_with fail
                            go_roundg m0
                            case measure => omega
                            case rel => exact ⟨k0 + 1, _, _, _, by omega, by go_num, rfl, H, HBwt_82_p549, Pt_82_p549⟩
                        | true =>
                          replace H := let_hid H
                          obtain ⟨t_70, ht_70, H⟩ := H
                          obtain rfl : t_70 = false := ht_70.symm
                          replace H := ite_f H
                          replace H := app_hid H
                          go_wp2_with fail
                          go_roundg m0
                          case measure => omega
                          case rel => exact ⟨k0 + 1, _, _, _, by omega, by go_num, rfl, H, HBwr2, Oout_6l0⟩
                      | true =>
                        replace H := ite_t H
                        replace H := let_hid H
                        obtain ⟨t_67, ht_67, H⟩ := H
                        obtain rfl := ht_61.symm.trans ht_67
                        replace H := app_hid H
                        go_wp2_with fail
                        go_roundg m2
                        case measure => omega
                        case rel => exact ⟨_, rfl, H, HBwr2, Oout_6l0⟩
              | succ m1 =>
                have hlt1 : k1 < out_6l0.length := by omega
                have hc1 : decide ((k1 : Int) < ((out_6l0.length : Nat) : Int)) = true := by simp; omega
                replace H := cnt_succ H
                unfold l1 at H
                replace H := let_hid H
                obtain ⟨_, rfl, H⟩ := H
                replace H := join_hid H
                cases known_10l1 with
                | false =>
                  replace H := ite_f H
                  replace H := idx_hid H
                  obtain ⟨nt_46, yt_46, et_46, lt_46, gt_46, H⟩ := H
                  obtain rfl : k1 = nt_46 := by omega
                  clear et_46
                  obtain ⟨qt_46, Qt_46⟩ := own_some Oout_6l0.out (by omega)
                  subst Qt_46
                  obtain ⟨ab_t_46, ao_t_46, zt_46, At_46, z_t_46, ct_46_0⟩ := strs_at (own_cells Oout_6l0.out) (k := k1) (by omega)
                  obtain rfl := Option.some.inj (gt_46.out.symm.trans z_t_46)
                  simp only [Option.some.injEq, Addr.mk.injEq] at At_46
                  obtain ⟨rfl, rfl, _⟩ := At_46
                  clear z_t_46
                  simp only [Nat.zero_add] at ct_46_0
                  have b0t_46 : (0 : Int) ≤ (k1 : Int) := by omega
                  have b1t_46 : (k1 : Int) < ((out_6l0.length : Nat) : Int) := by omega
                  have b2t_46 : ((k1 : Int)).toNat = k1 := by omega
                  replace H := let_hid H
                  obtain ⟨t_49, ht_49, H⟩ := H
                  replace H := app_hid H
                  replace H := app_hid H
                  go_wp2_with fail
                  go_roundg m1
                  case measure => omega
                  case rel => exact ⟨k1 + 1, _, by omega, by go_num, rfl, H, HBwr1, Oout_6l0⟩
                | true =>
                  replace H := ite_t H
                  replace H := app_hid H
                  replace H := app_hid H
                  go_wp2_with fail
                  go_roundg m1
                  case measure => omega
                  case rel => exact ⟨k1 + 1, _, by omega, by go_num, rfl, H, HBwr1, Oout_6l0⟩
end Go.Proofs.Ytgimcnpkngpmiaa.GsTownsOn

