/- Texts on which the proofs of several laws stand, one behind the other (9 of 13). No condition of their own. -/
import Derived.Test.YtgimcnpkngpmiaaGreatDoorChecked
import Derived.Test.YtgimcnpkngpmiaaGreatDoorX12P1
import Derived.Test.YtgimcnpkngpmiaaGreatDoorX12P2
import Derived.Test.YtgimcnpkngpmiaaGreatDoorX12P7
import Derived.Test.YtgimcnpkngpmiaaGreatDoorX12P8
import Derived.Test.YtgimcnpkngpmiaaGreatDoorX12P6
import Derived.Test.YtgimcnpkngpmiaaGreatDoorX12P5
import Derived.WalkKit
import Derived.WalkSpells
import Derived.WalkLawsBesides
import Derived.BigQuiet
import Derived.OwnWalk
import Derived.Deep.LoopGhost
import Derived.Deep.QuietTactic
import Derived.IntWalk
import Derived.Lib.QuietBelow
import Derived.Deep.RegionHeld3
/- loop.example/g01062/spec.TownsOn as a plain function, and the contract of the program's: where the plain one has an answer, the program has it. Conditions: slices read as lists. -/
namespace Go.Proofs.YtgimcnpkngpmiaaGreatDoor.GsTownsOn
set_option linter.unusedVariables false
set_option linter.unusedSimpArgs false
open Go.RowKit
open Go.Proofs.YtgimcnpkngpmiaaGreatDoor.Rowed Go.Proofs.YtgimcnpkngpmiaaGreatDoor.Turn Go.Proofs.YtgimcnpkngpmiaaGreatDoor.Aid Go.Proofs.YtgimcnpkngpmiaaGreatDoor.GoP Go.Proofs.YtgimcnpkngpmiaaGreatDoor.GoM

def l1 (out_6l0 : (List ByteArray)) (t_22_town : ByteArray) (k1 : Nat) (s : Bool) (nx1 bk1 : Bool → Option ((List ByteArray) × Bool)) : Option ((List ByteArray) × Bool) :=
  letK s fun known_10l1 =>
  joinK (fun (t_50 : Bool) =>
  appK nx1 (t_50)) fun jt_50 => iteK known_10l1 (appK jt_50 true) (Option.bind (idx out_6l0 (k1 : Int)) fun (yt_46 : ByteArray) =>
  letK (yt_46.toList == t_22_town.toList) fun (t_49 : Bool) =>
  appK jt_50 t_49)

def l2 (out_6l0 : (List ByteArray)) (t_22_town : ByteArray) (s : Int) (nx2 bk2 : Int → Option ((List ByteArray) × Bool)) : Option ((List ByteArray) × Bool) :=
  letK s fun k_9l2 =>
  letK (decide (0 < k_9l2)) fun (t_56 : Bool) =>
  joinK (fun (t_65 : Bool) =>
  iteK t_65
  (letK (IntKind.i64.wrap (k_9l2 - 1)) fun (t_67 : Int) =>
  appK nx2 (t_67))
  (appK bk2 (k_9l2))) fun jt_65 => iteK t_56 (letK (IntKind.i64.wrap (k_9l2 - 1)) fun (t_61 : Int) =>
  Option.bind (idx out_6l0 t_61) fun (yt_62 : ByteArray) =>
  letK (Op.bytesLess t_22_town.toList yt_62.toList) fun (t_64 : Bool) =>
  appK jt_65 t_64) (appK jt_65 false)

def e2 (nx0 : ((List ByteArray)) → Option ((List ByteArray) × Bool)) (out_6l0 : (List ByteArray)) (t_22_town : ByteArray) (known_10l1 : Bool) (s : Int) : Option ((List ByteArray) × Bool) :=
  letK s fun k_9l2 =>
  letK (!known_10l1) fun (t_70 : Bool) =>
  iteK t_70
  (guardK ((0 : Int) ≤ k_9l2 ∧ (k_9l2 : Int) ≤ (out_6l0.length : Int)) <|
  letK (List.take (Int.toNat k_9l2) out_6l0) fun (t_74 : (List ByteArray)) =>
  guardK (([] : List ByteArray).length + t_74.length ≤ 1099511627776) <|
  letK (([] : List ByteArray) ++ t_74) fun (t_75 : (List ByteArray)) =>
  guardK (t_75.length ≤ 1099511627776) <|
  letK (t_75 ++ [t_22_town]) fun (t_78 : (List ByteArray)) =>
  guardK ((0 : Int) ≤ k_9l2 ∧ (k_9l2 : Int) ≤ (out_6l0.length : Int)) <|
  letK (List.drop (Int.toNat k_9l2) out_6l0) fun (t_81 : (List ByteArray)) =>
  guardK (t_78.length + t_81.length ≤ 1099511627776) <|
  letK (t_78 ++ t_81) fun (t_82 : (List ByteArray)) =>
  appK nx0 (t_82))
  (appK nx0 (out_6l0))

def e1 (fuel : Nat) (nx0 : ((List ByteArray)) → Option ((List ByteArray) × Bool)) (out_6l0 : (List ByteArray)) (t_22_town : ByteArray) (s : Bool) : Option ((List ByteArray) × Bool) :=
  letK s fun known_10l1 =>
  loopK (l2 out_6l0 t_22_town) fuel ((out_6l0.length : Int)) (e2 nx0 out_6l0 t_22_town known_10l1)

def l0 (list : (List Go.Proofs.YtgimcnpkngpmiaaGreatDoor.PPostmark.Postmark)) (day : Int) (fuel : Nat) (k0 : Nat) (s : (List ByteArray)) (nx0 bk0 : (List ByteArray) → Option ((List ByteArray) × Bool)) : Option ((List ByteArray) × Bool) :=
  letK s fun out_6l0 =>
  Option.bind (idx list (k0 : Int)) fun (yt_22 : Go.Proofs.YtgimcnpkngpmiaaGreatDoor.PPostmark.Postmark) =>
  unPostmark yt_22 fun (t_22_id : Int) (t_22_town : ByteArray) (t_22_kind_ : Int) (t_22_first : Int) (t_22_last : Int) (t_22_lost : ByteArray) =>
  Option.bind (idx list (k0 : Int)) fun (yt_31 : Go.Proofs.YtgimcnpkngpmiaaGreatDoor.PPostmark.Postmark) =>
  unPostmark yt_31 fun (t_31_id : Int) (t_31_town : ByteArray) (t_31_kind_ : Int) (t_31_first : Int) (t_31_last : Int) (t_31_lost : ByteArray) =>
  Option.bind (Go.Proofs.YtgimcnpkngpmiaaGreatDoor.GsL11Used.P (Go.Proofs.YtgimcnpkngpmiaaGreatDoor.PPostmark.Postmark.mk t_31_id t_31_town t_31_kind_ t_31_first t_31_last t_31_lost) day) fun (t_34 : Bool) =>
  letK (!t_34) fun (t_35 : Bool) =>
  cntK (l1 out_6l0 t_22_town) (out_6l0.length) 0 (t_35) (e1 fuel nx0 out_6l0 t_22_town)

def e0  (s : (List ByteArray)) : Option ((List ByteArray) × Bool) :=
  letK s fun out_6l0 =>
  some (out_6l0, true)

def P (fuel : Nat) (list : (List Go.Proofs.YtgimcnpkngpmiaaGreatDoor.PPostmark.Postmark)) (day : Int) : Option ((List ByteArray) × Bool) :=
  Option.bind (Go.Proofs.YtgimcnpkngpmiaaGreatDoor.GsL11Good.P fuel list) fun (t_5 : Bool) =>
  letK (!t_5) fun (t_6 : Bool) =>
  joinK (fun (t_11 : Bool) =>
  iteK t_11
  (some (([] : List ByteArray), false))
  (cntK (l0 list day fuel) (list.length) 0 (([] : List ByteArray)) (e0 ))) fun jt_11 => iteK t_6 (appK jt_11 true) (Option.bind (Go.Proofs.YtgimcnpkngpmiaaGreatDoor.GsL2Day.P day) fun (t_9 : Bool) =>
  letK (!t_9) fun (t_10 : Bool) =>
  appK jt_11 t_10)

set_option maxRecDepth 100000 in
set_option maxHeartbeats 2000000 in
theorem C (fuel : Nat) (list : (List Go.Proofs.YtgimcnpkngpmiaaGreatDoor.PPostmark.Postmark)) (day : Int) (A0 : Option Addr) (c0 : Nat)  (w : World) (M0 : Hid (Cells w 6 A0 list.length (Go.Proofs.YtgimcnpkngpmiaaGreatDoor.PPostmark.flat list))) (N0 : Hid (list.length ≤ 9223372036854775807))  {r0 : (List ByteArray)} {r1 : Bool} (H : Hid (P fuel list day = some (r0, r1))) :
    Calls Tryz.prog 15 #[.slice A0 list.length c0, .int .i64 day] w (fun e w' => ∃ A_r0 c_r0, e = .returned (.tuple #[.slice A_r0 r0.length c_r0, .bool r1]) ∧ w'.ownsRow w.heap.size 9 1 (.slice A_r0 r0.length c_r0) r0.length (r0.map Value.string) ∧ Below w.heap.size w w') := by
  have HB := Lib.hid (Below.refl w.heap.size w)
  unfold P at H
  have N0o := N0.out
  obtain ⟨i0_9, hi_9, hz0_9, hz1_9, hz2_9⟩ := Aid.info_parts (P := Tryz.prog) (T := 9) (z := .string ByteArray.empty) (s := 1) (b := 16) (by kernel_rfl)
  go_enter Tryz.func15, Tryz.ntmps15
  obtain ⟨w_t_2, hw_t_2⟩ : ∃ x, w.alloc (.cells #[] 9) = x := ⟨_, rfl⟩
  have bw_t_2 : Below w.heap.size w w_t_2 := by rw [← hw_t_2]; exact (Below.refl _ _).alloc (Nat.le_refl _) _
  have Ot_2 : Hid (w_t_2.ownsRow w.heap.size 9 1 (.slice (some ⟨w.heap.size, 0, none⟩) 0 0) 0 []) := Lib.hid (by rw [← hw_t_2]; exact own_empty HB.out.size)
  have HBw_t_2 := Lib.hid (Below.step HB.out bw_t_2)
  clear bw_t_2
  replace H := bind_hid H
  obtain ⟨t_5, qt_5, H⟩ := H
  go_wp2_with fail
  go_at_call 27
  refine (Go.Proofs.YtgimcnpkngpmiaaGreatDoor.GsL11Good.C fuel (list) A0 c0 _   (Lib.hid (Cells.below M0.out HBw_t_2.out)) N0 qt_5).mono ?_
  rintro e_t_5 wt_5 ⟨rfl, bt_5⟩
  have HBwt_5 := Lib.hid (Below.step HBw_t_2.out bt_5)
  replace Ot_2 := Lib.hid (own_below Ot_2.out bt_5)
  clear bt_5
  cases t_5 with
  | false =>
    replace H := let_hid H
    obtain ⟨t_6, ht_6, H⟩ := H
    obtain rfl : t_6 = true := ht_6.symm
    replace H := join_hid H
    replace H := ite_t H
    replace H := app_hid H
    replace H := ite_t H
    cases ret_hid H
    go_wp2_with fail
    go_ret2
    exact ⟨(some ⟨w.heap.size, 0, none⟩), 0, rfl, Ot_2.out, HBwt_5.out⟩
  | true =>
    replace H := let_hid H
    obtain ⟨t_6, ht_6, H⟩ := H
    obtain rfl : t_6 = false := ht_6.symm
    replace H := join_hid H
    replace H := ite_f H
    replace H := bind_hid H
    obtain ⟨t_9, qt_9, H⟩ := H
    go_wp2_with fail
    go_at_call 28
    refine (Go.Proofs.YtgimcnpkngpmiaaGreatDoor.GsL2Day.C (day)  _    qt_9).mono ?_
    rintro e_t_9 wt_9 ⟨rfl, bt_9⟩
    have HBwt_9 := Lib.hid (Below.step HBwt_5.out bt_9)
    replace Ot_2 := Lib.hid (own_below Ot_2.out bt_9)
    clear bt_9
    cases t_9 with
    | false =>
      replace H := let_hid H
      obtain ⟨t_10, ht_10, H⟩ := H
      obtain rfl : t_10 = true := ht_10.symm
      replace H := app_hid H
      replace H := ite_t H
      cases ret_hid H
      go_wp2_with fail
      go_ret2
      exact ⟨(some ⟨w.heap.size, 0, none⟩), 0, rfl, Ot_2.out, HBwt_9.out⟩
    | true =>
      replace H := let_hid H
      obtain ⟨t_10, ht_10, H⟩ := H
      obtain rfl : t_10 = false := ht_10.symm
      replace H := app_hid H
      replace H := ite_f H
      go_wp2_with fail
      go_loopg [7, 6] (list.length) (fun m_ v7_ v6_ wr => ∃ (k0 : Nat) (out_6l0 : (List ByteArray)) (Aout_6l0 : Option Addr) (cout_6l0 : Nat), k0 + m_ = list.length ∧ v7_ = .int .i64 (k0 : Int) ∧ v6_ = .slice Aout_6l0 out_6l0.length cout_6l0 ∧ Hid (cntK (l0 list day fuel) m_ k0 (out_6l0) (e0 ) = some (r0, r1)) ∧ Hid (Below w.heap.size w wr) ∧ Hid (wr.ownsRow w.heap.size 9 1 (.slice Aout_6l0 out_6l0.length cout_6l0) out_6l0.length (out_6l0.map Value.string)))
      case atStart => exact ⟨0, _, _, _, by omega, rfl, rfl, H, HBwt_9, Ot_2⟩
      case round =>
        obtain ⟨k0, out_6l0, Aout_6l0, cout_6l0, hkm0, rfl, rfl, H, HBwr0, Oout_6l0⟩ := hrel
        rename World => wr0
        cases gk with
        | zero =>
          obtain rfl : k0 = list.length := by omega
          have hc0 : decide (((list.length : Nat) : Int) < ((list.length : Nat) : Int)) = false := by simp
          replace H := cnt_zero H
          unfold e0 at H
          replace H := let_hid H
          obtain ⟨_, rfl, H⟩ := H
          cases ret_hid H
          go_wp2_with fail
          go_ret2
          exact ⟨Aout_6l0, cout_6l0, rfl, Oout_6l0.out, HBwr0.out⟩
        | succ m0 =>
          have hlt0 : k0 < list.length := by omega
          have hc0 : decide ((k0 : Int) < ((list.length : Nat) : Int)) = true := by simp; omega
          replace H := cnt_succ H
          unfold l0 at H
          replace H := let_hid H
          obtain ⟨_, rfl, H⟩ := H
          replace H := idx_hid H
          obtain ⟨nt_22, yt_22, et_22, lt_22, gt_22, H⟩ := H
          obtain rfl : k0 = nt_22 := by omega
          clear et_22
          obtain ⟨t_22_id, t_22_town, t_22_kind_, t_22_first, t_22_last, t_22_lost⟩ := yt_22
          replace H := unPostmark_hid H
          obtain ⟨ab_t_22, ao_t_22, zt_22, At_22, z_t_22, ct_22_0, ct_22_1, ct_22_2, ct_22_3, ct_22_4, ct_22_5⟩ := Go.Proofs.YtgimcnpkngpmiaaGreatDoor.OPostmark.at_ M0.out lt_22
          obtain rfl := Option.some.inj (gt_22.out.symm.trans z_t_22)
          subst At_22
          have ltt_22 := cell_lt ct_22_0
          replace ct_22_0 := cell_below HBwr0.out ct_22_0
          replace ct_22_1 := cell_below HBwr0.out ct_22_1
          replace ct_22_2 := cell_below HBwr0.out ct_22_2
          replace ct_22_3 := cell_below HBwr0.out ct_22_3
          replace ct_22_4 := cell_below HBwr0.out ct_22_4
          replace ct_22_5 := cell_below HBwr0.out ct_22_5
          clear z_t_22
          have b0t_22 : (0 : Int) ≤ (k0 : Int) := by omega
          have b1t_22 : (k0 : Int) < ((list.length : Nat) : Int) := by omega
          have b2t_22 : ((k0 : Int)).toNat = k0 := by omega
          replace H := idx_hid H
          obtain ⟨nt_31, yt_31, et_31, lt_31, gt_31, H⟩ := H
          obtain rfl : k0 = nt_31 := by omega
          clear et_31
          obtain rfl := Option.some.inj (gt_22.out.symm.trans gt_31.out)
          clear gt_31 lt_31
          replace H := unPostmark_hid H
          replace H := bind_hid H
          obtain ⟨t_34, qt_34, H⟩ := H
          go_wp2_with fail
          go_at_call 44
          refine (Go.Proofs.YtgimcnpkngpmiaaGreatDoor.GsL11Used.C ((Go.Proofs.YtgimcnpkngpmiaaGreatDoor.PPostmark.Postmark.mk t_22_id t_22_town t_22_kind_ t_22_first t_22_last t_22_lost)) (day)  _    qt_34).mono ?_
          rintro e_t_34 wt_34 ⟨rfl, bt_34⟩
          have HBwt_34 := Lib.hid (Below.step HBwr0.out bt_34)
          replace ct_22_0 := cell_below bt_34 ct_22_0
          replace ct_22_1 := cell_below bt_34 ct_22_1
          replace ct_22_2 := cell_below bt_34 ct_22_2
          replace ct_22_3 := cell_below bt_34 ct_22_3
          replace ct_22_4 := cell_below bt_34 ct_22_4
          replace ct_22_5 := cell_below bt_34 ct_22_5
          replace Oout_6l0 := Lib.hid (own_below Oout_6l0.out bt_34)
          clear bt_34
          cases t_34 with
          | false =>
            replace H := let_hid H
            obtain ⟨t_35, ht_35, H⟩ := H
            obtain rfl : t_35 = true := ht_35.symm
            have hb_1 : out_6l0.length ≤ 9223372036854775807 := own_max Oout_6l0.out
            go_wp2_with fail
            go_loopg [11, 10] (out_6l0.length) (fun m_ v11_ v10_ wr => ∃ (k1 : Nat) (known_10l1 : Bool), k1 + m_ = out_6l0.length ∧ v11_ = .int .i64 (k1 : Int) ∧ v10_ = .bool known_10l1 ∧ Hid (cntK (l1 out_6l0 t_22_town) m_ k1 (known_10l1) (e1 fuel (fun s' => cntK (l0 list day fuel) m0 (k0 + 1) s' (e0 )) out_6l0 t_22_town) = some (r0, r1)) ∧ Hid (Below w.heap.size w wr) ∧ Hid (wr.ownsRow w.heap.size 9 1 (.slice Aout_6l0 out_6l0.length cout_6l0) out_6l0.length (out_6l0.map Value.string)))
            case atStart => exact ⟨0, _, by omega, rfl, rfl, H, HBwt_34, Oout_6l0⟩
            case round =>
              obtain ⟨k1, known_10l1, hkm1, rfl, rfl, H, HBwr1, Oout_6l0⟩ := hrel
              rename World => wr1
              cases gk with
              | zero =>
                obtain rfl : k1 = out_6l0.length := by omega
                have hc1 : decide (((out_6l0.length : Nat) : Int) < ((out_6l0.length : Nat) : Int)) = false := by simp
                replace H := cnt_zero H
                unfold e1 at H
                replace H := let_hid H
                obtain ⟨_, rfl, H⟩ := H
                go_wp2_with fail
                go_loopg [9] (fuel) (fun m_ v9_ wr => ∃ (k_9l2 : Int), v9_ = .int .i64 k_9l2 ∧ Hid (loopK (l2 out_6l0 t_22_town) m_ (k_9l2) (e2 (fun s' => cntK (l0 list day fuel) m0 (k0 + 1) s' (e0 )) out_6l0 t_22_town known_10l1) = some (r0, r1)) ∧ Hid (Below w.heap.size w wr) ∧ Hid (wr.ownsRow w.heap.size 9 1 (.slice Aout_6l0 out_6l0.length cout_6l0) out_6l0.length (out_6l0.map Value.string)))
                case atStart => exact ⟨_, rfl, H, HBwr1, Oout_6l0⟩
                case round =>
                  obtain ⟨k_9l2, rfl, H, HBwr2, Oout_6l0⟩ := hrel
                  rename World => wr2
                  cases gk with
                  | zero => exact (loop_zero H).elim
                  | succ m2 =>
                    replace H := loop_succ H
                    unfold l2 at H
                    replace H := let_hid H
                    obtain ⟨_, rfl, H⟩ := H
                    replace H := let_hid H
                    obtain ⟨t_56, ht_56, H⟩ := H
                    replace H := join_hid H
                    cases t_56 with
                    | false =>
                      replace H := ite_f H
                      replace H := app_hid H
                      replace H := ite_f H
                      replace H := app_hid H
                      unfold e2 at H
                      replace H := let_hid H
                      obtain ⟨_, rfl, H⟩ := H
                      cases known_10l1 with
                      | false =>
                        replace H := let_hid H
                        obtain ⟨t_70, ht_70, H⟩ := H
                        obtain rfl : t_70 = true := ht_70.symm
                        replace H := ite_t H
                        go_wp2_with fail
                        have bd17 : Below wr2.heap.size wr2 wr2.drew := (Below.refl _ _).drew
                        have HBwr2.drew := Lib.hid (Below.step HBwr2.out bd17)
                        replace Oout_6l0 := Lib.hid (own_below Oout_6l0.out bd17)
                        clear bd17
                        replace H := guard_hid H
                        obtain ⟨hl_t_74, H⟩ := H
                        replace H := let_hid H
                        obtain ⟨t_74, ht_74, H⟩ := H
                        have hht_74 := Lib.hid ht_74
                        have hgt_74 := Lib.hid hl_t_74
                        clear ht_74
                        clear hl_t_74
                        replace H := guard_hid H
                        obtain ⟨hlt_75, H⟩ := H
                        replace H := let_hid H
                        obtain ⟨t_75, ht_75, H⟩ := H
                        have hht_75 := Lib.hid ht_75
                        clear ht_75
                        replace H := guard_hid H
                        obtain ⟨hlt_78, H⟩ := H
                        replace H := let_hid H
                        obtain ⟨t_78, ht_78, H⟩ := H
                        have hht_78 := Lib.hid ht_78
                        clear ht_78
                        replace H := guard_hid H
                        obtain ⟨hl_t_81, H⟩ := H
                        replace H := let_hid H
                        obtain ⟨t_81, ht_81, H⟩ := H
                        have hht_81 := Lib.hid ht_81
                        have hgt_81 := Lib.hid hl_t_81
                        clear ht_81
                        clear hl_t_81
                        replace H := guard_hid H
                        obtain ⟨hlt_82, H⟩ := H
                        replace H := let_hid H
                        obtain ⟨t_82, ht_82, H⟩ := H
                        have hht_82 := Lib.hid ht_82
                        clear ht_82
                        obtain ⟨At_74_p485, ct_74_p485, rt_74_p485, mt_74_p485, qt_74_p485⟩ := Go.Proofs.YtgimcnpkngpmiaaGreatDoor.GoD.slice_viewH (P := Tryz.prog) (t := 30) (e := 9) (k := .i64) (ys := (t_74.map Value.string)) (m := t_74.length) (by kernel_rfl) (by kernel_rfl) hi_9 hz1_9 Oout_6l0.out (by have h_ := hgt_74.out; omega) (by have h_ := hgt_74.out; rw [← hht_74.out, List.length_take] <;> omega) (by rw [← hht_74.out]; simp [List.map_take])
                        have Mt_74_p485 := Lib.hid mt_74_p485
                        have Qt_74_p485 := Lib.hid qt_74_p485
                        have Nt_74_p485 : Hid (t_74.length ≤ 9223372036854775807) := Lib.hid (by have h_ := own_max Oout_6l0.out; rw [← hht_74.out, List.length_take] <;> omega)
                        obtain ⟨At_81_p486, ct_81_p486, rt_81_p486, mt_81_p486, qt_81_p486⟩ := Go.Proofs.YtgimcnpkngpmiaaGreatDoor.GoD.slice_view (P := Tryz.prog) (t := 30) (e := 9) (k := .i64) (lo := k_9l2) (ys := (t_81.map Value.string)) (m := t_81.length) (by kernel_rfl) (by kernel_rfl) hi_9 hz1_9 Oout_6l0.out (by have h_ := hgt_81.out; omega) (by rw [← hht_81.out, List.length_drop] <;> omega) (by rw [← hht_81.out]; simp [List.map_drop])
                        have Mt_81_p486 := Lib.hid mt_81_p486
                        have Qt_81_p486 := Lib.hid qt_81_p486
                        have Nt_81_p486 : Hid (t_81.length ≤ 9223372036854775807) := Lib.hid (by have h_ := own_max Oout_6l0.out; rw [← hht_81.out, List.length_drop] <;> omega)
                        obtain ⟨w_t_71_p487, hw_t_71_p487⟩ : ∃ x, wr2.drew.alloc (.cells #[] 9) = x := ⟨_, rfl⟩
                        have bw_t_71_p487 : Below wr2.drew.heap.size wr2.drew w_t_71_p487 := by rw [← hw_t_71_p487]; exact (Below.refl _ _).alloc (Nat.le_refl _) _
                        have Ot_71_p487 : Hid (w_t_71_p487.ownsRow w.heap.size 9 1 (.slice (some ⟨wr2.heap.size, 0, none⟩) 0 0) 0 []) := Lib.hid (by rw [← hw_t_71_p487]; exact own_empty HBwr2.drew.out.size)
                        have Dt_71_out_6l0_p487 := Lib.hid (apart_fresh Oout_6l0.out)
                        have HBw_t_71_p487 := Lib.hid (Below.step HBwr2.drew.out bw_t_71_p487)
                        have Oout_6l0_p487 := Lib.hid (own_below Oout_6l0.out bw_t_71_p487)
                        obtain ⟨w_t_77_p492, hw_t_77_p492⟩ : ∃ x, w_t_71_p487.alloc (.cells #[.string t_22_town] 9) = x := ⟨_, rfl⟩
                        have bw_t_77_p492 : Below w_t_71_p487.heap.size w_t_71_p487 w_t_77_p492 := by rw [← hw_t_77_p492]; exact (Below.refl _ _).alloc (Nat.le_refl _) _
                        have Ot_77_p492 : Hid (w_t_77_p492.ownsRow w.heap.size 9 1 (.slice (some ⟨w_t_71_p487.heap.size, 0, none⟩) 1 1) 1 [.string t_22_town]) := Lib.hid (by rw [← hw_t_77_p492]; exact own_laid (n := 1) HBw_t_71_p487.out.size (rfl : ([.string t_22_town] : List Value) = [.string t_22_town]) rfl (by unfold maxLen; omega))
                        have Dt_77_out_6l0_p492 := Lib.hid (apart_fresh Oout_6l0_p487.out)
                        have Dt_77_t_71_p492 := Lib.hid (apart_fresh Ot_71_p487.out)
                        have HBw_t_77_p492 := Lib.hid (Below.step HBw_t_71_p487.out bw_t_77_p492)
                        have Oout_6l0_p487_p492 := Lib.hid (own_below Oout_6l0_p487.out bw_t_77_p492)
                        have Ot_71_p487_p492 := Lib.hid (own_below Ot_71_p487.out bw_t_77_p492)
                        obtain ⟨w_t_77_p496, hw_t_77_p496⟩ : ∃ x, wr2.drew.alloc (.cells #[.string t_22_town] 9) = x := ⟨_, rfl⟩
                        have bw_t_77_p496 : Below wr2.drew.heap.size wr2.drew w_t_77_p496 := by rw [← hw_t_77_p496]; exact (Below.refl _ _).alloc (Nat.le_refl _) _
                        have Ot_77_p496 : Hid (w_t_77_p496.ownsRow w.heap.size 9 1 (.slice (some ⟨wr2.heap.size, 0, none⟩) 1 1) 1 [.string t_22_town]) := Lib.hid (by rw [← hw_t_77_p496]; exact own_laid (n := 1) HBwr2.drew.out.size (rfl : ([.string t_22_town] : List Value) = [.string t_22_town]) rfl (by unfold maxLen; omega))
                        have Dt_77_out_6l0_p496 := Lib.hid (apart_fresh Oout_6l0.out)
                        have HBw_t_77_p496 := Lib.hid (Below.step HBwr2.drew.out bw_t_77_p496)
                        have Oout_6l0_p496 := Lib.hid (own_below Oout_6l0.out bw_t_77_p496)
                        obtain ⟨w_t_71_p497, hw_t_71_p497⟩ : ∃ x, w_t_77_p496.alloc (.cells #[] 9) = x := ⟨_, rfl⟩
                        have bw_t_71_p497 : Below w_t_77_p496.heap.size w_t_77_p496 w_t_71_p497 := by rw [← hw_t_71_p497]; exact (Below.refl _ _).alloc (Nat.le_refl _) _
                        have Ot_71_p497 : Hid (w_t_71_p497.ownsRow w.heap.size 9 1 (.slice (some ⟨w_t_77_p496.heap.size, 0, none⟩) 0 0) 0 []) := Lib.hid (by rw [← hw_t_71_p497]; exact own_empty HBw_t_77_p496.out.size)
                        have Dt_71_out_6l0_p497 := Lib.hid (apart_fresh Oout_6l0_p496.out)
                        have Dt_71_t_77_p497 := Lib.hid (apart_fresh Ot_77_p496.out)
                        have HBw_t_71_p497 := Lib.hid (Below.step HBw_t_77_p496.out bw_t_71_p497)
                        have Oout_6l0_p496_p497 := Lib.hid (own_below Oout_6l0_p496.out bw_t_71_p497)
                        have Ot_77_p496_p497 := Lib.hid (own_below Ot_77_p496.out bw_t_71_p497)
                        go_region_held3 (fun w' => Hid (0 ≤ w'.heap.size)) (first | exact Lib.hid (Nat.zero_le _))
                            (first
                              | (have hst_75_p488 := HBw_t_71_p487.out.size
                                 have Ct_75_p488 := Lib.hid ((Mt_74_p485.out _ Oout_6l0_p487.out))
                                 have h1t_75_p488 : 0 + t_74.length ≤ maxLen := by have h_ := hlt_75; simp only [List.length_nil] at h_; unfold maxLen; omega
                                 have h2t_75_p488 : (0 + t_74.length) * 16 ≤ 140737488355328 := by have h_ := hlt_75; simp only [List.length_nil] at h_; omega
                                 refine Go.Proofs.YtgimcnpkngpmiaaGreatDoor.GoH.step_spread_own (w := w_t_71_p487) rfl (.tmp 72) (.tmp 75) 30 rfl w.heap.size 9 i0_9 (.string ByteArray.empty) 1 16 Tryz.underlying30 hi_9 hz0_9 hz1_9 hz2_9 rfl (by decide) (some ⟨wr2.heap.size, 0, none⟩) 0 0 _ rfl Ot_71_p487.out At_74_p485 t_74.length ct_74_p485 (t_74.map Value.string) rfl Qt_74_p485.out Ct_75_p488.out (fun u hu => by obtain ⟨y_, _, rfl⟩ := List.mem_map.1 hu; rfl) h1t_75_p488 h2t_75_p488 hst_75_p488 ?_
                                 intro vt_75_p488 wt_75_p488 ot_75_p488 gt_75_p488 yt_75_p488
                                 obtain ⟨At_75_p488, ct_75_p488, rfl, pt_75_p488⟩ := own_pushS (f := (fun z => z.map Value.string)) hht_75.out (by simp) rfl ot_75_p488
                                 have Pt_75_p488 := Lib.hid pt_75_p488
                                 have Yt_75_p488 := Lib.hid yt_75_p488
                                 have Gt_75_p488 := Lib.hid gt_75_p488
                                 have HBwt_75_p488 := Lib.hid (HBw_t_71_p487.out.grown Gt_75_p488.out hst_75_p488 (fun q hq => (Ot_71_p487.out.lt q hq).1))
                                 have Dt_75_out_6l0_p488 : Hid (Apart At_75_p488 _) := Lib.hid (apart_app Dt_71_out_6l0_p487.out (fun a_ ha_ => (own_lt Oout_6l0_p487.out a_ ha_).2) Yt_75_p488.out)
                                 have Oout_6l0_p487_p488 := Lib.hid (own_other Oout_6l0_p487.out Gt_75_p488.out Dt_71_out_6l0_p487.out)
                                 obtain ⟨w_t_77_p489, hw_t_77_p489⟩ : ∃ x, wt_75_p488.alloc (.cells #[.string t_22_town] 9) = x := ⟨_, rfl⟩
                                 have bw_t_77_p489 : Below wt_75_p488.heap.size wt_75_p488 w_t_77_p489 := by rw [← hw_t_77_p489]; exact (Below.refl _ _).alloc (Nat.le_refl _) _
                                 have Ot_77_p489 : Hid (w_t_77_p489.ownsRow w.heap.size 9 1 (.slice (some ⟨wt_75_p488.heap.size, 0, none⟩) 1 1) 1 [.string t_22_town]) := Lib.hid (by rw [← hw_t_77_p489]; exact own_laid (n := 1) HBwt_75_p488.out.size (rfl : ([.string t_22_town] : List Value) = [.string t_22_town]) rfl (by unfold maxLen; omega))
                                 have Dt_77_out_6l0_p489 := Lib.hid (apart_fresh Oout_6l0_p487_p488.out)
                                 have Dt_77_t_75_p489 := Lib.hid (apart_fresh Pt_75_p488.out)
                                 have HBw_t_77_p489 := Lib.hid (Below.step HBwt_75_p488.out bw_t_77_p489)
                                 have Oout_6l0_p487_p488_p489 := Lib.hid (own_below Oout_6l0_p487_p488.out bw_t_77_p489)
                                 have Pt_75_p488_p489 := Lib.hid (own_below Pt_75_p488.out bw_t_77_p489))
                              | (have hst_78_p490 := HBw_t_77_p489.out.size
                                 have h1t_78_p490 : t_75.length + 1 ≤ maxLen := by unfold maxLen; omega
                                 have h2t_78_p490 : (t_75.length + 1) * 16 ≤ 140737488355328 := by omega
                                 have h3t_78_p490 := Ot_77_p489.out.cells rfl
                                 refine Go.Proofs.YtgimcnpkngpmiaaGreatDoor.GoH.step_append_own (w := w_t_77_p489) rfl (.tmp 76) (.tmp 78) 30 rfl w.heap.size 9 i0_9 (.string ByteArray.empty) 1 16 Tryz.underlying30 hi_9 hz0_9 hz1_9 hz2_9 rfl (by decide) At_75_p488 ct_75_p488 t_75.length _ rfl Pt_75_p488_p489.out ⟨wt_75_p488.heap.size, 0, none⟩ 1 [.string t_22_town] rfl rfl h3t_78_p490 (one_cells rfl) h1t_78_p490 h2t_78_p490 hst_78_p490 ?_
                                 intro vt_78_p490 wt_78_p490 ot_78_p490 gt_78_p490 yt_78_p490
                                 obtain ⟨qt_78_p490, ct_78_p490, rfl, pt_78_p490⟩ := own_push hht_78.out (by simp) rfl ot_78_p490
                                 have Pt_78_p490 := Lib.hid pt_78_p490
                                 have Yt_78_p490 := Lib.hid yt_78_p490
                                 have Gt_78_p490 := Lib.hid gt_78_p490
                                 have HBwt_78_p490 := Lib.hid (HBw_t_77_p489.out.grown Gt_78_p490.out hst_78_p490 (fun q hq => (Pt_75_p488_p489.out.lt q hq).1))
                                 have Dt_78_out_6l0_p490 : Hid (Apart (some ⟨qt_78_p490, 0, none⟩) _) := Lib.hid (apart_app Dt_75_out_6l0_p488.out (fun a_ ha_ => (own_lt Oout_6l0_p487_p488_p489.out a_ ha_).2) Yt_78_p490.out)
                                 have Dt_78_t_77_p490 : Hid (Apart (some ⟨qt_78_p490, 0, none⟩) _) := Lib.hid (apart_app (Apart.symm Dt_77_t_75_p489.out) (fun a_ ha_ => (own_lt Ot_77_p489.out a_ ha_).2) Yt_78_p490.out)
                                 have Oout_6l0_p487_p488_p489_p490 := Lib.hid (own_other Oout_6l0_p487_p488_p489.out Gt_78_p490.out Dt_75_out_6l0_p488.out)
                                 have Ot_77_p489_p490 := Lib.hid (own_other Ot_77_p489.out Gt_78_p490.out (Apart.symm Dt_77_t_75_p489.out)))
                              | (have hst_82_p491 := HBwt_78_p490.out.size
                                 have Ct_82_p491 := Lib.hid ((Mt_81_p486.out _ Oout_6l0_p487_p488_p489_p490.out))
                                 have h1t_82_p491 : t_78.length + t_81.length ≤ maxLen := by have h_ := hlt_82; unfold maxLen; omega
                                 have h2t_82_p491 : (t_78.length + t_81.length) * 16 ≤ 140737488355328 := by have h_ := hlt_82; omega
                                 refine Go.Proofs.YtgimcnpkngpmiaaGreatDoor.GoH.step_spread_own (w := wt_78_p490) rfl (.tmp 79) (.tmp 82) 30 rfl w.heap.size 9 i0_9 (.string ByteArray.empty) 1 16 Tryz.underlying30 hi_9 hz0_9 hz1_9 hz2_9 rfl (by decide) (some ⟨qt_78_p490, 0, none⟩) ct_78_p490 t_78.length _ rfl Pt_78_p490.out At_81_p486 t_81.length ct_81_p486 (t_81.map Value.string) rfl Qt_81_p486.out Ct_82_p491.out (fun u hu => by obtain ⟨y_, _, rfl⟩ := List.mem_map.1 hu; rfl) h1t_82_p491 h2t_82_p491 hst_82_p491 ?_
                                 intro vt_82_p491 wt_82_p491 ot_82_p491 gt_82_p491 yt_82_p491
                                 obtain ⟨At_82_p491, ct_82_p491, rfl, pt_82_p491⟩ := own_pushS (f := (fun z => z.map Value.string)) hht_82.out (by simp) rfl ot_82_p491
                                 have Pt_82_p491 := Lib.hid pt_82_p491
                                 have Yt_82_p491 := Lib.hid yt_82_p491
                                 have Gt_82_p491 := Lib.hid gt_82_p491
                                 have HBwt_82_p491 := Lib.hid (HBwt_78_p490.out.grown Gt_82_p491.out hst_82_p491 (fun q hq => (Pt_78_p490.out.lt q hq).1))
                                 have Dt_82_out_6l0_p491 : Hid (Apart At_82_p491 _) := Lib.hid (apart_app Dt_78_out_6l0_p490.out (fun a_ ha_ => (own_lt Oout_6l0_p487_p488_p489_p490.out a_ ha_).2) Yt_82_p491.out)
                                 have Oout_6l0_p487_p488_p489_p490_p491 := Lib.hid (own_other Oout_6l0_p487_p488_p489_p490.out Gt_82_p491.out Dt_78_out_6l0_p490.out))
                              | (have hst_75_p493 := HBw_t_77_p492.out.size
                                 have Ct_75_p493 := Lib.hid ((Mt_74_p485.out _ Oout_6l0_p487_p492.out))
                                 have h1t_75_p493 : 0 + t_74.length ≤ maxLen := by have h_ := hlt_75; simp only [List.length_nil] at h_; unfold maxLen; omega
                                 have h2t_75_p493 : (0 + t_74.length) * 16 ≤ 140737488355328 := by have h_ := hlt_75; simp only [List.length_nil] at h_; omega
                                 refine Go.Proofs.YtgimcnpkngpmiaaGreatDoor.GoH.step_spread_own (w := w_t_77_p492) rfl (.tmp 72) (.tmp 75) 30 rfl w.heap.size 9 i0_9 (.string ByteArray.empty) 1 16 Tryz.underlying30 hi_9 hz0_9 hz1_9 hz2_9 rfl (by decide) (some ⟨wr2.heap.size, 0, none⟩) 0 0 _ rfl Ot_71_p487_p492.out At_74_p485 t_74.length ct_74_p485 (t_74.map Value.string) rfl Qt_74_p485.out Ct_75_p493.out (fun u hu => by obtain ⟨y_, _, rfl⟩ := List.mem_map.1 hu; rfl) h1t_75_p493 h2t_75_p493 hst_75_p493 ?_
                                 intro vt_75_p493 wt_75_p493 ot_75_p493 gt_75_p493 yt_75_p493
                                 obtain ⟨At_75_p493, ct_75_p493, rfl, pt_75_p493⟩ := own_pushS (f := (fun z => z.map Value.string)) hht_75.out (by simp) rfl ot_75_p493
                                 have Pt_75_p493 := Lib.hid pt_75_p493
                                 have Yt_75_p493 := Lib.hid yt_75_p493
                                 have Gt_75_p493 := Lib.hid gt_75_p493
                                 have HBwt_75_p493 := Lib.hid (HBw_t_77_p492.out.grown Gt_75_p493.out hst_75_p493 (fun q hq => (Ot_71_p487_p492.out.lt q hq).1))
                                 have Dt_75_out_6l0_p493 : Hid (Apart At_75_p493 _) := Lib.hid (apart_app Dt_71_out_6l0_p487.out (fun a_ ha_ => (own_lt Oout_6l0_p487_p492.out a_ ha_).2) Yt_75_p493.out)
                                 have Dt_75_t_77_p493 : Hid (Apart At_75_p493 _) := Lib.hid (apart_app (Apart.symm Dt_77_t_71_p492.out) (fun a_ ha_ => (own_lt Ot_77_p492.out a_ ha_).2) Yt_75_p493.out)
                                 have Oout_6l0_p487_p492_p493 := Lib.hid (own_other Oout_6l0_p487_p492.out Gt_75_p493.out Dt_71_out_6l0_p487.out)
                                 have Ot_77_p492_p493 := Lib.hid (own_other Ot_77_p492.out Gt_75_p493.out (Apart.symm Dt_77_t_71_p492.out)))
                              | (have hst_78_p494 := HBwt_75_p493.out.size
                                 have h1t_78_p494 : t_75.length + 1 ≤ maxLen := by unfold maxLen; omega
                                 have h2t_78_p494 : (t_75.length + 1) * 16 ≤ 140737488355328 := by omega
                                 have h3t_78_p494 := Ot_77_p492_p493.out.cells rfl
                                 refine Go.Proofs.YtgimcnpkngpmiaaGreatDoor.GoH.step_append_own (w := wt_75_p493) rfl (.tmp 76) (.tmp 78) 30 rfl w.heap.size 9 i0_9 (.string ByteArray.empty) 1 16 Tryz.underlying30 hi_9 hz0_9 hz1_9 hz2_9 rfl (by decide) At_75_p493 ct_75_p493 t_75.length _ rfl Pt_75_p493.out ⟨w_t_71_p487.heap.size, 0, none⟩ 1 [.string t_22_town] rfl rfl h3t_78_p494 (one_cells rfl) h1t_78_p494 h2t_78_p494 hst_78_p494 ?_
                                 intro vt_78_p494 wt_78_p494 ot_78_p494 gt_78_p494 yt_78_p494
                                 obtain ⟨qt_78_p494, ct_78_p494, rfl, pt_78_p494⟩ := own_push hht_78.out (by simp) rfl ot_78_p494
                                 have Pt_78_p494 := Lib.hid pt_78_p494
                                 have Yt_78_p494 := Lib.hid yt_78_p494
                                 have Gt_78_p494 := Lib.hid gt_78_p494
                                 have HBwt_78_p494 := Lib.hid (HBwt_75_p493.out.grown Gt_78_p494.out hst_78_p494 (fun q hq => (Pt_75_p493.out.lt q hq).1))
                                 have Dt_78_out_6l0_p494 : Hid (Apart (some ⟨qt_78_p494, 0, none⟩) _) := Lib.hid (apart_app Dt_75_out_6l0_p493.out (fun a_ ha_ => (own_lt Oout_6l0_p487_p492_p493.out a_ ha_).2) Yt_78_p494.out)
                                 have Dt_78_t_77_p494 : Hid (Apart (some ⟨qt_78_p494, 0, none⟩) _) := Lib.hid (apart_app Dt_75_t_77_p493.out (fun a_ ha_ => (own_lt Ot_77_p492_p493.out a_ ha_).2) Yt_78_p494.out)
                                 have Oout_6l0_p487_p492_p493_p494 := Lib.hid (own_other Oout_6l0_p487_p492_p493.out Gt_78_p494.out Dt_75_out_6l0_p493.out)
                                 have Ot_77_p492_p493_p494 := Lib.hid (own_other Ot_77_p492_p493.out Gt_78_p494.out Dt_75_t_77_p493.out))
                              | (have hst_82_p495 := HBwt_78_p494.out.size
                                 have Ct_82_p495 := Lib.hid ((Mt_81_p486.out _ Oout_6l0_p487_p492_p493_p494.out))
                                 have h1t_82_p495 : t_78.length + t_81.length ≤ maxLen := by have h_ := hlt_82; unfold maxLen; omega
                                 have h2t_82_p495 : (t_78.length + t_81.length) * 16 ≤ 140737488355328 := by have h_ := hlt_82; omega
                                 refine Go.Proofs.YtgimcnpkngpmiaaGreatDoor.GoH.step_spread_own (w := wt_78_p494) rfl (.tmp 79) (.tmp 82) 30 rfl w.heap.size 9 i0_9 (.string ByteArray.empty) 1 16 Tryz.underlying30 hi_9 hz0_9 hz1_9 hz2_9 rfl (by decide) (some ⟨qt_78_p494, 0, none⟩) ct_78_p494 t_78.length _ rfl Pt_78_p494.out At_81_p486 t_81.length ct_81_p486 (t_81.map Value.string) rfl Qt_81_p486.out Ct_82_p495.out (fun u hu => by obtain ⟨y_, _, rfl⟩ := List.mem_map.1 hu; rfl) h1t_82_p495 h2t_82_p495 hst_82_p495 ?_
                                 intro vt_82_p495 wt_82_p495 ot_82_p495 gt_82_p495 yt_82_p495
                                 obtain ⟨At_82_p495, ct_82_p495, rfl, pt_82_p495⟩ := own_pushS (f := (fun z => z.map Value.string)) hht_82.out (by simp) rfl ot_82_p495
                                 have Pt_82_p495 := Lib.hid pt_82_p495
                                 have Yt_82_p495 := Lib.hid yt_82_p495
                                 have Gt_82_p495 := Lib.hid gt_82_p495
                                 have HBwt_82_p495 := Lib.hid (HBwt_78_p494.out.grown Gt_82_p495.out hst_82_p495 (fun q hq => (Pt_78_p494.out.lt q hq).1))
                                 have Dt_82_out_6l0_p495 : Hid (Apart At_82_p495 _) := Lib.hid (apart_app Dt_78_out_6l0_p494.out (fun a_ ha_ => (own_lt Oout_6l0_p487_p492_p493_p494.out a_ ha_).2) Yt_82_p495.out)
                                 have Oout_6l0_p487_p492_p493_p494_p495 := Lib.hid (own_other Oout_6l0_p487_p492_p493_p494.out Gt_82_p495.out Dt_78_out_6l0_p494.out))
                              | (have hst_75_p498 := HBw_t_71_p497.out.size
                                 have Ct_75_p498 := Lib.hid ((Mt_74_p485.out _ Oout_6l0_p496_p497.out))
                                 have h1t_75_p498 : 0 + t_74.length ≤ maxLen := by have h_ := hlt_75; simp only [List.length_nil] at h_; unfold maxLen; omega
                                 have h2t_75_p498 : (0 + t_74.length) * 16 ≤ 140737488355328 := by have h_ := hlt_75; simp only [List.length_nil] at h_; omega
                                 refine Go.Proofs.YtgimcnpkngpmiaaGreatDoor.GoH.step_spread_own (w := w_t_71_p497) rfl (.tmp 72) (.tmp 75) 30 rfl w.heap.size 9 i0_9 (.string ByteArray.empty) 1 16 Tryz.underlying30 hi_9 hz0_9 hz1_9 hz2_9 rfl (by decide) (some ⟨w_t_77_p496.heap.size, 0, none⟩) 0 0 _ rfl Ot_71_p497.out At_74_p485 t_74.length ct_74_p485 (t_74.map Value.string) rfl Qt_74_p485.out Ct_75_p498.out (fun u hu => by obtain ⟨y_, _, rfl⟩ := List.mem_map.1 hu; rfl) h1t_75_p498 h2t_75_p498 hst_75_p498 ?_
                                 intro vt_75_p498 wt_75_p498 ot_75_p498 gt_75_p498 yt_75_p498
                                 obtain ⟨At_75_p498, ct_75_p498, rfl, pt_75_p498⟩ := own_pushS (f := (fun z => z.map Value.string)) hht_75.out (by simp) rfl ot_75_p498
                                 have Pt_75_p498 := Lib.hid pt_75_p498
                                 have Yt_75_p498 := Lib.hid yt_75_p498
                                 have Gt_75_p498 := Lib.hid gt_75_p498
                                 have HBwt_75_p498 := Lib.hid (HBw_t_71_p497.out.grown Gt_75_p498.out hst_75_p498 (fun q hq => (Ot_71_p497.out.lt q hq).1))
                                 have Dt_75_out_6l0_p498 : Hid (Apart At_75_p498 _) := Lib.hid (apart_app Dt_71_out_6l0_p497.out (fun a_ ha_ => (own_lt Oout_6l0_p496_p497.out a_ ha_).2) Yt_75_p498.out)
                                 have Dt_75_t_77_p498 : Hid (Apart At_75_p498 _) := Lib.hid (apart_app Dt_71_t_77_p497.out (fun a_ ha_ => (own_lt Ot_77_p496_p497.out a_ ha_).2) Yt_75_p498.out)
                                 have Oout_6l0_p496_p497_p498 := Lib.hid (own_other Oout_6l0_p496_p497.out Gt_75_p498.out Dt_71_out_6l0_p497.out)
                                 have Ot_77_p496_p497_p498 := Lib.hid (own_other Ot_77_p496_p497.out Gt_75_p498.out Dt_71_t_77_p497.out))
                              | (have hst_78_p499 := HBwt_75_p498.out.size
                                 have h1t_78_p499 : t_75.length + 1 ≤ maxLen := by unfold maxLen; omega
                                 have h2t_78_p499 : (t_75.length + 1) * 16 ≤ 140737488355328 := by omega
                                 have h3t_78_p499 := Ot_77_p496_p497_p498.out.cells rfl
                                 refine Go.Proofs.YtgimcnpkngpmiaaGreatDoor.GoH.step_append_own (w := wt_75_p498) rfl (.tmp 76) (.tmp 78) 30 rfl w.heap.size 9 i0_9 (.string ByteArray.empty) 1 16 Tryz.underlying30 hi_9 hz0_9 hz1_9 hz2_9 rfl (by decide) At_75_p498 ct_75_p498 t_75.length _ rfl Pt_75_p498.out ⟨wr2.heap.size, 0, none⟩ 1 [.string t_22_town] rfl rfl h3t_78_p499 (one_cells rfl) h1t_78_p499 h2t_78_p499 hst_78_p499 ?_
                                 intro vt_78_p499 wt_78_p499 ot_78_p499 gt_78_p499 yt_78_p499
                                 obtain ⟨qt_78_p499, ct_78_p499, rfl, pt_78_p499⟩ := own_push hht_78.out (by simp) rfl ot_78_p499
                                 have Pt_78_p499 := Lib.hid pt_78_p499
                                 have Yt_78_p499 := Lib.hid yt_78_p499
                                 have Gt_78_p499 := Lib.hid gt_78_p499
                                 have HBwt_78_p499 := Lib.hid (HBwt_75_p498.out.grown Gt_78_p499.out hst_78_p499 (fun q hq => (Pt_75_p498.out.lt q hq).1))
                                 have Dt_78_out_6l0_p499 : Hid (Apart (some ⟨qt_78_p499, 0, none⟩) _) := Lib.hid (apart_app Dt_75_out_6l0_p498.out (fun a_ ha_ => (own_lt Oout_6l0_p496_p497_p498.out a_ ha_).2) Yt_78_p499.out)
                                 have Dt_78_t_77_p499 : Hid (Apart (some ⟨qt_78_p499, 0, none⟩) _) := Lib.hid (apart_app Dt_75_t_77_p498.out (fun a_ ha_ => (own_lt Ot_77_p496_p497_p498.out a_ ha_).2) Yt_78_p499.out)
                                 have Oout_6l0_p496_p497_p498_p499 := Lib.hid (own_other Oout_6l0_p496_p497_p498.out Gt_78_p499.out Dt_75_out_6l0_p498.out)
                                 have Ot_77_p496_p497_p498_p499 := Lib.hid (own_other Ot_77_p496_p497_p498.out Gt_78_p499.out Dt_75_t_77_p498.out))
                              | (have hst_82_p500 := HBwt_78_p499.out.size
                                 have Ct_82_p500 := Lib.hid ((Mt_81_p486.out _ Oout_6l0_p496_p497_p498_p499.out))
                                 have h1t_82_p500 : t_78.length + t_81.length ≤ maxLen := by have h_ := hlt_82; unfold maxLen; omega
                                 have h2t_82_p500 : (t_78.length + t_81.length) * 16 ≤ 140737488355328 := by have h_ := hlt_82; omega
                                 refine Go.Proofs.YtgimcnpkngpmiaaGreatDoor.GoH.step_spread_own (w := wt_78_p499) rfl (.tmp 79) (.tmp 82) 30 rfl w.heap.size 9 i0_9 (.string ByteArray.empty) 1 16 Tryz.underlying30 hi_9 hz0_9 hz1_9 hz2_9 rfl (by decide) (some ⟨qt_78_p499, 0, none⟩) ct_78_p499 t_78.length _ rfl Pt_78_p499.out At_81_p486 t_81.length ct_81_p486 (t_81.map Value.string) rfl Qt_81_p486.out Ct_82_p500.out (fun u hu => by obtain ⟨y_, _, rfl⟩ := List.mem_map.1 hu; rfl) h1t_82_p500 h2t_82_p500 hst_82_p500 ?_
                                 intro vt_82_p500 wt_82_p500 ot_82_p500 gt_82_p500 yt_82_p500
                                 obtain ⟨At_82_p500, ct_82_p500, rfl, pt_82_p500⟩ := own_pushS (f := (fun z => z.map Value.string)) hht_82.out (by simp) rfl ot_82_p500
                                 have Pt_82_p500 := Lib.hid pt_82_p500
                                 have Yt_82_p500 := Lib.hid yt_82_p500
                                 have Gt_82_p500 := Lib.hid gt_82_p500
                                 have HBwt_82_p500 := Lib.hid (HBwt_78_p499.out.grown Gt_82_p500.out hst_82_p500 (fun q hq => (Pt_78_p499.out.lt q hq).1))
                                 have Dt_82_out_6l0_p500 : Hid (Apart At_82_p500 _) := Lib.hid (apart_app Dt_78_out_6l0_p499.out (fun a_ ha_ => (own_lt Oout_6l0_p496_p497_p498_p499.out a_ ha_).2) Yt_82_p500.out)
                                 have Oout_6l0_p496_p497_p498_p499_p500 := Lib.hid (own_other Oout_6l0_p496_p497_p498_p499.out Gt_82_p500.out Dt_78_out_6l0_p499.out)))
                        · skip
                          replace H := app_hid H
                          go_wp2_with fail
                          go_roundg m0
                          case measure => omega
                          case rel => exact ⟨k0 + 1, _, _, _, by omega, by go_num, rfl, H, HBwt_82_p491, Pt_82_p491⟩
                        · skip
                          replace H := app_hid H
                          go_wp2_with fail
                          go_roundg m0
                          case measure => omega
                          case rel => exact ⟨k0 + 1, _, _, _, by omega, by go_num, rfl, H, HBwt_82_p495, Pt_82_p495⟩
                        · skip
                          replace H := app_hid H
                          go_wp2_with fail
                          go_roundg m0
                          case measure => omega
                          case rel => exact ⟨k0 + 1, _, _, _, by omega, by go_num, rfl, H, HBwt_82_p500, Pt_82_p500⟩
                      | true =>
                        replace H := let_hid H
                        obtain ⟨t_70, ht_70, H⟩ := H
                        obtain rfl : t_70 = false := ht_70.symm
                        replace H := ite_f H
                        replace H := app_hid H
                        go_wp2_with fail
                        go_roundg m0
                        case measure => omega
                        case rel => exact ⟨k0 + 1, _, _, _, by omega, by go_num, rfl, H, HBwr2, Oout_6l0⟩
                    | true =>
                      replace H := ite_t H
                      replace H := let_hid H
                      obtain ⟨t_61, ht_61, H⟩ := H
                      replace H := idx_hid H
                      obtain ⟨nt_62, yt_62, et_62, lt_62, gt_62, H⟩ := H
                      subst et_62
                      obtain ⟨qt_62, Qt_62⟩ := own_some Oout_6l0.out (by omega)
                      subst Qt_62
                      obtain ⟨ab_t_62, ao_t_62, zt_62, At_62, z_t_62, ct_62_0⟩ := strs_at (own_cells Oout_6l0.out) (k := nt_62) (by omega)
                      obtain rfl := Option.some.inj (gt_62.out.symm.trans z_t_62)
                      simp only [Option.some.injEq, Addr.mk.injEq] at At_62
                      obtain ⟨rfl, rfl, _⟩ := At_62
                      clear z_t_62
                      simp only [Nat.zero_add] at ct_62_0
                      have b0t_62 : (0 : Int) ≤ (nt_62 : Int) := by omega
                      have b1t_62 : (nt_62 : Int) < ((out_6l0.length : Nat) : Int) := by omega
                      have b2t_62 : ((nt_62 : Int)).toNat = nt_62 := by omega
                      replace H := let_hid H
                      obtain ⟨t_64, ht_64, H⟩ := H
                      replace H := app_hid H
                      cases t_64 with
                      | false =>
                        replace H := ite_f H
                        replace H := app_hid H
                        unfold e2 at H
                        replace H := let_hid H
                        obtain ⟨_, rfl, H⟩ := H
                        cases known_10l1 with
                        | false =>
                          replace H := let_hid H
                          obtain ⟨t_70, ht_70, H⟩ := H
                          obtain rfl : t_70 = true := ht_70.symm
                          replace H := ite_t H
                          go_wp2_with fail
                          have bd17 : Below wr2.heap.size wr2 wr2.drew := (Below.refl _ _).drew
                          have HBwr2.drew := Lib.hid (Below.step HBwr2.out bd17)
                          replace ct_62_0 := cell_below bd17 ct_62_0
                          replace Oout_6l0 := Lib.hid (own_below Oout_6l0.out bd17)
                          clear bd17
                          replace H := guard_hid H
                          obtain ⟨hl_t_74, H⟩ := H
                          replace H := let_hid H
                          obtain ⟨t_74, ht_74, H⟩ := H
                          have hht_74 := Lib.hid ht_74
                          have hgt_74 := Lib.hid hl_t_74
                          clear ht_74
                          clear hl_t_74
                          replace H := guard_hid H
                          obtain ⟨hlt_75, H⟩ := H
                          replace H := let_hid H
                          obtain ⟨t_75, ht_75, H⟩ := H
                          have hht_75 := Lib.hid ht_75
                          clear ht_75
                          replace H := guard_hid H
                          obtain ⟨hlt_78, H⟩ := H
                          replace H := let_hid H
                          obtain ⟨t_78, ht_78, H⟩ := H
                          have hht_78 := Lib.hid ht_78
                          clear ht_78
                          replace H := guard_hid H
                          obtain ⟨hl_t_81, H⟩ := H
                          replace H := let_hid H
                          obtain ⟨t_81, ht_81, H⟩ := H
                          have hht_81 := Lib.hid ht_81
                          have hgt_81 := Lib.hid hl_t_81
                          clear ht_81
                          clear hl_t_81
                          replace H := guard_hid H
                          obtain ⟨hlt_82, H⟩ := H
                          replace H := let_hid H
                          obtain ⟨t_82, ht_82, H⟩ := H
                          have hht_82 := Lib.hid ht_82
                          clear ht_82
                          obtain ⟨At_74_p503, ct_74_p503, rt_74_p503, mt_74_p503, qt_74_p503⟩ := Go.Proofs.YtgimcnpkngpmiaaGreatDoor.GoD.slice_viewH (P := Tryz.prog) (t := 30) (e := 9) (k := .i64) (ys := (t_74.map Value.string)) (m := t_74.length) (by kernel_rfl) (by kernel_rfl) hi_9 hz1_9 Oout_6l0.out (by have h_ := hgt_74.out; omega) (by have h_ := hgt_74.out; rw [← hht_74.out, List.length_take] <;> omega) (by rw [← hht_74.out]; simp [List.map_take])
                          have Mt_74_p503 := Lib.hid mt_74_p503
                          have Qt_74_p503 := Lib.hid qt_74_p503
                          have Nt_74_p503 : Hid (t_74.length ≤ 9223372036854775807) := Lib.hid (by have h_ := own_max Oout_6l0.out; rw [← hht_74.out, List.length_take] <;> omega)
                          obtain ⟨At_81_p504, ct_81_p504, rt_81_p504, mt_81_p504, qt_81_p504⟩ := Go.Proofs.YtgimcnpkngpmiaaGreatDoor.GoD.slice_view (P := Tryz.prog) (t := 30) (e := 9) (k := .i64) (lo := k_9l2) (ys := (t_81.map Value.string)) (m := t_81.length) (by kernel_rfl) (by kernel_rfl) hi_9 hz1_9 Oout_6l0.out (by have h_ := hgt_81.out; omega) (by rw [← hht_81.out, List.length_drop] <;> omega) (by rw [← hht_81.out]; simp [List.map_drop])
                          have Mt_81_p504 := Lib.hid mt_81_p504
                          have Qt_81_p504 := Lib.hid qt_81_p504
                          have Nt_81_p504 : Hid (t_81.length ≤ 9223372036854775807) := Lib.hid (by have h_ := own_max Oout_6l0.out; rw [← hht_81.out, List.length_drop] <;> omega)
                          obtain ⟨w_t_71_p506, hw_t_71_p506⟩ : ∃ x, wr2.drew.alloc (.cells #[] 9) = x := ⟨_, rfl⟩
                          have bw_t_71_p506 : Below wr2.drew.heap.size wr2.drew w_t_71_p506 := by rw [← hw_t_71_p506]; exact (Below.refl _ _).alloc (Nat.le_refl _) _
                          have Ot_71_p506 : Hid (w_t_71_p506.ownsRow w.heap.size 9 1 (.slice (some ⟨wr2.heap.size, 0, none⟩) 0 0) 0 []) := Lib.hid (by rw [← hw_t_71_p506]; exact own_empty HBwr2.drew.out.size)
                          have Dt_71_out_6l0_p506 := Lib.hid (apart_fresh Oout_6l0.out)
                          have HBw_t_71_p506 := Lib.hid (Below.step HBwr2.drew.out bw_t_71_p506)
                          have ct_62_0__505_p506 := cell_below bw_t_71_p506 ct_62_0
                          have Oout_6l0_p506 := Lib.hid (own_below Oout_6l0.out bw_t_71_p506)
                          obtain ⟨w_t_77_p513, hw_t_77_p513⟩ : ∃ x, w_t_71_p506.alloc (.cells #[.string t_22_town] 9) = x := ⟨_, rfl⟩
                          have bw_t_77_p513 : Below w_t_71_p506.heap.size w_t_71_p506 w_t_77_p513 := by rw [← hw_t_77_p513]; exact (Below.refl _ _).alloc (Nat.le_refl _) _
                          have Ot_77_p513 : Hid (w_t_77_p513.ownsRow w.heap.size 9 1 (.slice (some ⟨w_t_71_p506.heap.size, 0, none⟩) 1 1) 1 [.string t_22_town]) := Lib.hid (by rw [← hw_t_77_p513]; exact own_laid (n := 1) HBw_t_71_p506.out.size (rfl : ([.string t_22_town] : List Value) = [.string t_22_town]) rfl (by unfold maxLen; omega))
                          have Dt_77_out_6l0_p513 := Lib.hid (apart_fresh Oout_6l0_p506.out)
                          have Dt_77_t_71_p513 := Lib.hid (apart_fresh Ot_71_p506.out)
                          have HBw_t_77_p513 := Lib.hid (Below.step HBw_t_71_p506.out bw_t_77_p513)
                          have ct_62_0__512_p513 := cell_below bw_t_77_p513 ct_62_0__505_p506
                          have Oout_6l0_p506_p513 := Lib.hid (own_below Oout_6l0_p506.out bw_t_77_p513)
                          have Ot_71_p506_p513 := Lib.hid (own_below Ot_71_p506.out bw_t_77_p513)
                          obtain ⟨w_t_77_p518, hw_t_77_p518⟩ : ∃ x, wr2.drew.alloc (.cells #[.string t_22_town] 9) = x := ⟨_, rfl⟩
                          have bw_t_77_p518 : Below wr2.drew.heap.size wr2.drew w_t_77_p518 := by rw [← hw_t_77_p518]; exact (Below.refl _ _).alloc (Nat.le_refl _) _
                          have Ot_77_p518 : Hid (w_t_77_p518.ownsRow w.heap.size 9 1 (.slice (some ⟨wr2.heap.size, 0, none⟩) 1 1) 1 [.string t_22_town]) := Lib.hid (by rw [← hw_t_77_p518]; exact own_laid (n := 1) HBwr2.drew.out.size (rfl : ([.string t_22_town] : List Value) = [.string t_22_town]) rfl (by unfold maxLen; omega))
                          have Dt_77_out_6l0_p518 := Lib.hid (apart_fresh Oout_6l0.out)
                          have HBw_t_77_p518 := Lib.hid (Below.step HBwr2.drew.out bw_t_77_p518)
                          have ct_62_0__517_p518 := cell_below bw_t_77_p518 ct_62_0
                          have Oout_6l0_p518 := Lib.hid (own_below Oout_6l0.out bw_t_77_p518)
                          obtain ⟨w_t_71_p520, hw_t_71_p520⟩ : ∃ x, w_t_77_p518.alloc (.cells #[] 9) = x := ⟨_, rfl⟩
                          have bw_t_71_p520 : Below w_t_77_p518.heap.size w_t_77_p518 w_t_71_p520 := by rw [← hw_t_71_p520]; exact (Below.refl _ _).alloc (Nat.le_refl _) _
                          have Ot_71_p520 : Hid (w_t_71_p520.ownsRow w.heap.size 9 1 (.slice (some ⟨w_t_77_p518.heap.size, 0, none⟩) 0 0) 0 []) := Lib.hid (by rw [← hw_t_71_p520]; exact own_empty HBw_t_77_p518.out.size)
                          have Dt_71_out_6l0_p520 := Lib.hid (apart_fresh Oout_6l0_p518.out)
                          have Dt_71_t_77_p520 := Lib.hid (apart_fresh Ot_77_p518.out)
                          have HBw_t_71_p520 := Lib.hid (Below.step HBw_t_77_p518.out bw_t_71_p520)
                          have ct_62_0__519_p520 := cell_below bw_t_71_p520 ct_62_0__517_p518
                          have Oout_6l0_p518_p520 := Lib.hid (own_below Oout_6l0_p518.out bw_t_71_p520)
                          have Ot_77_p518_p520 := Lib.hid (own_below Ot_77_p518.out bw_t_71_p520)
                          go_region_held3 (fun w' => w'.cell? ⟨qt_62, nt_62, none⟩ = some (.string yt_62)) (first | exact ct_62_0 | exact ct_62_0__505_p506 | exact ct_62_0__505_p506_p507 | exact ct_62_0__508_p509 | exact ct_62_0__508_p509_p510 | exact ct_62_0__508_p509_p510_p511 | exact ct_62_0__512_p513 | exact ct_62_0__512_p513_p514 | exact ct_62_0__512_p513_p514_p515 | exact ct_62_0__512_p513_p514_p515_p516 | exact ct_62_0__517_p518 | exact ct_62_0__519_p520 | exact ct_62_0__519_p520_p521 | exact ct_62_0__519_p520_p521_p522 | exact ct_62_0__519_p520_p521_p522_p523)
                              (first
                                | (have hst_75_p507 := HBw_t_71_p506.out.size
                                   have Ct_75_p507 := Lib.hid ((Mt_74_p503.out _ Oout_6l0_p506.out))
                                   have h1t_75_p507 : 0 + t_74.length ≤ maxLen := by have h_ := hlt_75; simp only [List.length_nil] at h_; unfold maxLen; omega
                                   have h2t_75_p507 : (0 + t_74.length) * 16 ≤ 140737488355328 := by have h_ := hlt_75; simp only [List.length_nil] at h_; omega
                                   refine Go.Proofs.YtgimcnpkngpmiaaGreatDoor.GoH.step_spread_own (w := w_t_71_p506) rfl (.tmp 72) (.tmp 75) 30 rfl w.heap.size 9 i0_9 (.string ByteArray.empty) 1 16 Tryz.underlying30 hi_9 hz0_9 hz1_9 hz2_9 rfl (by decide) (some ⟨wr2.heap.size, 0, none⟩) 0 0 _ rfl Ot_71_p506.out At_74_p503 t_74.length ct_74_p503 (t_74.map Value.string) rfl Qt_74_p503.out Ct_75_p507.out (fun u hu => by obtain ⟨y_, _, rfl⟩ := List.mem_map.1 hu; rfl) h1t_75_p507 h2t_75_p507 hst_75_p507 ?_
                                   intro vt_75_p507 wt_75_p507 ot_75_p507 gt_75_p507 yt_75_p507
                                   obtain ⟨At_75_p507, ct_75_p507, rfl, pt_75_p507⟩ := own_pushS (f := (fun z => z.map Value.string)) hht_75.out (by simp) rfl ot_75_p507
                                   have Pt_75_p507 := Lib.hid pt_75_p507
                                   have Yt_75_p507 := Lib.hid yt_75_p507
                                   have Gt_75_p507 := Lib.hid gt_75_p507
                                   have HBwt_75_p507 := Lib.hid (HBw_t_71_p506.out.grown Gt_75_p507.out hst_75_p507 (fun q hq => (Ot_71_p506.out.lt q hq).1))
                                   have Dt_75_out_6l0_p507 : Hid (Apart At_75_p507 _) := Lib.hid (apart_app Dt_71_out_6l0_p506.out (fun a_ ha_ => (own_lt Oout_6l0_p506.out a_ ha_).2) Yt_75_p507.out)
                                   have ct_62_0__505_p506_p507 := cell_other ct_62_0__505_p506 Gt_75_p507.out Dt_71_out_6l0_p506.out
                                   have Oout_6l0_p506_p507 := Lib.hid (own_other Oout_6l0_p506.out Gt_75_p507.out Dt_71_out_6l0_p506.out)
                                   obtain ⟨w_t_77_p509, hw_t_77_p509⟩ : ∃ x, wt_75_p507.alloc (.cells #[.string t_22_town] 9) = x := ⟨_, rfl⟩
                                   have bw_t_77_p509 : Below wt_75_p507.heap.size wt_75_p507 w_t_77_p509 := by rw [← hw_t_77_p509]; exact (Below.refl _ _).alloc (Nat.le_refl _) _
                                   have Ot_77_p509 : Hid (w_t_77_p509.ownsRow w.heap.size 9 1 (.slice (some ⟨wt_75_p507.heap.size, 0, none⟩) 1 1) 1 [.string t_22_town]) := Lib.hid (by rw [← hw_t_77_p509]; exact own_laid (n := 1) HBwt_75_p507.out.size (rfl : ([.string t_22_town] : List Value) = [.string t_22_town]) rfl (by unfold maxLen; omega))
                                   have Dt_77_out_6l0_p509 := Lib.hid (apart_fresh Oout_6l0_p506_p507.out)
                                   have Dt_77_t_75_p509 := Lib.hid (apart_fresh Pt_75_p507.out)
                                   have HBw_t_77_p509 := Lib.hid (Below.step HBwt_75_p507.out bw_t_77_p509)
                                   have ct_62_0__508_p509 := cell_below bw_t_77_p509 ct_62_0__505_p506_p507
                                   have Oout_6l0_p506_p507_p509 := Lib.hid (own_below Oout_6l0_p506_p507.out bw_t_77_p509)
                                   have Pt_75_p507_p509 := Lib.hid (own_below Pt_75_p507.out bw_t_77_p509))
                                | (have hst_78_p510 := HBw_t_77_p509.out.size
                                   have h1t_78_p510 : t_75.length + 1 ≤ maxLen := by unfold maxLen; omega
                                   have h2t_78_p510 : (t_75.length + 1) * 16 ≤ 140737488355328 := by omega
                                   have h3t_78_p510 := Ot_77_p509.out.cells rfl
                                   refine Go.Proofs.YtgimcnpkngpmiaaGreatDoor.GoH.step_append_own (w := w_t_77_p509) rfl (.tmp 76) (.tmp 78) 30 rfl w.heap.size 9 i0_9 (.string ByteArray.empty) 1 16 Tryz.underlying30 hi_9 hz0_9 hz1_9 hz2_9 rfl (by decide) At_75_p507 ct_75_p507 t_75.length _ rfl Pt_75_p507_p509.out ⟨wt_75_p507.heap.size, 0, none⟩ 1 [.string t_22_town] rfl rfl h3t_78_p510 (one_cells rfl) h1t_78_p510 h2t_78_p510 hst_78_p510 ?_
                                   intro vt_78_p510 wt_78_p510 ot_78_p510 gt_78_p510 yt_78_p510
                                   obtain ⟨qt_78_p510, ct_78_p510, rfl, pt_78_p510⟩ := own_push hht_78.out (by simp) rfl ot_78_p510
                                   have Pt_78_p510 := Lib.hid pt_78_p510
                                   have Yt_78_p510 := Lib.hid yt_78_p510
                                   have Gt_78_p510 := Lib.hid gt_78_p510
                                   have HBwt_78_p510 := Lib.hid (HBw_t_77_p509.out.grown Gt_78_p510.out hst_78_p510 (fun q hq => (Pt_75_p507_p509.out.lt q hq).1))
                                   have Dt_78_out_6l0_p510 : Hid (Apart (some ⟨qt_78_p510, 0, none⟩) _) := Lib.hid (apart_app Dt_75_out_6l0_p507.out (fun a_ ha_ => (own_lt Oout_6l0_p506_p507_p509.out a_ ha_).2) Yt_78_p510.out)
                                   have Dt_78_t_77_p510 : Hid (Apart (some ⟨qt_78_p510, 0, none⟩) _) := Lib.hid (apart_app (Apart.symm Dt_77_t_75_p509.out) (fun a_ ha_ => (own_lt Ot_77_p509.out a_ ha_).2) Yt_78_p510.out)
                                   have ct_62_0__508_p509_p510 := cell_other ct_62_0__508_p509 Gt_78_p510.out Dt_75_out_6l0_p507.out
                                   have Oout_6l0_p506_p507_p509_p510 := Lib.hid (own_other Oout_6l0_p506_p507_p509.out Gt_78_p510.out Dt_75_out_6l0_p507.out)
                                   have Ot_77_p509_p510 := Lib.hid (own_other Ot_77_p509.out Gt_78_p510.out (Apart.symm Dt_77_t_75_p509.out)))
                                | (have hst_82_p511 := HBwt_78_p510.out.size
                                   have Ct_82_p511 := Lib.hid ((Mt_81_p504.out _ Oout_6l0_p506_p507_p509_p510.out))
                                   have h1t_82_p511 : t_78.length + t_81.length ≤ maxLen := by have h_ := hlt_82; unfold maxLen; omega
                                   have h2t_82_p511 : (t_78.length + t_81.length) * 16 ≤ 140737488355328 := by have h_ := hlt_82; omega
                                   refine Go.Proofs.YtgimcnpkngpmiaaGreatDoor.GoH.step_spread_own (w := wt_78_p510) rfl (.tmp 79) (.tmp 82) 30 rfl w.heap.size 9 i0_9 (.string ByteArray.empty) 1 16 Tryz.underlying30 hi_9 hz0_9 hz1_9 hz2_9 rfl (by decide) (some ⟨qt_78_p510, 0, none⟩) ct_78_p510 t_78.length _ rfl Pt_78_p510.out At_81_p504 t_81.length ct_81_p504 (t_81.map Value.string) rfl Qt_81_p504.out Ct_82_p511.out (fun u hu => by obtain ⟨y_, _, rfl⟩ := List.mem_map.1 hu; rfl) h1t_82_p511 h2t_82_p511 hst_82_p511 ?_
                                   intro vt_82_p511 wt_82_p511 ot_82_p511 gt_82_p511 yt_82_p511
                                   obtain ⟨At_82_p511, ct_82_p511, rfl, pt_82_p511⟩ := own_pushS (f := (fun z => z.map Value.string)) hht_82.out (by simp) rfl ot_82_p511
                                   have Pt_82_p511 := Lib.hid pt_82_p511
                                   have Yt_82_p511 := Lib.hid yt_82_p511
                                   have Gt_82_p511 := Lib.hid gt_82_p511
                                   have HBwt_82_p511 := Lib.hid (HBwt_78_p510.out.grown Gt_82_p511.out hst_82_p511 (fun q hq => (Pt_78_p510.out.lt q hq).1))
                                   have Dt_82_out_6l0_p511 : Hid (Apart At_82_p511 _) := Lib.hid (apart_app Dt_78_out_6l0_p510.out (fun a_ ha_ => (own_lt Oout_6l0_p506_p507_p509_p510.out a_ ha_).2) Yt_82_p511.out)
                                   have ct_62_0__508_p509_p510_p511 := cell_other ct_62_0__508_p509_p510 Gt_82_p511.out Dt_78_out_6l0_p510.out
                                   have Oout_6l0_p506_p507_p509_p510_p511 := Lib.hid (own_other Oout_6l0_p506_p507_p509_p510.out Gt_82_p511.out Dt_78_out_6l0_p510.out))
                                | (have hst_75_p514 := HBw_t_77_p513.out.size
                                   have Ct_75_p514 := Lib.hid ((Mt_74_p503.out _ Oout_6l0_p506_p513.out))
                                   have h1t_75_p514 : 0 + t_74.length ≤ maxLen := by have h_ := hlt_75; simp only [List.length_nil] at h_; unfold maxLen; omega
                                   have h2t_75_p514 : (0 + t_74.length) * 16 ≤ 140737488355328 := by have h_ := hlt_75; simp only [List.length_nil] at h_; omega
                                   refine Go.Proofs.YtgimcnpkngpmiaaGreatDoor.GoH.step_spread_own (w := w_t_77_p513) rfl (.tmp 72) (.tmp 75) 30 rfl w.heap.size 9 i0_9 (.string ByteArray.empty) 1 16 Tryz.underlying30 hi_9 hz0_9 hz1_9 hz2_9 rfl (by decide) (some ⟨wr2.heap.size, 0, none⟩) 0 0 _ rfl Ot_71_p506_p513.out At_74_p503 t_74.length ct_74_p503 (t_74.map Value.string) rfl Qt_74_p503.out Ct_75_p514.out (fun u hu => by obtain ⟨y_, _, rfl⟩ := List.mem_map.1 hu; rfl) h1t_75_p514 h2t_75_p514 hst_75_p514 ?_
                                   intro vt_75_p514 wt_75_p514 ot_75_p514 gt_75_p514 yt_75_p514
                                   obtain ⟨At_75_p514, ct_75_p514, rfl, pt_75_p514⟩ := own_pushS (f := (fun z => z.map Value.string)) hht_75.out (by simp) rfl ot_75_p514
                                   have Pt_75_p514 := Lib.hid pt_75_p514
                                   have Yt_75_p514 := Lib.hid yt_75_p514
                                   have Gt_75_p514 := Lib.hid gt_75_p514
                                   have HBwt_75_p514 := Lib.hid (HBw_t_77_p513.out.grown Gt_75_p514.out hst_75_p514 (fun q hq => (Ot_71_p506_p513.out.lt q hq).1))
                                   have Dt_75_out_6l0_p514 : Hid (Apart At_75_p514 _) := Lib.hid (apart_app Dt_71_out_6l0_p506.out (fun a_ ha_ => (own_lt Oout_6l0_p506_p513.out a_ ha_).2) Yt_75_p514.out)
                                   have Dt_75_t_77_p514 : Hid (Apart At_75_p514 _) := Lib.hid (apart_app (Apart.symm Dt_77_t_71_p513.out) (fun a_ ha_ => (own_lt Ot_77_p513.out a_ ha_).2) Yt_75_p514.out)
                                   have ct_62_0__512_p513_p514 := cell_other ct_62_0__512_p513 Gt_75_p514.out Dt_71_out_6l0_p506.out
                                   have Oout_6l0_p506_p513_p514 := Lib.hid (own_other Oout_6l0_p506_p513.out Gt_75_p514.out Dt_71_out_6l0_p506.out)
                                   have Ot_77_p513_p514 := Lib.hid (own_other Ot_77_p513.out Gt_75_p514.out (Apart.symm Dt_77_t_71_p513.out)))
                                | (have hst_78_p515 := HBwt_75_p514.out.size
                                   have h1t_78_p515 : t_75.length + 1 ≤ maxLen := by unfold maxLen; omega
                                   have h2t_78_p515 : (t_75.length + 1) * 16 ≤ 140737488355328 := by omega
                                   have h3t_78_p515 := Ot_77_p513_p514.out.cells rfl
                                   refine Go.Proofs.YtgimcnpkngpmiaaGreatDoor.GoH.step_append_own (w := wt_75_p514) rfl (.tmp 76) (.tmp 78) 30 rfl w.heap.size 9 i0_9 (.string ByteArray.empty) 1 16 Tryz.underlying30 hi_9 hz0_9 hz1_9 hz2_9 rfl (by decide) At_75_p514 ct_75_p514 t_75.length _ rfl Pt_75_p514.out ⟨w_t_71_p506.heap.size, 0, none⟩ 1 [.string t_22_town] rfl rfl h3t_78_p515 (one_cells rfl) h1t_78_p515 h2t_78_p515 hst_78_p515 ?_
                                   intro vt_78_p515 wt_78_p515 ot_78_p515 gt_78_p515 yt_78_p515
                                   obtain ⟨qt_78_p515, ct_78_p515, rfl, pt_78_p515⟩ := own_push hht_78.out (by simp) rfl ot_78_p515
                                   have Pt_78_p515 := Lib.hid pt_78_p515
                                   have Yt_78_p515 := Lib.hid yt_78_p515
                                   have Gt_78_p515 := Lib.hid gt_78_p515
                                   have HBwt_78_p515 := Lib.hid (HBwt_75_p514.out.grown Gt_78_p515.out hst_78_p515 (fun q hq => (Pt_75_p514.out.lt q hq).1))
                                   have Dt_78_out_6l0_p515 : Hid (Apart (some ⟨qt_78_p515, 0, none⟩) _) := Lib.hid (apart_app Dt_75_out_6l0_p514.out (fun a_ ha_ => (own_lt Oout_6l0_p506_p513_p514.out a_ ha_).2) Yt_78_p515.out)
                                   have Dt_78_t_77_p515 : Hid (Apart (some ⟨qt_78_p515, 0, none⟩) _) := Lib.hid (apart_app Dt_75_t_77_p514.out (fun a_ ha_ => (own_lt Ot_77_p513_p514.out a_ ha_).2) Yt_78_p515.out)
                                   have ct_62_0__512_p513_p514_p515 := cell_other ct_62_0__512_p513_p514 Gt_78_p515.out Dt_75_out_6l0_p514.out
                                   have Oout_6l0_p506_p513_p514_p515 := Lib.hid (own_other Oout_6l0_p506_p513_p514.out Gt_78_p515.out Dt_75_out_6l0_p514.out)
                                   have Ot_77_p513_p514_p515 := Lib.hid (own_other Ot_77_p513_p514.out Gt_78_p515.out Dt_75_t_77_p514.out))
                                | (have hst_82_p516 := HBwt_78_p515.out.size
                                   have Ct_82_p516 := Lib.hid ((Mt_81_p504.out _ Oout_6l0_p506_p513_p514_p515.out))
                                   have h1t_82_p516 : t_78.length + t_81.length ≤ maxLen := by have h_ := hlt_82; unfold maxLen; omega
                                   have h2t_82_p516 : (t_78.length + t_81.length) * 16 ≤ 140737488355328 := by have h_ := hlt_82; omega
                                   refine Go.Proofs.YtgimcnpkngpmiaaGreatDoor.GoH.step_spread_own (w := wt_78_p515) rfl (.tmp 79) (.tmp 82) 30 rfl w.heap.size 9 i0_9 (.string ByteArray.empty) 1 16 Tryz.underlying30 hi_9 hz0_9 hz1_9 hz2_9 rfl (by decide) (some ⟨qt_78_p515, 0, none⟩) ct_78_p515 t_78.length _ rfl Pt_78_p515.out At_81_p504 t_81.length ct_81_p504 (t_81.map Value.string) rfl Qt_81_p504.out Ct_82_p516.out (fun u hu => by obtain ⟨y_, _, rfl⟩ := List.mem_map.1 hu; rfl) h1t_82_p516 h2t_82_p516 hst_82_p516 ?_
                                   intro vt_82_p516 wt_82_p516 ot_82_p516 gt_82_p516 yt_82_p516
                                   obtain ⟨At_82_p516, ct_82_p516, rfl, pt_82_p516⟩ := own_pushS (f := (fun z => z.map Value.string)) hht_82.out (by simp) rfl ot_82_p516
                                   have Pt_82_p516 := Lib.hid pt_82_p516
                                   have Yt_82_p516 := Lib.hid yt_82_p516
                                   have Gt_82_p516 := Lib.hid gt_82_p516
                                   have HBwt_82_p516 := Lib.hid (HBwt_78_p515.out.grown Gt_82_p516.out hst_82_p516 (fun q hq => (Pt_78_p515.out.lt q hq).1))
                                   have Dt_82_out_6l0_p516 : Hid (Apart At_82_p516 _) := Lib.hid (apart_app Dt_78_out_6l0_p515.out (fun a_ ha_ => (own_lt Oout_6l0_p506_p513_p514_p515.out a_ ha_).2) Yt_82_p516.out)
                                   have ct_62_0__512_p513_p514_p515_p516 := cell_other ct_62_0__512_p513_p514_p515 Gt_82_p516.out Dt_78_out_6l0_p515.out
                                   have Oout_6l0_p506_p513_p514_p515_p516 := Lib.hid (own_other Oout_6l0_p506_p513_p514_p515.out Gt_82_p516.out Dt_78_out_6l0_p515.out))
                                | (have hst_75_p521 := HBw_t_71_p520.out.size
                                   have Ct_75_p521 := Lib.hid ((Mt_74_p503.out _ Oout_6l0_p518_p520.out))
                                   have h1t_75_p521 : 0 + t_74.length ≤ maxLen := by have h_ := hlt_75; simp only [List.length_nil] at h_; unfold maxLen; omega
                                   have h2t_75_p521 : (0 + t_74.length) * 16 ≤ 140737488355328 := by have h_ := hlt_75; simp only [List.length_nil] at h_; omega
                                   refine Go.Proofs.YtgimcnpkngpmiaaGreatDoor.GoH.step_spread_own (w := w_t_71_p520) rfl (.tmp 72) (.tmp 75) 30 rfl w.heap.size 9 i0_9 (.string ByteArray.empty) 1 16 Tryz.underlying30 hi_9 hz0_9 hz1_9 hz2_9 rfl (by decide) (some ⟨w_t_77_p518.heap.size, 0, none⟩) 0 0 _ rfl Ot_71_p520.out At_74_p503 t_74.length ct_74_p503 (t_74.map Value.string) rfl Qt_74_p503.out Ct_75_p521.out (fun u hu => by obtain ⟨y_, _, rfl⟩ := List.mem_map.1 hu; rfl) h1t_75_p521 h2t_75_p521 hst_75_p521 ?_
                                   intro vt_75_p521 wt_75_p521 ot_75_p521 gt_75_p521 yt_75_p521
                                   obtain ⟨At_75_p521, ct_75_p521, rfl, pt_75_p521⟩ := own_pushS (f := (fun z => z.map Value.string)) hht_75.out (by simp) rfl ot_75_p521
                                   have Pt_75_p521 := Lib.hid pt_75_p521
                                   have Yt_75_p521 := Lib.hid yt_75_p521
                                   have Gt_75_p521 := Lib.hid gt_75_p521
                                   have HBwt_75_p521 := Lib.hid (HBw_t_71_p520.out.grown Gt_75_p521.out hst_75_p521 (fun q hq => (Ot_71_p520.out.lt q hq).1))
                                   have Dt_75_out_6l0_p521 : Hid (Apart At_75_p521 _) := Lib.hid (apart_app Dt_71_out_6l0_p520.out (fun a_ ha_ => (own_lt Oout_6l0_p518_p520.out a_ ha_).2) Yt_75_p521.out)
                                   have Dt_75_t_77_p521 : Hid (Apart At_75_p521 _) := Lib.hid (apart_app Dt_71_t_77_p520.out (fun a_ ha_ => (own_lt Ot_77_p518_p520.out a_ ha_).2) Yt_75_p521.out)
                                   have ct_62_0__519_p520_p521 := cell_other ct_62_0__519_p520 Gt_75_p521.out Dt_71_out_6l0_p520.out
                                   have Oout_6l0_p518_p520_p521 := Lib.hid (own_other Oout_6l0_p518_p520.out Gt_75_p521.out Dt_71_out_6l0_p520.out)
                                   have Ot_77_p518_p520_p521 := Lib.hid (own_other Ot_77_p518_p520.out Gt_75_p521.out Dt_71_t_77_p520.out))
                                | (have hst_78_p522 := HBwt_75_p521.out.size
                                   have h1t_78_p522 : t_75.length + 1 ≤ maxLen := by unfold maxLen; omega
                                   have h2t_78_p522 : (t_75.length + 1) * 16 ≤ 140737488355328 := by omega
                                   have h3t_78_p522 := Ot_77_p518_p520_p521.out.cells rfl
                                   refine Go.Proofs.YtgimcnpkngpmiaaGreatDoor.GoH.step_append_own (w := wt_75_p521) rfl (.tmp 76) (.tmp 78) 30 rfl w.heap.size 9 i0_9 (.string ByteArray.empty) 1 16 Tryz.underlying30 hi_9 hz0_9 hz1_9 hz2_9 rfl (by decide) At_75_p521 ct_75_p521 t_75.length _ rfl Pt_75_p521.out ⟨wr2.heap.size, 0, none⟩ 1 [.string t_22_town] rfl rfl h3t_78_p522 (one_cells rfl) h1t_78_p522 h2t_78_p522 hst_78_p522 ?_
                                   intro vt_78_p522 wt_78_p522 ot_78_p522 gt_78_p522 yt_78_p522
                                   obtain ⟨qt_78_p522, ct_78_p522, rfl, pt_78_p522⟩ := own_push hht_78.out (by simp) rfl ot_78_p522
                                   have Pt_78_p522 := Lib.hid pt_78_p522
                                   have Yt_78_p522 := Lib.hid yt_78_p522
                                   have Gt_78_p522 := Lib.hid gt_78_p522
                                   have HBwt_78_p522 := Lib.hid (HBwt_75_p521.out.grown Gt_78_p522.out hst_78_p522 (fun q hq => (Pt_75_p521.out.lt q hq).1))
                                   have Dt_78_out_6l0_p522 : Hid (Apart (some ⟨qt_78_p522, 0, none⟩) _) := Lib.hid (apart_app Dt_75_out_6l0_p521.out (fun a_ ha_ => (own_lt Oout_6l0_p518_p520_p521.out a_ ha_).2) Yt_78_p522.out)
                                   have Dt_78_t_77_p522 : Hid (Apart (some ⟨qt_78_p522, 0, none⟩) _) := Lib.hid (apart_app Dt_75_t_77_p521.out (fun a_ ha_ => (own_lt Ot_77_p518_p520_p521.out a_ ha_).2) Yt_78_p522.out)
                                   have ct_62_0__519_p520_p521_p522 := cell_other ct_62_0__519_p520_p521 Gt_78_p522.out Dt_75_out_6l0_p521.out
                                   have Oout_6l0_p518_p520_p521_p522 := Lib.hid (own_other Oout_6l0_p518_p520_p521.out Gt_78_p522.out Dt_75_out_6l0_p521.out)
                                   have Ot_77_p518_p520_p521_p522 := Lib.hid (own_other Ot_77_p518_p520_p521.out Gt_78_p522.out Dt_75_t_77_p521.out))
                                | (have hst_82_p523 := HBwt_78_p522.out.size
                                   have Ct_82_p523 := Lib.hid ((Mt_81_p504.out _ Oout_6l0_p518_p520_p521_p522.out))
                                   have h1t_82_p523 : t_78.length + t_81.length ≤ maxLen := by have h_ := hlt_82; unfold maxLen; omega
                                   have h2t_82_p523 : (t_78.length + t_81.length) * 16 ≤ 140737488355328 := by have h_ := hlt_82; omega
                                   refine Go.Proofs.YtgimcnpkngpmiaaGreatDoor.GoH.step_spread_own (w := wt_78_p522) rfl (.tmp 79) (.tmp 82) 30 rfl w.heap.size 9 i0_9 (.string ByteArray.empty) 1 16 Tryz.underlying30 hi_9 hz0_9 hz1_9 hz2_9 rfl (by decide) (some ⟨qt_78_p522, 0, none⟩) ct_78_p522 t_78.length _ rfl Pt_78_p522.out At_81_p504 t_81.length ct_81_p504 (t_81.map Value.string) rfl Qt_81_p504.out Ct_82_p523.out (fun u hu => by obtain ⟨y_, _, rfl⟩ := List.mem_map.1 hu; rfl) h1t_82_p523 h2t_82_p523 hst_82_p523 ?_
                                   intro vt_82_p523 wt_82_p523 ot_82_p523 gt_82_p523 yt_82_p523
                                   obtain ⟨At_82_p523, ct_82_p523, rfl, pt_82_p523⟩ := own_pushS (f := (fun z => z.map Value.string)) hht_82.out (by simp) rfl ot_82_p523
                                   have Pt_82_p523 := Lib.hid pt_82_p523
                                   have Yt_82_p523 := Lib.hid yt_82_p523
                                   have Gt_82_p523 := Lib.hid gt_82_p523
                                   have HBwt_82_p523 := Lib.hid (HBwt_78_p522.out.grown Gt_82_p523.out hst_82_p523 (fun q hq => (Pt_78_p522.out.lt q hq).1))
                                   have Dt_82_out_6l0_p523 : Hid (Apart At_82_p523 _) := Lib.hid (apart_app Dt_78_out_6l0_p522.out (fun a_ ha_ => (own_lt Oout_6l0_p518_p520_p521_p522.out a_ ha_).2) Yt_82_p523.out)
                                   have ct_62_0__519_p520_p521_p522_p523 := cell_other ct_62_0__519_p520_p521_p522 Gt_82_p523.out Dt_78_out_6l0_p522.out
                                   have Oout_6l0_p518_p520_p521_p522_p523 := Lib.hid (own_other Oout_6l0_p518_p520_p521_p522.out Gt_82_p523.out Dt_78_out_6l0_p522.out)))
                          · skip
                            replace H := app_hid H
                            go_wp2_with fail
                            go_roundg m0
                            case measure => omega
                            case rel => exact ⟨k0 + 1, _, _, _, by omega, by go_num, rfl, H, HBwt_82_p511, Pt_82_p511⟩
                          · skip
                            replace H := app_hid H
                            go_wp2_with fail
                            go_roundg m0
                            case measure => omega
                            case rel => exact ⟨k0 + 1, _, _, _, by omega, by go_num, rfl, H, HBwt_82_p516, Pt_82_p516⟩
                          · skip
                            replace H := app_hid H
                            go_wp2_with fail
                            go_roundg m0
                            case measure => omega
                            case rel => exact ⟨k0 + 1, _, _, _, by omega, by go_num, rfl, H, HBwt_82_p523, Pt_82_p523⟩
                        | true =>
                          replace H := let_hid H
                          obtain ⟨t_70, ht_70, H⟩ := H
                          obtain rfl : t_70 = false := ht_70.symm
                          replace H := ite_f H
                          replace H := app_hid H
                          go_wp2_with fail
                          go_roundg m0
                          case measure => omega
                          case rel => exact ⟨k0 + 1, _, _, _, by omega, by go_num, rfl, H, HBwr2, Oout_6l0⟩
                      | true =>
                        replace H := ite_t H
                        replace H := let_hid H
                        obtain ⟨t_67, ht_67, H⟩ := H
                        obtain rfl := ht_61.symm.trans ht_67
                        replace H := app_hid H
                        go_wp2_with fail
                        go_roundg m2
                        case measure => omega
                        case rel => exact ⟨_, rfl, H, HBwr2, Oout_6l0⟩
              | succ m1 =>
                have hlt1 : k1 < out_6l0.length := by omega
                have hc1 : decide ((k1 : Int) < ((out_6l0.length : Nat) : Int)) = true := by simp; omega
                replace H := cnt_succ H
                unfold l1 at H
                replace H := let_hid H
                obtain ⟨_, rfl, H⟩ := H
                replace H := join_hid H
                cases known_10l1 with
                | false =>
                  replace H := ite_f H
                  replace H := idx_hid H
                  obtain ⟨nt_46, yt_46, et_46, lt_46, gt_46, H⟩ := H
                  obtain rfl : k1 = nt_46 := by omega
                  clear et_46
                  obtain ⟨qt_46, Qt_46⟩ := own_some Oout_6l0.out (by omega)
                  subst Qt_46
                  obtain ⟨ab_t_46, ao_t_46, zt_46, At_46, z_t_46, ct_46_0⟩ := strs_at (own_cells Oout_6l0.out) (k := k1) (by omega)
                  obtain rfl := Option.some.inj (gt_46.out.symm.trans z_t_46)
                  simp only [Option.some.injEq, Addr.mk.injEq] at At_46
                  obtain ⟨rfl, rfl, _⟩ := At_46
                  clear z_t_46
                  simp only [Nat.zero_add] at ct_46_0
                  have b0t_46 : (0 : Int) ≤ (k1 : Int) := by omega
                  have b1t_46 : (k1 : Int) < ((out_6l0.length : Nat) : Int) := by omega
                  have b2t_46 : ((k1 : Int)).toNat = k1 := by omega
                  replace H := let_hid H
                  obtain ⟨t_49, ht_49, H⟩ := H
                  replace H := app_hid H
                  replace H := app_hid H
                  go_wp2_with fail
                  go_roundg m1
                  case measure => omega
                  case rel => exact ⟨k1 + 1, _, by omega, by go_num, rfl, H, HBwr1, Oout_6l0⟩
                | true =>
                  replace H := ite_t H
                  replace H := app_hid H
                  replace H := app_hid H
                  go_wp2_with fail
                  go_roundg m1
                  case measure => omega
                  case rel => exact ⟨k1 + 1, _, by omega, by go_num, rfl, H, HBwr1, Oout_6l0⟩
          | true =>
            replace H := let_hid H
            obtain ⟨t_35, ht_35, H⟩ := H
            obtain rfl : t_35 = false := ht_35.symm
            have hb_1 : out_6l0.length ≤ 9223372036854775807 := own_max Oout_6l0.out
            go_wp2_with fail
            go_loopg [11, 10] (out_6l0.length) (fun m_ v11_ v10_ wr => ∃ (k1 : Nat) (known_10l1 : Bool), k1 + m_ = out_6l0.length ∧ v11_ = .int .i64 (k1 : Int) ∧ v10_ = .bool known_10l1 ∧ Hid (cntK (l1 out_6l0 t_22_town) m_ k1 (known_10l1) (e1 fuel (fun s' => cntK (l0 list day fuel) m0 (k0 + 1) s' (e0 )) out_6l0 t_22_town) = some (r0, r1)) ∧ Hid (Below w.heap.size w wr) ∧ Hid (wr.ownsRow w.heap.size 9 1 (.slice Aout_6l0 out_6l0.length cout_6l0) out_6l0.length (out_6l0.map Value.string)))
            case atStart => exact ⟨0, _, by omega, rfl, rfl, H, HBwt_34, Oout_6l0⟩
            case round =>
              obtain ⟨k1, known_10l1, hkm1, rfl, rfl, H, HBwr1, Oout_6l0⟩ := hrel
              rename World => wr1
              cases gk with
              | zero =>
                obtain rfl : k1 = out_6l0.length := by omega
                have hc1 : decide (((out_6l0.length : Nat) : Int) < ((out_6l0.length : Nat) : Int)) = false := by simp
                replace H := cnt_zero H
                unfold e1 at H
                replace H := let_hid H
                obtain ⟨_, rfl, H⟩ := H
                go_wp2_with fail
                go_loopg [9] (fuel) (fun m_ v9_ wr => ∃ (k_9l2 : Int), v9_ = .int .i64 k_9l2 ∧ Hid (loopK (l2 out_6l0 t_22_town) m_ (k_9l2) (e2 (fun s' => cntK (l0 list day fuel) m0 (k0 + 1) s' (e0 )) out_6l0 t_22_town known_10l1) = some (r0, r1)) ∧ Hid (Below w.heap.size w wr) ∧ Hid (wr.ownsRow w.heap.size 9 1 (.slice Aout_6l0 out_6l0.length cout_6l0) out_6l0.length (out_6l0.map Value.string)))
                case atStart => exact ⟨_, rfl, H, HBwr1, Oout_6l0⟩
                case round =>
                  obtain ⟨k_9l2, rfl, H, HBwr2, Oout_6l0⟩ := hrel
                  rename World => wr2
                  cases gk with
                  | zero => exact (loop_zero H).elim
                  | succ m2 =>
                    replace H := loop_succ H
                    unfold l2 at H
                    replace H := let_hid H
                    obtain ⟨_, rfl, H⟩ := H
                    replace H := let_hid H
                    obtain ⟨t_56, ht_56, H⟩ := H
                    replace H := join_hid H
                    cases t_56 with
                    | false =>
                      replace H := ite_f H
                      replace H := app_hid H
                      replace H := ite_f H
                      replace H := app_hid H
                      unfold e2 at H
                      replace H := let_hid H
                      obtain ⟨_, rfl, H⟩ := H
                      cases known_10l1 with
                      | false =>
                        replace H := let_hid H
                        obtain ⟨t_70, ht_70, H⟩ := H
                        obtain rfl : t_70 = true := ht_70.symm
                        replace H := ite_t H
                        go_wp2_with fail
                        have bd17 : Below wr2.heap.size wr2 wr2.drew := (Below.refl _ _).drew
                        have HBwr2.drew := Lib.hid (Below.step HBwr2.out bd17)
                        replace Oout_6l0 := Lib.hid (own_below Oout_6l0.out bd17)
                        clear bd17
                        replace H := guard_hid H
                        obtain ⟨hl_t_74, H⟩ := H
                        replace H := let_hid H
                        obtain ⟨t_74, ht_74, H⟩ := H
                        have hht_74 := Lib.hid ht_74
                        have hgt_74 := Lib.hid hl_t_74
                        clear ht_74
                        clear hl_t_74
                        replace H := guard_hid H
                        obtain ⟨hlt_75, H⟩ := H
                        replace H := let_hid H
                        obtain ⟨t_75, ht_75, H⟩ := H
                        have hht_75 := Lib.hid ht_75
                        clear ht_75
                        replace H := guard_hid H
                        obtain ⟨hlt_78, H⟩ := H
                        replace H := let_hid H
                        obtain ⟨t_78, ht_78, H⟩ := H
                        have hht_78 := Lib.hid ht_78
                        clear ht_78
                        replace H := guard_hid H
                        obtain ⟨hl_t_81, H⟩ := H
                        replace H := let_hid H
                        obtain ⟨t_81, ht_81, H⟩ := H
                        have hht_81 := Lib.hid ht_81
                        have hgt_81 := Lib.hid hl_t_81
                        clear ht_81
                        clear hl_t_81
                        replace H := guard_hid H
                        obtain ⟨hlt_82, H⟩ := H
                        replace H := let_hid H
                        obtain ⟨t_82, ht_82, H⟩ := H
                        have hht_82 := Lib.hid ht_82
                        clear ht_82
                        obtain ⟨At_74_p524, ct_74_p524, rt_74_p524, mt_74_p524, qt_74_p524⟩ := Go.Proofs.YtgimcnpkngpmiaaGreatDoor.GoD.slice_viewH (P := Tryz.prog) (t := 30) (e := 9) (k := .i64) (ys := (t_74.map Value.string)) (m := t_74.length) (by kernel_rfl) (by kernel_rfl) hi_9 hz1_9 Oout_6l0.out (by have h_ := hgt_74.out; omega) (by have h_ := hgt_74.out; rw [← hht_74.out, List.length_take] <;> omega) (by rw [← hht_74.out]; simp [List.map_take])
                        have Mt_74_p524 := Lib.hid mt_74_p524
                        have Qt_74_p524 := Lib.hid qt_74_p524
                        have Nt_74_p524 : Hid (t_74.length ≤ 9223372036854775807) := Lib.hid (by have h_ := own_max Oout_6l0.out; rw [← hht_74.out, List.length_take] <;> omega)
                        obtain ⟨At_81_p525, ct_81_p525, rt_81_p525, mt_81_p525, qt_81_p525⟩ := Go.Proofs.YtgimcnpkngpmiaaGreatDoor.GoD.slice_view (P := Tryz.prog) (t := 30) (e := 9) (k := .i64) (lo := k_9l2) (ys := (t_81.map Value.string)) (m := t_81.length) (by kernel_rfl) (by kernel_rfl) hi_9 hz1_9 Oout_6l0.out (by have h_ := hgt_81.out; omega) (by rw [← hht_81.out, List.length_drop] <;> omega) (by rw [← hht_81.out]; simp [List.map_drop])
                        have Mt_81_p525 := Lib.hid mt_81_p525
                        have Qt_81_p525 := Lib.hid qt_81_p525
                        have Nt_81_p525 : Hid (t_81.length ≤ 9223372036854775807) := Lib.hid (by have h_ := own_max Oout_6l0.out; rw [← hht_81.out, List.length_drop] <;> omega)
                        obtain ⟨w_t_71_p526, hw_t_71_p526⟩ : ∃ x, wr2.drew.alloc (.cells #[] 9) = x := ⟨_, rfl⟩
                        have bw_t_71_p526 : Below wr2.drew.heap.size wr2.drew w_t_71_p526 := by rw [← hw_t_71_p526]; exact (Below.refl _ _).alloc (Nat.le_refl _) _
                        have Ot_71_p526 : Hid (w_t_71_p526.ownsRow w.heap.size 9 1 (.slice (some ⟨wr2.heap.size, 0, none⟩) 0 0) 0 []) := Lib.hid (by rw [← hw_t_71_p526]; exact own_empty HBwr2.drew.out.size)
                        have Dt_71_out_6l0_p526 := Lib.hid (apart_fresh Oout_6l0.out)
                        have HBw_t_71_p526 := Lib.hid (Below.step HBwr2.drew.out bw_t_71_p526)
                        have Oout_6l0_p526 := Lib.hid (own_below Oout_6l0.out bw_t_71_p526)
                        obtain ⟨w_t_77_p531, hw_t_77_p531⟩ : ∃ x, w_t_71_p526.alloc (.cells #[.string t_22_town] 9) = x := ⟨_, rfl⟩
                        have bw_t_77_p531 : Below w_t_71_p526.heap.size w_t_71_p526 w_t_77_p531 := by rw [← hw_t_77_p531]; exact (Below.refl _ _).alloc (Nat.le_refl _) _
                        have Ot_77_p531 : Hid (w_t_77_p531.ownsRow w.heap.size 9 1 (.slice (some ⟨w_t_71_p526.heap.size, 0, none⟩) 1 1) 1 [.string t_22_town]) := Lib.hid (by rw [← hw_t_77_p531]; exact own_laid (n := 1) HBw_t_71_p526.out.size (rfl : ([.string t_22_town] : List Value) = [.string t_22_town]) rfl (by unfold maxLen; omega))
                        have Dt_77_out_6l0_p531 := Lib.hid (apart_fresh Oout_6l0_p526.out)
                        have Dt_77_t_71_p531 := Lib.hid (apart_fresh Ot_71_p526.out)
                        have HBw_t_77_p531 := Lib.hid (Below.step HBw_t_71_p526.out bw_t_77_p531)
                        have Oout_6l0_p526_p531 := Lib.hid (own_below Oout_6l0_p526.out bw_t_77_p531)
                        have Ot_71_p526_p531 := Lib.hid (own_below Ot_71_p526.out bw_t_77_p531)
                        obtain ⟨w_t_77_p535, hw_t_77_p535⟩ : ∃ x, wr2.drew.alloc (.cells #[.string t_22_town] 9) = x := ⟨_, rfl⟩
                        have bw_t_77_p535 : Below wr2.drew.heap.size wr2.drew w_t_77_p535 := by rw [← hw_t_77_p535]; exact (Below.refl _ _).alloc (Nat.le_refl _) _
                        have Ot_77_p535 : Hid (w_t_77_p535.ownsRow w.heap.size 9 1 (.slice (some ⟨wr2.heap.size, 0, none⟩) 1 1) 1 [.string t_22_town]) := Lib.hid (by rw [← hw_t_77_p535]; exact own_laid (n := 1) HBwr2.drew.out.size (rfl : ([.string t_22_town] : List Value) = [.string t_22_town]) rfl (by unfold maxLen; omega))
                        have Dt_77_out_6l0_p535 := Lib.hid (apart_fresh Oout_6l0.out)
                        have HBw_t_77_p535 := Lib.hid (Below.step HBwr2.drew.out bw_t_77_p535)
                        have Oout_6l0_p535 := Lib.hid (own_below Oout_6l0.out bw_t_77_p535)
                        obtain ⟨w_t_71_p536, hw_t_71_p536⟩ : ∃ x, w_t_77_p535.alloc (.cells #[] 9) = x := ⟨_, rfl⟩
                        have bw_t_71_p536 : Below w_t_77_p535.heap.size w_t_77_p535 w_t_71_p536 := by rw [← hw_t_71_p536]; exact (Below.refl _ _).alloc (Nat.le_refl _) _
                        have Ot_71_p536 : Hid (w_t_71_p536.ownsRow w.heap.size 9 1 (.slice (some ⟨w_t_77_p535.heap.size, 0, none⟩) 0 0) 0 []) := Lib.hid (by rw [← hw_t_71_p536]; exact own_empty HBw_t_77_p535.out.size)
                        have Dt_71_out_6l0_p536 := Lib.hid (apart_fresh Oout_6l0_p535.out)
                        have Dt_71_t_77_p536 := Lib.hid (apart_fresh Ot_77_p535.out)
                        have HBw_t_71_p536 := Lib.hid (Below.step HBw_t_77_p535.out bw_t_71_p536)
                        have Oout_6l0_p535_p536 := Lib.hid (own_below Oout_6l0_p535.out bw_t_71_p536)
                        have Ot_77_p535_p536 := Lib.hid (own_below Ot_77_p535.out bw_t_71_p536)
                        go_region_held3 (fun w' => Hid (0 ≤ w'.heap.size)) (first | exact Lib.hid (Nat.zero_le _))
                            (first
                              | (have hst_75_p527 := HBw_t_71_p526.out.size
                                 have Ct_75_p527 := Lib.hid ((Mt_74_p524.out _ Oout_6l0_p526.out))
                                 have h1t_75_p527 : 0 + t_74.length ≤ maxLen := by have h_ := hlt_75; simp only [List.length_nil] at h_; unfold maxLen; omega
                                 have h2t_75_p527 : (0 + t_74.length) * 16 ≤ 140737488355328 := by have h_ := hlt_75; simp only [List.length_nil] at h_; omega
                                 refine Go.Proofs.YtgimcnpkngpmiaaGreatDoor.GoH.step_spread_own (w := w_t_71_p526) rfl (.tmp 72) (.tmp 75) 30 rfl w.heap.size 9 i0_9 (.string ByteArray.empty) 1 16 Tryz.underlying30 hi_9 hz0_9 hz1_9 hz2_9 rfl (by decide) (some ⟨wr2.heap.size, 0, none⟩) 0 0 _ rfl Ot_71_p526.out At_74_p524 t_74.length ct_74_p524 (t_74.map Value.string) rfl Qt_74_p524.out Ct_75_p527.out (fun u hu => by obtain ⟨y_, _, rfl⟩ := List.mem_map.1 hu; rfl) h1t_75_p527 h2t_75_p527 hst_75_p527 ?_
                                 intro vt_75_p527 wt_75_p527 ot_75_p527 gt_75_p527 yt_75_p527
                                 obtain ⟨At_75_p527, ct_75_p527, rfl, pt_75_p527⟩ := own_pushS (f := (fun z => z.map Value.string)) hht_75.out (by simp) rfl ot_75_p527
                                 have Pt_75_p527 := Lib.hid pt_75_p527
                                 have Yt_75_p527 := Lib.hid yt_75_p527
                                 have Gt_75_p527 := Lib.hid gt_75_p527
                                 have HBwt_75_p527 := Lib.hid (HBw_t_71_p526.out.grown Gt_75_p527.out hst_75_p527 (fun q hq => (Ot_71_p526.out.lt q hq).1))
                                 have Dt_75_out_6l0_p527 : Hid (Apart At_75_p527 _) := Lib.hid (apart_app Dt_71_out_6l0_p526.out (fun a_ ha_ => (own_lt Oout_6l0_p526.out a_ ha_).2) Yt_75_p527.out)
                                 have Oout_6l0_p526_p527 := Lib.hid (own_other Oout_6l0_p526.out Gt_75_p527.out Dt_71_out_6l0_p526.out)
                                 obtain ⟨w_t_77_p528, hw_t_77_p528⟩ : ∃ x, wt_75_p527.alloc (.cells #[.string t_22_town] 9) = x := ⟨_, rfl⟩
                                 have bw_t_77_p528 : Below wt_75_p527.heap.size wt_75_p527 w_t_77_p528 := by rw [← hw_t_77_p528]; exact (Below.refl _ _).alloc (Nat.le_refl _) _
                                 have Ot_77_p528 : Hid (w_t_77_p528.ownsRow w.heap.size 9 1 (.slice (some ⟨wt_75_p527.heap.size, 0, none⟩) 1 1) 1 [.string t_22_town]) := Lib.hid (by rw [← hw_t_77_p528]; exact own_laid (n := 1) HBwt_75_p527.out.size (rfl : ([.string t_22_town] : List Value) = [.string t_22_town]) rfl (by unfold maxLen; omega))
                                 have Dt_77_out_6l0_p528 := Lib.hid (apart_fresh Oout_6l0_p526_p527.out)
                                 have Dt_77_t_75_p528 := Lib.hid (apart_fresh Pt_75_p527.out)
                                 have HBw_t_77_p528 := Lib.hid (Below.step HBwt_75_p527.out bw_t_77_p528)
                                 have Oout_6l0_p526_p527_p528 := Lib.hid (own_below Oout_6l0_p526_p527.out bw_t_77_p528)
                                 have Pt_75_p527_p528 := Lib.hid (own_below Pt_75_p527.out bw_t_77_p528))
                              | (have hst_78_p529 := HBw_t_77_p528.out.size
                                 have h1t_78_p529 : t_75.length + 1 ≤ maxLen := by unfold maxLen; omega
                                 have h2t_78_p529 : (t_75.length + 1) * 16 ≤ 140737488355328 := by omega
                                 have h3t_78_p529 := Ot_77_p528.out.cells rfl
                                 refine Go.Proofs.YtgimcnpkngpmiaaGreatDoor.GoH.step_append_own (w := w_t_77_p528) rfl (.tmp 76) (.tmp 78) 30 rfl w.heap.size 9 i0_9 (.string ByteArray.empty) 1 16 Tryz.underlying30 hi_9 hz0_9 hz1_9 hz2_9 rfl (by decide) At_75_p527 ct_75_p527 t_75.length _ rfl Pt_75_p527_p528.out ⟨wt_75_p527.heap.size, 0, none⟩ 1 [.string t_22_town] rfl rfl h3t_78_p529 (one_cells rfl) h1t_78_p529 h2t_78_p529 hst_78_p529 ?_
                                 intro vt_78_p529 wt_78_p529 ot_78_p529 gt_78_p529 yt_78_p529
                                 obtain ⟨qt_78_p529, ct_78_p529, rfl, pt_78_p529⟩ := own_push hht_78.out (by simp) rfl ot_78_p529
                                 have Pt_78_p529 := Lib.hid pt_78_p529
                                 have Yt_78_p529 := Lib.hid yt_78_p529
                                 have Gt_78_p529 := Lib.hid gt_78_p529
                                 have HBwt_78_p529 := Lib.hid (HBw_t_77_p528.out.grown Gt_78_p529.out hst_78_p529 (fun q hq => (Pt_75_p527_p528.out.lt q hq).1))
                                 have Dt_78_out_6l0_p529 : Hid (Apart (some ⟨qt_78_p529, 0, none⟩) _) := Lib.hid (apart_app Dt_75_out_6l0_p527.out (fun a_ ha_ => (own_lt Oout_6l0_p526_p527_p528.out a_ ha_).2) Yt_78_p529.out)
                                 have Dt_78_t_77_p529 : Hid (Apart (some ⟨qt_78_p529, 0, none⟩) _) := Lib.hid (apart_app (Apart.symm Dt_77_t_75_p528.out) (fun a_ ha_ => (own_lt Ot_77_p528.out a_ ha_).2) Yt_78_p529.out)
                                 have Oout_6l0_p526_p527_p528_p529 := Lib.hid (own_other Oout_6l0_p526_p527_p528.out Gt_78_p529.out Dt_75_out_6l0_p527.out)
                                 have Ot_77_p528_p529 := Lib.hid (own_other Ot_77_p528.out Gt_78_p529.out (Apart.symm Dt_77_t_75_p528.out)))
                              | (have hst_82_p530 := HBwt_78_p529.out.size
                                 have Ct_82_p530 := Lib.hid ((Mt_81_p525.out _ Oout_6l0_p526_p527_p528_p529.out))
                                 have h1t_82_p530 : t_78.length + t_81.length ≤ maxLen := by have h_ := hlt_82; unfold maxLen; omega
                                 have h2t_82_p530 : (t_78.length + t_81.length) * 16 ≤ 140737488355328 := by have h_ := hlt_82; omega
                                 refine Go.Proofs.YtgimcnpkngpmiaaGreatDoor.GoH.step_spread_own (w := wt_78_p529) rfl (.tmp 79) (.tmp 82) 30 rfl w.heap.size 9 i0_9 (.string ByteArray.empty) 1 16 Tryz.underlying30 hi_9 hz0_9 hz1_9 hz2_9 rfl (by decide) (some ⟨qt_78_p529, 0, none⟩) ct_78_p529 t_78.length _ rfl Pt_78_p529.out At_81_p525 t_81.length ct_81_p525 (t_81.map Value.string) rfl Qt_81_p525.out Ct_82_p530.out (fun u hu => by obtain ⟨y_, _, rfl⟩ := List.mem_map.1 hu; rfl) h1t_82_p530 h2t_82_p530 hst_82_p530 ?_
                                 intro vt_82_p530 wt_82_p530 ot_82_p530 gt_82_p530 yt_82_p530
                                 obtain ⟨At_82_p530, ct_82_p530, rfl, pt_82_p530⟩ := own_pushS (f := (fun z => z.map Value.string)) hht_82.out (by simp) rfl ot_82_p530
                                 have Pt_82_p530 := Lib.hid pt_82_p530
                                 have Yt_82_p530 := Lib.hid yt_82_p530
                                 have Gt_82_p530 := Lib.hid gt_82_p530
                                 have HBwt_82_p530 := Lib.hid (HBwt_78_p529.out.grown Gt_82_p530.out hst_82_p530 (fun q hq => (Pt_78_p529.out.lt q hq).1))
                                 have Dt_82_out_6l0_p530 : Hid (Apart At_82_p530 _) := Lib.hid (apart_app Dt_78_out_6l0_p529.out (fun a_ ha_ => (own_lt Oout_6l0_p526_p527_p528_p529.out a_ ha_).2) Yt_82_p530.out)
                                 have Oout_6l0_p526_p527_p528_p529_p530 := Lib.hid (own_other Oout_6l0_p526_p527_p528_p529.out Gt_82_p530.out Dt_78_out_6l0_p529.out))
                              | (have hst_75_p532 := HBw_t_77_p531.out.size
                                 have Ct_75_p532 := Lib.hid ((Mt_74_p524.out _ Oout_6l0_p526_p531.out))
                                 have h1t_75_p532 : 0 + t_74.length ≤ maxLen := by have h_ := hlt_75; simp only [List.length_nil] at h_; unfold maxLen; omega
                                 have h2t_75_p532 : (0 + t_74.length) * 16 ≤ 140737488355328 := by have h_ := hlt_75; simp only [List.length_nil] at h_; omega
                                 refine Go.Proofs.YtgimcnpkngpmiaaGreatDoor.GoH.step_spread_own (w := w_t_77_p531) rfl (.tmp 72) (.tmp 75) 30 rfl w.heap.size 9 i0_9 (.string ByteArray.empty) 1 16 Tryz.underlying30 hi_9 hz0_9 hz1_9 hz2_9 rfl (by decide) (some ⟨wr2.heap.size, 0, none⟩) 0 0 _ rfl Ot_71_p526_p531.out At_74_p524 t_74.length ct_74_p524 (t_74.map Value.string) rfl Qt_74_p524.out Ct_75_p532.out (fun u hu => by obtain ⟨y_, _, rfl⟩ := List.mem_map.1 hu; rfl) h1t_75_p532 h2t_75_p532 hst_75_p532 ?_
                                 intro vt_75_p532 wt_75_p532 ot_75_p532 gt_75_p532 yt_75_p532
                                 obtain ⟨At_75_p532, ct_75_p532, rfl, pt_75_p532⟩ := own_pushS (f := (fun z => z.map Value.string)) hht_75.out (by simp) rfl ot_75_p532
                                 have Pt_75_p532 := Lib.hid pt_75_p532
                                 have Yt_75_p532 := Lib.hid yt_75_p532
                                 have Gt_75_p532 := Lib.hid gt_75_p532
                                 have HBwt_75_p532 := Lib.hid (HBw_t_77_p531.out.grown Gt_75_p532.out hst_75_p532 (fun q hq => (Ot_71_p526_p531.out.lt q hq).1))
                                 have Dt_75_out_6l0_p532 : Hid (Apart At_75_p532 _) := Lib.hid (apart_app Dt_71_out_6l0_p526.out (fun a_ ha_ => (own_lt Oout_6l0_p526_p531.out a_ ha_).2) Yt_75_p532.out)
                                 have Dt_75_t_77_p532 : Hid (Apart At_75_p532 _) := Lib.hid (apart_app (Apart.symm Dt_77_t_71_p531.out) (fun a_ ha_ => (own_lt Ot_77_p531.out a_ ha_).2) Yt_75_p532.out)
                                 have Oout_6l0_p526_p531_p532 := Lib.hid (own_other Oout_6l0_p526_p531.out Gt_75_p532.out Dt_71_out_6l0_p526.out)
                                 have Ot_77_p531_p532 := Lib.hid (own_other Ot_77_p531.out Gt_75_p532.out (Apart.symm Dt_77_t_71_p531.out)))
                              | (have hst_78_p533 := HBwt_75_p532.out.size
                                 have h1t_78_p533 : t_75.length + 1 ≤ maxLen := by unfold maxLen; omega
                                 have h2t_78_p533 : (t_75.length + 1) * 16 ≤ 140737488355328 := by omega
                                 have h3t_78_p533 := Ot_77_p531_p532.out.cells rfl
                                 refine Go.Proofs.YtgimcnpkngpmiaaGreatDoor.GoH.step_append_own (w := wt_75_p532) rfl (.tmp 76) (.tmp 78) 30 rfl w.heap.size 9 i0_9 (.string ByteArray.empty) 1 16 Tryz.underlying30 hi_9 hz0_9 hz1_9 hz2_9 rfl (by decide) At_75_p532 ct_75_p532 t_75.length _ rfl Pt_75_p532.out ⟨w_t_71_p526.heap.size, 0, none⟩ 1 [.string t_22_town] rfl rfl h3t_78_p533 (one_cells rfl) h1t_78_p533 h2t_78_p533 hst_78_p533 ?_
                                 intro vt_78_p533 wt_78_p533 ot_78_p533 gt_78_p533 yt_78_p533
                                 obtain ⟨qt_78_p533, ct_78_p533, rfl, pt_78_p533⟩ := own_push hht_78.out (by simp) rfl ot_78_p533
                                 have Pt_78_p533 := Lib.hid pt_78_p533
                                 have Yt_78_p533 := Lib.hid yt_78_p533
                                 have Gt_78_p533 := Lib.hid gt_78_p533
                                 have HBwt_78_p533 := Lib.hid (HBwt_75_p532.out.grown Gt_78_p533.out hst_78_p533 (fun q hq => (Pt_75_p532.out.lt q hq).1))
                                 have Dt_78_out_6l0_p533 : Hid (Apart (some ⟨qt_78_p533, 0, none⟩) _) := Lib.hid (apart_app Dt_75_out_6l0_p532.out (fun a_ ha_ => (own_lt Oout_6l0_p526_p531_p532.out a_ ha_).2) Yt_78_p533.out)
                                 have Dt_78_t_77_p533 : Hid (Apart (some ⟨qt_78_p533, 0, none⟩) _) := Lib.hid (apart_app Dt_75_t_77_p532.out (fun a_ ha_ => (own_lt Ot_77_p531_p532.out a_ ha_).2) Yt_78_p533.out)
                                 have Oout_6l0_p526_p531_p532_p533 := Lib.hid (own_other Oout_6l0_p526_p531_p532.out Gt_78_p533.out Dt_75_out_6l0_p532.out)
                                 have Ot_77_p531_p532_p533 := Lib.hid (own_other Ot_77_p531_p532.out Gt_78_p533.out Dt_75_t_77_p532.out))
                              | (have hst_82_p534 := HBwt_78_p533.out.size
                                 have Ct_82_p534 := Lib.hid ((Mt_81_p525.out _ Oout_6l0_p526_p531_p532_p533.out))
                                 have h1t_82_p534 : t_78.length + t_81.length ≤ maxLen := by have h_ := hlt_82; unfold maxLen; omega
                                 have h2t_82_p534 : (t_78.length + t_81.length) * 16 ≤ 140737488355328 := by have h_ := hlt_82; omega
                                 refine Go.Proofs.YtgimcnpkngpmiaaGreatDoor.GoH.step_spread_own (w := wt_78_p533) rfl (.tmp 79) (.tmp 82) 30 rfl w.heap.size 9 i0_9 (.string ByteArray.empty) 1 16 Tryz.underlying30 hi_9 hz0_9 hz1_9 hz2_9 rfl (by decide) (some ⟨qt_78_p533, 0, none⟩) ct_78_p533 t_78.length _ rfl Pt_78_p533.out At_81_p525 t_81.length ct_81_p525 (t_81.map Value.string) rfl Qt_81_p525.out Ct_82_p534.out (fun u hu => by obtain ⟨y_, _, rfl⟩ := List.mem_map.1 hu; rfl) h1t_82_p534 h2t_82_p534 hst_82_p534 ?_
                                 intro vt_82_p534 wt_82_p534 ot_82_p534 gt_82_p534 yt_82_p534
                                 obtain ⟨At_82_p534, ct_82_p534, rfl, pt_82_p534⟩ := own_pushS (f := (fun z => z.map Value.string)) hht_82.out (by simp) rfl ot_82_p534
                                 have Pt_82_p534 := Lib.hid pt_82_p534
                                 have Yt_82_p534 := Lib.hid yt_82_p534
                                 have Gt_82_p534 := Lib.hid gt_82_p534
                                 have HBwt_82_p534 := Lib.hid (HBwt_78_p533.out.grown Gt_82_p534.out hst_82_p534 (fun q hq => (Pt_78_p533.out.lt q hq).1))
                                 have Dt_82_out_6l0_p534 : Hid (Apart At_82_p534 _) := Lib.hid (apart_app Dt_78_out_6l0_p533.out (fun a_ ha_ => (own_lt Oout_6l0_p526_p531_p532_p533.out a_ ha_).2) Yt_82_p534.out)
                                 have Oout_6l0_p526_p531_p532_p533_p534 := Lib.hid (own_other Oout_6l0_p526_p531_p532_p533.out Gt_82_p534.out Dt_78_out_6l0_p533.out))
                              | (have hst_75_p537 := HBw_t_71_p536.out.size
                                 have Ct_75_p537 := Lib.hid ((Mt_74_p524.out _ Oout_6l0_p535_p536.out))
                                 have h1t_75_p537 : 0 + t_74.length ≤ maxLen := by have h_ := hlt_75; simp only [List.length_nil] at h_; unfold maxLen; omega
                                 have h2t_75_p537 : (0 + t_74.length) * 16 ≤ 140737488355328 := by have h_ := hlt_75; simp only [List.length_nil] at h_; omega
                                 refine Go.Proofs.YtgimcnpkngpmiaaGreatDoor.GoH.step_spread_own (w := w_t_71_p536) rfl (.tmp 72) (.tmp 75) 30 rfl w.heap.size 9 i0_9 (.string ByteArray.empty) 1 16 Tryz.underlying30 hi_9 hz0_9 hz1_9 hz2_9 rfl (by decide) (some ⟨w_t_77_p535.heap.size, 0, none⟩) 0 0 _ rfl Ot_71_p536.out At_74_p524 t_74.length ct_74_p524 (t_74.map Value.string) rfl Qt_74_p524.out Ct_75_p537.out (fun u hu => by obtain ⟨y_, _, rfl⟩ := List.mem_map.1 hu; rfl) h1t_75_p537 h2t_75_p537 hst_75_p537 ?_
                                 intro vt_75_p537 wt_75_p537 ot_75_p537 gt_75_p537 yt_75_p537
                                 obtain ⟨At_75_p537, ct_75_p537, rfl, pt_75_p537⟩ := own_pushS (f := (fun z => z.map Value.string)) hht_75.out (by simp) rfl ot_75_p537
                                 have Pt_75_p537 := Lib.hid pt_75_p537
                                 have Yt_75_p537 := Lib.hid yt_75_p537
                                 have Gt_75_p537 := Lib.hid gt_75_p537
                                 have HBwt_75_p537 := Lib.hid (HBw_t_71_p536.out.grown Gt_75_p537.out hst_75_p537 (fun q hq => (Ot_71_p536.out.lt q hq).1))
                                 have Dt_75_out_6l0_p537 : Hid (Apart At_75_p537 _) := Lib.hid (apart_app Dt_71_out_6l0_p536.out (fun a_ ha_ => (own_lt Oout_6l0_p535_p536.out a_ ha_).2) Yt_75_p537.out)
                                 have Dt_75_t_77_p537 : Hid (Apart At_75_p537 _) := Lib.hid (apart_app Dt_71_t_77_p536.out (fun a_ ha_ => (own_lt Ot_77_p535_p536.out a_ ha_).2) Yt_75_p537.out)
                                 have Oout_6l0_p535_p536_p537 := Lib.hid (own_other Oout_6l0_p535_p536.out Gt_75_p537.out Dt_71_out_6l0_p536.out)
                                 have Ot_77_p535_p536_p537 := Lib.hid (own_other Ot_77_p535_p536.out Gt_75_p537.out Dt_71_t_77_p536.out))
                              | (have hst_78_p538 := HBwt_75_p537.out.size
                                 have h1t_78_p538 : t_75.length + 1 ≤ maxLen := by unfold maxLen; omega
                                 have h2t_78_p538 : (t_75.length + 1) * 16 ≤ 140737488355328 := by omega
                                 have h3t_78_p538 := Ot_77_p535_p536_p537.out.cells rfl
                                 refine Go.Proofs.YtgimcnpkngpmiaaGreatDoor.GoH.step_append_own (w := wt_75_p537) rfl (.tmp 76) (.tmp 78) 30 rfl w.heap.size 9 i0_9 (.string ByteArray.empty) 1 16 Tryz.underlying30 hi_9 hz0_9 hz1_9 hz2_9 rfl (by decide) At_75_p537 ct_75_p537 t_75.length _ rfl Pt_75_p537.out ⟨wr2.heap.size, 0, none⟩ 1 [.string t_22_town] rfl rfl h3t_78_p538 (one_cells rfl) h1t_78_p538 h2t_78_p538 hst_78_p538 ?_
                                 intro vt_78_p538 wt_78_p538 ot_78_p538 gt_78_p538 yt_78_p538
                                 obtain ⟨qt_78_p538, ct_78_p538, rfl, pt_78_p538⟩ := own_push hht_78.out (by simp) rfl ot_78_p538
                                 have Pt_78_p538 := Lib.hid pt_78_p538
                                 have Yt_78_p538 := Lib.hid yt_78_p538
                                 have Gt_78_p538 := Lib.hid gt_78_p538
                                 have HBwt_78_p538 := Lib.hid (HBwt_75_p537.out.grown Gt_78_p538.out hst_78_p538 (fun q hq => (Pt_75_p537.out.lt q hq).1))
                                 have Dt_78_out_6l0_p538 : Hid (Apart (some ⟨qt_78_p538, 0, none⟩) _) := Lib.hid (apart_app Dt_75_out_6l0_p537.out (fun a_ ha_ => (own_lt Oout_6l0_p535_p536_p537.out a_ ha_).2) Yt_78_p538.out)
                                 have Dt_78_t_77_p538 : Hid (Apart (some ⟨qt_78_p538, 0, none⟩) _) := Lib.hid (apart_app Dt_75_t_77_p537.out (fun a_ ha_ => (own_lt Ot_77_p535_p536_p537.out a_ ha_).2) Yt_78_p538.out)
                                 have Oout_6l0_p535_p536_p537_p538 := Lib.hid (own_other Oout_6l0_p535_p536_p537.out Gt_78_p538.out Dt_75_out_6l0_p537.out)
                                 have Ot_77_p535_p536_p537_p538 := Lib.hid (own_other Ot_77_p535_p536_p537.out Gt_78_p538.out Dt_75_t_77_p537.out))
                              | (have hst_82_p539 := HBwt_78_p538.out.size
                                 have Ct_82_p539 := Lib.hid ((Mt_81_p525.out _ Oout_6l0_p535_p536_p537_p538.out))
                                 have h1t_82_p539 : t_78.length + t_81.length ≤ maxLen := by have h_ := hlt_82; unfold maxLen; omega
                                 have h2t_82_p539 : (t_78.length + t_81.length) * 16 ≤ 140737488355328 := by have h_ := hlt_82; omega
                                 refine Go.Proofs.YtgimcnpkngpmiaaGreatDoor.GoH.step_spread_own (w := wt_78_p538) rfl (.tmp 79) (.tmp 82) 30 rfl w.heap.size 9 i0_9 (.string ByteArray.empty) 1 16 Tryz.underlying30 hi_9 hz0_9 hz1_9 hz2_9 rfl (by decide) (some ⟨qt_78_p538, 0, none⟩) ct_78_p538 t_78.length _ rfl Pt_78_p538.out At_81_p525 t_81.length ct_81_p525 (t_81.map Value.string) rfl Qt_81_p525.out Ct_82_p539.out (fun u hu => by obtain ⟨y_, _, rfl⟩ := List.mem_map.1 hu; rfl) h1t_82_p539 h2t_82_p539 hst_82_p539 ?_
                                 intro vt_82_p539 wt_82_p539 ot_82_p539 gt_82_p539 yt_82_p539
                                 obtain ⟨At_82_p539, ct_82_p539, rfl, pt_82_p539⟩ := own_pushS (f := (fun z => z.map Value.string)) hht_82.out (by simp) rfl ot_82_p539
                                 have Pt_82_p539 := Lib.hid pt_82_p539
                                 have Yt_82_p539 := Lib.hid yt_82_p539
                                 have Gt_82_p539 := Lib.hid gt_82_p539
                                 have HBwt_82_p539 := Lib.hid (HBwt_78_p538.out.grown Gt_82_p539.out hst_82_p539 (fun q hq => (Pt_78_p538.out.lt q hq).1))
                                 have Dt_82_out_6l0_p539 : Hid (Apart At_82_p539 _) := Lib.hid (apart_app Dt_78_out_6l0_p538.out (fun a_ ha_ => (own_lt Oout_6l0_p535_p536_p537_p538.out a_ ha_).2) Yt_82_p539.out)
                                 have Oout_6l0_p535_p536_p537_p538_p539 := Lib.hid (own_other Oout_6l0_p535_p536_p537_p538.out Gt_82_p539.out Dt_78_out_6l0_p538.out)))
                        · skip
                          replace H := app_hid H
                          go_wp2_with fail
                          go_roundg m0
                          case measure => omega
                          case rel => exact ⟨k0 + 1, _, _, _, by omega, by go_num, rfl, H, HBwt_82_p530, Pt_82_p530⟩
                        · skip
                          replace H := app_hid H
                          go_wp2_with fail
                          go_roundg m0
                          case measure => omega
                          case rel => exact ⟨k0 + 1, _, _, _, by omega, by go_num, rfl, H, HBwt_82_p534, Pt_82_p534⟩
                        · skip
                          replace H := app_hid H
                          go_wp2_with fail
                          go_roundg m0
                          case measure => omega
                          case rel => exact ⟨k0 + 1, _, _, _, by omega, by go_num, rfl, H, HBwt_82_p539, Pt_82_p539⟩
                      | true =>
                        replace H := let_hid H
                        obtain ⟨t_70, ht_70, H⟩ := H
                        obtain rfl : t_70 = false := ht_70.symm
                        replace H := ite_f H
                        replace H := app_hid H
                        go_wp2_with fail
                        go_roundg m0
                        case measure => omega
                        case rel => exact ⟨k0 + 1, _, _, _, by omega, by go_num, rfl, H, HBwr2, Oout_6l0⟩
                    | true =>
                      replace H := ite_t H
                      replace H := let_hid H
                      obtain ⟨t_61, ht_61, H⟩ := H
                      replace H := idx_hid H
                      obtain ⟨nt_62, yt_62, et_62, lt_62, gt_62, H⟩ := H
                      subst et_62
                      obtain ⟨qt_62, Qt_62⟩ := own_some Oout_6l0.out (by omega)
                      subst Qt_62
                      obtain ⟨ab_t_62, ao_t_62, zt_62, At_62, z_t_62, ct_62_0⟩ := strs_at (own_cells Oout_6l0.out) (k := nt_62) (by omega)
                      obtain rfl := Option.some.inj (gt_62.out.symm.trans z_t_62)
                      simp only [Option.some.injEq, Addr.mk.injEq] at At_62
                      obtain ⟨rfl, rfl, _⟩ := At_62
                      clear z_t_62
                      simp only [Nat.zero_add] at ct_62_0
                      have b0t_62 : (0 : Int) ≤ (nt_62 : Int) := by omega
                      have b1t_62 : (nt_62 : Int) < ((out_6l0.length : Nat) : Int) := by omega
                      have b2t_62 : ((nt_62 : Int)).toNat = nt_62 := by omega
                      replace H := let_hid H
                      obtain ⟨t_64, ht_64, H⟩ := H
                      replace H := app_hid H
                      cases t_64 with
                      | false =>
                        replace H := ite_f H
                        replace H := app_hid H
                        unfold e2 at H
                        replace H := let_hid H
                        obtain ⟨_, rfl, H⟩ := H
                        cases known_10l1 with
                        | false =>
                          replace H := let_hid H
                          obtain ⟨t_70, ht_70, H⟩ := H
                          obtain rfl : t_70 = true := ht_70.symm
                          replace H := ite_t H
                          go_wp2_with fail
                          have bd17 : Below wr2.heap.size wr2 wr2.drew := (Below.refl _ _).drew
                          have HBwr2.drew := Lib.hid (Below.step HBwr2.out bd17)
                          replace ct_62_0 := cell_below bd17 ct_62_0
                          replace Oout_6l0 := Lib.hid (own_below Oout_6l0.out bd17)
                          clear bd17
                          replace H := guard_hid H
                          obtain ⟨hl_t_74, H⟩ := H
                          replace H := let_hid H
                          obtain ⟨t_74, ht_74, H⟩ := H
                          have hht_74 := Lib.hid ht_74
                          have hgt_74 := Lib.hid hl_t_74
                          clear ht_74
                          clear hl_t_74
                          replace H := guard_hid H
                          obtain ⟨hlt_75, H⟩ := H
                          replace H := let_hid H
                          obtain ⟨t_75, ht_75, H⟩ := H
                          have hht_75 := Lib.hid ht_75
                          clear ht_75
                          replace H := guard_hid H
                          obtain ⟨hlt_78, H⟩ := H
                          replace H := let_hid H
                          obtain ⟨t_78, ht_78, H⟩ := H
                          have hht_78 := Lib.hid ht_78
                          clear ht_78
                          replace H := guard_hid H
                          obtain ⟨hl_t_81, H⟩ := H
                          replace H := let_hid H
                          obtain ⟨t_81, ht_81, H⟩ := H
                          have hht_81 := Lib.hid ht_81
                          have hgt_81 := Lib.hid hl_t_81
                          clear ht_81
                          clear hl_t_81
                          replace H := guard_hid H
                          obtain ⟨hlt_82, H⟩ := H
                          replace H := let_hid H
                          obtain ⟨t_82, ht_82, H⟩ := H
                          have hht_82 := Lib.hid ht_82
                          clear ht_82
                          obtain ⟨At_74_p542, ct_74_p542, rt_74_p542, mt_74_p542, qt_74_p542⟩ := Go.Proofs.YtgimcnpkngpmiaaGreatDoor.GoD.slice_viewH (P := Tryz.prog) (t := 30) (e := 9) (k := .i64) (ys := (t_74.map Value.string)) (m := t_74.length) (by kernel_rfl) (by kernel_rfl) hi_9 hz1_9 Oout_6l0.out (by have h_ := hgt_74.out; omega) (by have h_ := hgt_74.out; rw [← hht_74.out, List.length_take] <;> omega) (by rw [← hht_74.out]; simp [List.map_take])
                          have Mt_74_p542 := Lib.hid mt_74_p542
                          have Qt_74_p542 := Lib.hid qt_74_p542
                          have Nt_74_p542 : Hid (t_74.length ≤ 9223372036854775807) := Lib.hid (by have h_ := own_max Oout_6l0.out; rw [← hht_74.out, List.length_take] <;> omega)
                          obtain ⟨At_81_p543, ct_81_p543, rt_81_p543, mt_81_p543, qt_81_p543⟩ := Go.Proofs.YtgimcnpkngpmiaaGreatDoor.GoD.slice_view (P := Tryz.prog) (t := 30) (e := 9) (k := .i64) (lo := k_9l2) (ys := (t_81.map Value.string)) (m := t_81.length) (by kernel_rfl) (by kernel_rfl) hi_9 hz1_9 Oout_6l0.out (by have h_ := hgt_81.out; omega) (by rw [← hht_81.out, List.length_drop] <;> omega) (by rw [← hht_81.out]; simp [List.map_drop])
                          have Mt_81_p543 := Lib.hid mt_81_p543
                          have Qt_81_p543 := Lib.hid qt_81_p543
                          have Nt_81_p543 : Hid (t_81.length ≤ 9223372036854775807) := Lib.hid (by have h_ := own_max Oout_6l0.out; rw [← hht_81.out, List.length_drop] <;> omega)
                          obtain ⟨w_t_71_p545, hw_t_71_p545⟩ : ∃ x, wr2.drew.alloc (.cells #[] 9) = x := ⟨_, rfl⟩
                          have bw_t_71_p545 : Below wr2.drew.heap.size wr2.drew w_t_71_p545 := by rw [← hw_t_71_p545]; exact (Below.refl _ _).alloc (Nat.le_refl _) _
                          have Ot_71_p545 : Hid (w_t_71_p545.ownsRow w.heap.size 9 1 (.slice (some ⟨wr2.heap.size, 0, none⟩) 0 0) 0 []) := Lib.hid (by rw [← hw_t_71_p545]; exact own_empty HBwr2.drew.out.size)
                          have Dt_71_out_6l0_p545 := Lib.hid (apart_fresh Oout_6l0.out)
                          have HBw_t_71_p545 := Lib.hid (Below.step HBwr2.drew.out bw_t_71_p545)
                          have ct_62_0__544_p545 := cell_below bw_t_71_p545 ct_62_0
                          have Oout_6l0_p545 := Lib.hid (own_below Oout_6l0.out bw_t_71_p545)
                          obtain ⟨w_t_77_p552, hw_t_77_p552⟩ : ∃ x, w_t_71_p545.alloc (.cells #[.string t_22_town] 9) = x := ⟨_, rfl⟩
                          have bw_t_77_p552 : Below w_t_71_p545.heap.size w_t_71_p545 w_t_77_p552 := by rw [← hw_t_77_p552]; exact (Below.refl _ _).alloc (Nat.le_refl _) _
                          have Ot_77_p552 : Hid (w_t_77_p552.ownsRow w.heap.size 9 1 (.slice (some ⟨w_t_71_p545.heap.size, 0, none⟩) 1 1) 1 [.string t_22_town]) := Lib.hid (by rw [← hw_t_77_p552]; exact own_laid (n := 1) HBw_t_71_p545.out.size (rfl : ([.string t_22_town] : List Value) = [.string t_22_town]) rfl (by unfold maxLen; omega))
                          have Dt_77_out_6l0_p552 := Lib.hid (apart_fresh Oout_6l0_p545.out)
                          have Dt_77_t_71_p552 := Lib.hid (apart_fresh Ot_71_p545.out)
                          have HBw_t_77_p552 := Lib.hid (Below.step HBw_t_71_p545.out bw_t_77_p552)
                          have ct_62_0__551_p552 := cell_below bw_t_77_p552 ct_62_0__544_p545
                          have Oout_6l0_p545_p552 := Lib.hid (own_below Oout_6l0_p545.out bw_t_77_p552)
                          have Ot_71_p545_p552 := Lib.hid (own_below Ot_71_p545.out bw_t_77_p552)
                          obtain ⟨w_t_77_p557, hw_t_77_p557⟩ : ∃ x, wr2.drew.alloc (.cells #[.string t_22_town] 9) = x := ⟨_, rfl⟩
                          have bw_t_77_p557 : Below wr2.drew.heap.size wr2.drew w_t_77_p557 := by rw [← hw_t_77_p557]; exact (Below.refl _ _).alloc (Nat.le_refl _) _
                          have Ot_77_p557 : Hid (w_t_77_p557.ownsRow w.heap.size 9 1 (.slice (some ⟨wr2.heap.size, 0, none⟩) 1 1) 1 [.string t_22_town]) := Lib.hid (by rw [← hw_t_77_p557]; exact own_laid (n := 1) HBwr2.drew.out.size (rfl : ([.string t_22_town] : List Value) = [.string t_22_town]) rfl (by unfold maxLen; omega))
                          have Dt_77_out_6l0_p557 := Lib.hid (apart_fresh Oout_6l0.out)
                          have HBw_t_77_p557 := Lib.hid (Below.step HBwr2.drew.out bw_t_77_p557)
                          have ct_62_0__556_p557 := cell_below bw_t_77_p557 ct_62_0
                          have Oout_6l0_p557 := Lib.hid (own_below Oout_6l0.out bw_t_77_p557)
                          obtain ⟨w_t_71_p559, hw_t_71_p559⟩ : ∃ x, w_t_77_p557.alloc (.cells #[] 9) = x := ⟨_, rfl⟩
                          have bw_t_71_p559 : Below w_t_77_p557.heap.size w_t_77_p557 w_t_71_p559 := by rw [← hw_t_71_p559]; exact (Below.refl _ _).alloc (Nat.le_refl _) _
                          have Ot_71_p559 : Hid (w_t_71_p559.ownsRow w.heap.size 9 1 (.slice (some ⟨w_t_77_p557.heap.size, 0, none⟩) 0 0) 0 []) := Lib.hid (by rw [← hw_t_71_p559]; exact own_empty HBw_t_77_p557.out.size)
                          have Dt_71_out_6l0_p559 := Lib.hid (apart_fresh Oout_6l0_p557.out)
                          have Dt_71_t_77_p559 := Lib.hid (apart_fresh Ot_77_p557.out)
                          have HBw_t_71_p559 := Lib.hid (Below.step HBw_t_77_p557.out bw_t_71_p559)
                          have ct_62_0__558_p559 := cell_below bw_t_71_p559 ct_62_0__556_p557
                          have Oout_6l0_p557_p559 := Lib.hid (own_below Oout_6l0_p557.out bw_t_71_p559)
                          have Ot_77_p557_p559 := Lib.hid (own_below Ot_77_p557.out bw_t_71_p559)
                          go_region_held3 (fun w' => w'.cell? ⟨qt_62, nt_62, none⟩ = some (.string yt_62)) (first | exact ct_62_0 | exact ct_62_0__544_p545 | exact ct_62_0__544_p545_p546 | exact ct_62_0__547_p548 | exact ct_62_0__547_p548_p549 | exact ct_62_0__547_p548_p549_p550 | exact ct_62_0__551_p552 | exact ct_62_0__551_p552_p553 | exact ct_62_0__551_p552_p553_p554 | exact ct_62_0__551_p552_p553_p554_p555 | exact ct_62_0__556_p557 | exact ct_62_0__558_p559 | exact ct_62_0__558_p559_p560 | exact ct_62_0__558_p559_p560_p561 | exact ct_62_0__558_p559_p560_p561_p562)
                              (first
                                | (have hst_75_p546 := HBw_t_71_p545.out.size
                                   have Ct_75_p546 := Lib.hid ((Mt_74_p542.out _ Oout_6l0_p545.out))
                                   have h1t_75_p546 : 0 + t_74.length ≤ maxLen := by have h_ := hlt_75; simp only [List.length_nil] at h_; unfold maxLen; omega
                                   have h2t_75_p546 : (0 + t_74.length) * 16 ≤ 140737488355328 := by have h_ := hlt_75; simp only [List.length_nil] at h_; omega
                                   refine Go.Proofs.YtgimcnpkngpmiaaGreatDoor.GoH.step_spread_own (w := w_t_71_p545) rfl (.tmp 72) (.tmp 75) 30 rfl w.heap.size 9 i0_9 (.string ByteArray.empty) 1 16 Tryz.underlying30 hi_9 hz0_9 hz1_9 hz2_9 rfl (by decide) (some ⟨wr2.heap.size, 0, none⟩) 0 0 _ rfl Ot_71_p545.out At_74_p542 t_74.length ct_74_p542 (t_74.map Value.string) rfl Qt_74_p542.out Ct_75_p546.out (fun u hu => by obtain ⟨y_, _, rfl⟩ := List.mem_map.1 hu; rfl) h1t_75_p546 h2t_75_p546 hst_75_p546 ?_
                                   intro vt_75_p546 wt_75_p546 ot_75_p546 gt_75_p546 yt_75_p546
                                   obtain ⟨At_75_p546, ct_75_p546, rfl, pt_75_p546⟩ := own_pushS (f := (fun z => z.map Value.string)) hht_75.out (by simp) rfl ot_75_p546
                                   have Pt_75_p546 := Lib.hid pt_75_p546
                                   have Yt_75_p546 := Lib.hid yt_75_p546
                                   have Gt_75_p546 := Lib.hid gt_75_p546
                                   have HBwt_75_p546 := Lib.hid (HBw_t_71_p545.out.grown Gt_75_p546.out hst_75_p546 (fun q hq => (Ot_71_p545.out.lt q hq).1))
                                   have Dt_75_out_6l0_p546 : Hid (Apart At_75_p546 _) := Lib.hid (apart_app Dt_71_out_6l0_p545.out (fun a_ ha_ => (own_lt Oout_6l0_p545.out a_ ha_).2) Yt_75_p546.out)
                                   have ct_62_0__544_p545_p546 := cell_other ct_62_0__544_p545 Gt_75_p546.out Dt_71_out_6l0_p545.out
                                   have Oout_6l0_p545_p546 := Lib.hid (own_other Oout_6l0_p545.out Gt_75_p546.out Dt_71_out_6l0_p545.out)
                                   obtain ⟨w_t_77_p548, hw_t_77_p548⟩ : ∃ x, wt_75_p546.alloc (.cells #[.string t_22_town] 9) = x := ⟨_, rfl⟩
                                   have bw_t_77_p548 : Below wt_75_p546.heap.size wt_75_p546 w_t_77_p548 := by rw [← hw_t_77_p548]; exact (Below.refl _ _).alloc (Nat.le_refl _) _
                                   have Ot_77_p548 : Hid (w_t_77_p548.ownsRow w.heap.size 9 1 (.slice (some ⟨wt_75_p546.heap.size, 0, none⟩) 1 1) 1 [.string t_22_town]) := Lib.hid (by rw [← hw_t_77_p548]; exact own_laid (n := 1) HBwt_75_p546.out.size (rfl : ([.string t_22_town] : List Value) = [.string t_22_town]) rfl (by unfold maxLen; omega))
                                   have Dt_77_out_6l0_p548 := Lib.hid (apart_fresh Oout_6l0_p545_p546.out)
                                   have Dt_77_t_75_p548 := Lib.hid (apart_fresh Pt_75_p546.out)
                                   have HBw_t_77_p548 := Lib.hid (Below.step HBwt_75_p546.out bw_t_77_p548)
                                   have ct_62_0__547_p548 := cell_below bw_t_77_p548 ct_62_0__544_p545_p546
                                   have Oout_6l0_p545_p546_p548 := Lib.hid (own_below Oout_6l0_p545_p546.out bw_t_77_p548)
                                   have Pt_75_p546_p548 := Lib.hid (own_below Pt_75_p546.out bw_t_77_p548))
                                | (have hst_78_p549 := HBw_t_77_p548.out.size
                                   have h1t_78_p549 : t_75.length + 1 ≤ maxLen := by unfold maxLen; omega
                                   have h2t_78_p549 : (t_75.length + 1) * 16 ≤ 140737488355328 := by omega
                                   have h3t_78_p549 := Ot_77_p548.out.cells rfl
                                   refine Go.Proofs.YtgimcnpkngpmiaaGreatDoor.GoH.step_append_own (w := w_t_77_p548) rfl (.tmp 76) (.tmp 78) 30 rfl w.heap.size 9 i0_9 (.string ByteArray.empty) 1 16 Tryz.underlying30 hi_9 hz0_9 hz1_9 hz2_9 rfl (by decide) At_75_p546 ct_75_p546 t_75.length _ rfl Pt_75_p546_p548.out ⟨wt_75_p546.heap.size, 0, none⟩ 1 [.string t_22_town] rfl rfl h3t_78_p549 (one_cells rfl) h1t_78_p549 h2t_78_p549 hst_78_p549 ?_
                                   intro vt_78_p549 wt_78_p549 ot_78_p549 gt_78_p549 yt_78_p549
                                   obtain ⟨qt_78_p549, ct_78_p549, rfl, pt_78_p549⟩ := own_push hht_78.out (by simp) rfl ot_78_p549
                                   have Pt_78_p549 := Lib.hid pt_78_p549
                                   have Yt_78_p549 := Lib.hid yt_78_p549
                                   have Gt_78_p549 := Lib.hid gt_78_p549
                                   have HBwt_78_p549 := Lib.hid (HBw_t_77_p548.out.grown Gt_78_p549.out hst_78_p549 (fun q hq => (Pt_75_p546_p548.out.lt q hq).1))
                                   have Dt_78_out_6l0_p549 : Hid (Apart (some ⟨qt_78_p549, 0, none⟩) _) := Lib.hid (apart_app Dt_75_out_6l0_p546.out (fun a_ ha_ => (own_lt Oout_6l0_p545_p546_p548.out a_ ha_).2) Yt_78_p549.out)
                                   have Dt_78_t_77_p549 : Hid (Apart (some ⟨qt_78_p549, 0, none⟩) _) := Lib.hid (apart_app (Apart.symm Dt_77_t_75_p548.out) (fun a_ ha_ => (own_lt Ot_77_p548.out a_ ha_).2) Yt_78_p549.out)
                                   have ct_62_0__547_p548_p549 := cell_other ct_62_0__547_p548 Gt_78_p549.out Dt_75_out_6l0_p546.out
                                   have Oout_6l0_p545_p546_p548_p549 := Lib.hid (own_other Oout_6l0_p545_p546_p548.out Gt_78_p549.out Dt_75_out_6l0_p546.out)
                                   have Ot_77_p548_p549 := Lib.hid (own_other Ot_77_p548.out Gt_78_p549.out (Apart.symm Dt_77_t_75_p548.out)))
                                | (have hst_82_p550 := HBwt_78_p549.out.size
                                   have Ct_82_p550 := Lib.hid ((Mt_81_p543.out _ Oout_6l0_p545_p546_p548_p549.out))
                                   have h1t_82_p550 : t_78.length + t_81.length ≤ maxLen := by have h_ := hlt_82; unfold maxLen; omega
                                   have h2t_82_p550 : (t_78.length + t_81.length) * 16 ≤ 140737488355328 := by have h_ := hlt_82; omega
                                   refine Go.Proofs.YtgimcnpkngpmiaaGreatDoor.GoH.step_spread_own (w := wt_78_p549) rfl (.tmp 79) (.tmp 82) 30 rfl w.heap.size 9 i0_9 (.string ByteArray.empty) 1 16 Tryz.underlying30 hi_9 hz0_9 hz1_9 hz2_9 rfl (by decide) (some ⟨qt_78_p549, 0, none⟩) ct_78_p549 t_78.length _ rfl Pt_78_p549.out At_81_p543 t_81.length ct_81_p543 (t_81.map Value.string) rfl Qt_81_p543.out Ct_82_p550.out (fun u hu => by obtain ⟨y_, _, rfl⟩ := List.mem_map.1 hu; rfl) h1t_82_p550 h2t_82_p550 hst_82_p550 ?_
                                   intro vt_82_p550 wt_82_p550 ot_82_p550 gt_82_p550 yt_82_p550
                                   obtain ⟨At_82_p550, ct_82_p550, rfl, pt_82_p550⟩ := own_pushS (f := (fun z => z.map Value.string)) hht_82.out (by simp) rfl ot_82_p550
                                   have Pt_82_p550 := Lib.hid pt_82_p550
                                   have Yt_82_p550 := Lib.hid yt_82_p550
                                   have Gt_82_p550 := Lib.hid gt_82_p550
                                   have HBwt_82_p550 := Lib.hid (HBwt_78_p549.out.grown Gt_82_p550.out hst_82_p550 (fun q hq => (Pt_78_p549.out.lt q hq).1))
                                   have Dt_82_out_6l0_p550 : Hid (Apart At_82_p550 _) := Lib.hid (apart_app Dt_78_out_6l0_p549.out (fun a_ ha_ => (own_lt Oout_6l0_p545_p546_p548_p549.out a_ ha_).2) Yt_82_p550.out)
                                   have ct_62_0__547_p548_p549_p550 := cell_other ct_62_0__547_p548_p549 Gt_82_p550.out Dt_78_out_6l0_p549.out
                                   have Oout_6l0_p545_p546_p548_p549_p550 := Lib.hid (own_other Oout_6l0_p545_p546_p548_p549.out Gt_82_p550.out Dt_78_out_6l0_p549.out))
                                | (have hst_75_p553 := HBw_t_77_p552.out.size
                                   have Ct_75_p553 := Lib.hid ((Mt_74_p542.out _ Oout_6l0_p545_p552.out))
                                   have h1t_75_p553 : 0 + t_74.length ≤ maxLen := by have h_ := hlt_75; simp only [List.length_nil] at h_; unfold maxLen; omega
                                   have h2t_75_p553 : (0 + t_74.length) * 16 ≤ 140737488355328 := by have h_ := hlt_75; simp only [List.length_nil] at h_; omega
                                   refine Go.Proofs.YtgimcnpkngpmiaaGreatDoor.GoH.step_spread_own (w := w_t_77_p552) rfl (.tmp 72) (.tmp 75) 30 rfl w.heap.size 9 i0_9 (.string ByteArray.empty) 1 16 Tryz.underlying30 hi_9 hz0_9 hz1_9 hz2_9 rfl (by decide) (some ⟨wr2.heap.size, 0, none⟩) 0 0 _ rfl Ot_71_p545_p552.out At_74_p542 t_74.length ct_74_p542 (t_74.map Value.string) rfl Qt_74_p542.out Ct_75_p553.out (fun u hu => by obtain ⟨y_, _, rfl⟩ := List.mem_map.1 hu; rfl) h1t_75_p553 h2t_75_p553 hst_75_p553 ?_
                                   intro vt_75_p553 wt_75_p553 ot_75_p553 gt_75_p553 yt_75_p553
                                   obtain ⟨At_75_p553, ct_75_p553, rfl, pt_75_p553⟩ := own_pushS (f := (fun z => z.map Value.string)) hht_75.out (by simp) rfl ot_75_p553
                                   have Pt_75_p553 := Lib.hid pt_75_p553
                                   have Yt_75_p553 := Lib.hid yt_75_p553
                                   have Gt_75_p553 := Lib.hid gt_75_p553
                                   have HBwt_75_p553 := Lib.hid (HBw_t_77_p552.out.grown Gt_75_p553.out hst_75_p553 (fun q hq => (Ot_71_p545_p552.out.lt q hq).1))
                                   have Dt_75_out_6l0_p553 : Hid (Apart At_75_p553 _) := Lib.hid (apart_app Dt_71_out_6l0_p545.out (fun a_ ha_ => (own_lt Oout_6l0_p545_p552.out a_ ha_).2) Yt_75_p553.out)
                                   have Dt_75_t_77_p553 : Hid (Apart At_75_p553 _) := Lib.hid (apart_app (Apart.symm Dt_77_t_71_p552.out) (fun a_ ha_ => (own_lt Ot_77_p552.out a_ ha_).2) Yt_75_p553.out)
                                   have ct_62_0__551_p552_p553 := cell_other ct_62_0__551_p552 Gt_75_p553.out Dt_71_out_6l0_p545.out
                                   have Oout_6l0_p545_p552_p553 := Lib.hid (own_other Oout_6l0_p545_p552.out Gt_75_p553.out Dt_71_out_6l0_p545.out)
                                   have Ot_77_p552_p553 := Lib.hid (own_other Ot_77_p552.out Gt_75_p553.out (Apart.symm Dt_77_t_71_p552.out)))
                                | (have hst_78_p554 := HBwt_75_p553.out.size
                                   have h1t_78_p554 : t_75.length + 1 ≤ maxLen := by unfold maxLen; omega
                                   have h2t_78_p554 : (t_75.length + 1) * 16 ≤ 140737488355328 := by omega
                                   have h3t_78_p554 := Ot_77_p552_p553.out.cells rfl
                                   refine Go.Proofs.YtgimcnpkngpmiaaGreatDoor.GoH.step_append_own (w := wt_75_p553) rfl (.tmp 76) (.tmp 78) 30 rfl w.heap.size 9 i0_9 (.string ByteArray.empty) 1 16 Tryz.underlying30 hi_9 hz0_9 hz1_9 hz2_9 rfl (by decide) At_75_p553 ct_75_p553 t_75.length _ rfl Pt_75_p553.out ⟨w_t_71_p545.heap.size, 0, none⟩ 1 [.string t_22_town] rfl rfl h3t_78_p554 (one_cells rfl) h1t_78_p554 h2t_78_p554 hst_78_p554 ?_
                                   intro vt_78_p554 wt_78_p554 ot_78_p554 gt_78_p554 yt_78_p554
                                   obtain ⟨qt_78_p554, ct_78_p554, rfl, pt_78_p554⟩ := own_push hht_78.out (by simp) rfl ot_78_p554
                                   have Pt_78_p554 := Lib.hid pt_78_p554
                                   have Yt_78_p554 := Lib.hid yt_78_p554
                                   have Gt_78_p554 := Lib.hid gt_78_p554
                                   have HBwt_78_p554 := Lib.hid (HBwt_75_p553.out.grown Gt_78_p554.out hst_78_p554 (fun q hq => (Pt_75_p553.out.lt q hq).1))
                                   have Dt_78_out_6l0_p554 : Hid (Apart (some ⟨qt_78_p554, 0, none⟩) _) := Lib.hid (apart_app Dt_75_out_6l0_p553.out (fun a_ ha_ => (own_lt Oout_6l0_p545_p552_p553.out a_ ha_).2) Yt_78_p554.out)
                                   have Dt_78_t_77_p554 : Hid (Apart (some ⟨qt_78_p554, 0, none⟩) _) := Lib.hid (apart_app Dt_75_t_77_p553.out (fun a_ ha_ => (own_lt Ot_77_p552_p553.out a_ ha_).2) Yt_78_p554.out)
                                   have ct_62_0__551_p552_p553_p554 := cell_other ct_62_0__551_p552_p553 Gt_78_p554.out Dt_75_out_6l0_p553.out
                                   have Oout_6l0_p545_p552_p553_p554 := Lib.hid (own_other Oout_6l0_p545_p552_p553.out Gt_78_p554.out Dt_75_out_6l0_p553.out)
                                   have Ot_77_p552_p553_p554 := Lib.hid (own_other Ot_77_p552_p553.out Gt_78_p554.out Dt_75_t_77_p553.out))
                                | (have hst_82_p555 := HBwt_78_p554.out.size
                                   have Ct_82_p555 := Lib.hid ((Mt_81_p543.out _ Oout_6l0_p545_p552_p553_p554.out))
                                   have h1t_82_p555 : t_78.length + t_81.length ≤ maxLen := by have h_ := hlt_82; unfold maxLen; omega
                                   have h2t_82_p555 : (t_78.length + t_81.length) * 16 ≤ 140737488355328 := by have h_ := hlt_82; omega
                                   refine Go.Proofs.YtgimcnpkngpmiaaGreatDoor.GoH.step_spread_own (w := wt_78_p554) rfl (.tmp 79) (.tmp 82) 30 rfl w.heap.size 9 i0_9 (.string ByteArray.empty) 1 16 Tryz.underlying30 hi_9 hz0_9 hz1_9 hz2_9 rfl (by decide) (some ⟨qt_78_p554, 0, none⟩) ct_78_p554 t_78.length _ rfl Pt_78_p554.out At_81_p543 t_81.length ct_81_p543 (t_81.map Value.string) rfl Qt_81_p543.out Ct_82_p555.out (fun u hu => by obtain ⟨y_, _, rfl⟩ := List.mem_map.1 hu; rfl) h1t_82_p555 h2t_82_p555 hst_82_p555 ?_
                                   intro vt_82_p555 wt_82_p555 ot_82_p555 gt_82_p555 yt_82_p555
                                   obtain ⟨At_82_p555, ct_82_p555, rfl, pt_82_p555⟩ := own_pushS (f := (fun z => z.map Value.string)) hht_82.out (by simp) rfl ot_82_p555
                                   have Pt_82_p555 := Lib.hid pt_82_p555
                                   have Yt_82_p555 := Lib.hid yt_82_p555
                                   have Gt_82_p555 := Lib.hid gt_82_p555
                                   have HBwt_82_p555 := Lib.hid (HBwt_78_p554.out.grown Gt_82_p555.out hst_82_p555 (fun q hq => (Pt_78_p554.out.lt q hq).1))
                                   have Dt_82_out_6l0_p555 : Hid (Apart At_82_p555 _) := Lib.hid (apart_app Dt_78_out_6l0_p554.out (fun a_ ha_ => (own_lt Oout_6l0_p545_p552_p553_p554.out a_ ha_).2) Yt_82_p555.out)
                                   have ct_62_0__551_p552_p553_p554_p555 := cell_other ct_62_0__551_p552_p553_p554 Gt_82_p555.out Dt_78_out_6l0_p554.out
                                   have Oout_6l0_p545_p552_p553_p554_p555 := Lib.hid (own_other Oout_6l0_p545_p552_p553_p554.out Gt_82_p555.out Dt_78_out_6l0_p554.out))
                                | (have hst_75_p560 := HBw_t_71_p559.out.size
                                   have Ct_75_p560 := Lib.hid ((Mt_74_p542.out _ Oout_6l0_p557_p559.out))
                                   have h1t_75_p560 : 0 + t_74.length ≤ maxLen := by have h_ := hlt_75; simp only [List.length_nil] at h_; unfold maxLen; omega
                                   have h2t_75_p560 : (0 + t_74.length) * 16 ≤ 140737488355328 := by have h_ := hlt_75; simp only [List.length_nil] at h_; omega
                                   refine Go.Proofs.YtgimcnpkngpmiaaGreatDoor.GoH.step_spread_own (w := w_t_71_p559) rfl (.tmp 72) (.tmp 75) 30 rfl w.heap.size 9 i0_9 (.string ByteArray.empty) 1 16 Tryz.underlying30 hi_9 hz0_9 hz1_9 hz2_9 rfl (by decide) (some ⟨w_t_77_p557.heap.size, 0, none⟩) 0 0 _ rfl Ot_71_p559.out At_74_p542 t_74.length ct_74_p542 (t_74.map Value.string) rfl Qt_74_p542.out Ct_75_p560.out (fun u hu => by obtain ⟨y_, _, rfl⟩ := List.mem_map.1 hu; rfl) h1t_75_p560 h2t_75_p560 hst_75_p560 ?_
                                   intro vt_75_p560 wt_75_p560 ot_75_p560 gt_75_p560 yt_75_p560
                                   obtain ⟨At_75_p560, ct_75_p560, rfl, pt_75_p560⟩ := own_pushS (f := (fun z => z.map Value.string)) hht_75.out (by simp) rfl ot_75_p560
                                   have Pt_75_p560 := Lib.hid pt_75_p560
                                   have Yt_75_p560 := Lib.hid yt_75_p560
                                   have Gt_75_p560 := Lib.hid gt_75_p560
                                   have HBwt_75_p560 := Lib.hid (HBw_t_71_p559.out.grown Gt_75_p560.out hst_75_p560 (fun q hq => (Ot_71_p559.out.lt q hq).1))
                                   have Dt_75_out_6l0_p560 : Hid (Apart At_75_p560 _) := Lib.hid (apart_app Dt_71_out_6l0_p559.out (fun a_ ha_ => (own_lt Oout_6l0_p557_p559.out a_ ha_).2) Yt_75_p560.out)
                                   have Dt_75_t_77_p560 : Hid (Apart At_75_p560 _) := Lib.hid (apart_app Dt_71_t_77_p559.out (fun a_ ha_ => (own_lt Ot_77_p557_p559.out a_ ha_).2) Yt_75_p560.out)
                                   have ct_62_0__558_p559_p560 := cell_other ct_62_0__558_p559 Gt_75_p560.out Dt_71_out_6l0_p559.out
                                   have Oout_6l0_p557_p559_p560 := Lib.hid (own_other Oout_6l0_p557_p559.out Gt_75_p560.out Dt_71_out_6l0_p559.out)
                                   have Ot_77_p557_p559_p560 := Lib.hid (own_other Ot_77_p557_p559.out Gt_75_p560.out Dt_71_t_77_p559.out))
                                | (have hst_78_p561 := HBwt_75_p560.out.size
                                   have h1t_78_p561 : t_75.length + 1 ≤ maxLen := by unfold maxLen; omega
                                   have h2t_78_p561 : (t_75.length + 1) * 16 ≤ 140737488355328 := by omega
                                   have h3t_78_p561 := Ot_77_p557_p559_p560.out.cells rfl
                                   refine Go.Proofs.YtgimcnpkngpmiaaGreatDoor.GoH.step_append_own (w := wt_75_p560) rfl (.tmp 76) (.tmp 78) 30 rfl w.heap.size 9 i0_9 (.string ByteArray.empty) 1 16 Tryz.underlying30 hi_9 hz0_9 hz1_9 hz2_9 rfl (by decide) At_75_p560 ct_75_p560 t_75.length _ rfl Pt_75_p560.out ⟨wr2.heap.size, 0, none⟩ 1 [.string t_22_town] rfl rfl h3t_78_p561 (one_cells rfl) h1t_78_p561 h2t_78_p561 hst_78_p561 ?_
                                   intro vt_78_p561 wt_78_p561 ot_78_p561 gt_78_p561 yt_78_p561
                                   obtain ⟨qt_78_p561, ct_78_p561, rfl, pt_78_p561⟩ := own_push hht_78.out (by simp) rfl ot_78_p561
                                   have Pt_78_p561 := Lib.hid pt_78_p561
                                   have Yt_78_p561 := Lib.hid yt_78_p561
                                   have Gt_78_p561 := Lib.hid gt_78_p561
                                   have HBwt_78_p561 := Lib.hid (HBwt_75_p560.out.grown Gt_78_p561.out hst_78_p561 (fun q hq => (Pt_75_p560.out.lt q hq).1))
                                   have Dt_78_out_6l0_p561 : Hid (Apart (some ⟨qt_78_p561, 0, none⟩) _) := Lib.hid (apart_app Dt_75_out_6l0_p560.out (fun a_ ha_ => (own_lt Oout_6l0_p557_p559_p560.out a_ ha_).2) Yt_78_p561.out)
                                   have Dt_78_t_77_p561 : Hid (Apart (some ⟨qt_78_p561, 0, none⟩) _) := Lib.hid (apart_app Dt_75_t_77_p560.out (fun a_ ha_ => (own_lt Ot_77_p557_p559_p560.out a_ ha_).2) Yt_78_p561.out)
                                   have ct_62_0__558_p559_p560_p561 := cell_other ct_62_0__558_p559_p560 Gt_78_p561.out Dt_75_out_6l0_p560.out
                                   have Oout_6l0_p557_p559_p560_p561 := Lib.hid (own_other Oout_6l0_p557_p559_p560.out Gt_78_p561.out Dt_75_out_6l0_p560.out)
                                   have Ot_77_p557_p559_p560_p561 := Lib.hid (own_other Ot_77_p557_p559_p560.out Gt_78_p561.out Dt_75_t_77_p560.out))
                                | (have hst_82_p562 := HBwt_78_p561.out.size
                                   have Ct_82_p562 := Lib.hid ((Mt_81_p543.out _ Oout_6l0_p557_p559_p560_p561.out))
                                   have h1t_82_p562 : t_78.length + t_81.length ≤ maxLen := by have h_ := hlt_82; unfold maxLen; omega
                                   have h2t_82_p562 : (t_78.length + t_81.length) * 16 ≤ 140737488355328 := by have h_ := hlt_82; omega
                                   refine Go.Proofs.YtgimcnpkngpmiaaGreatDoor.GoH.step_spread_own (w := wt_78_p561) rfl (.tmp 79) (.tmp 82) 30 rfl w.heap.size 9 i0_9 (.string ByteArray.empty) 1 16 Tryz.underlying30 hi_9 hz0_9 hz1_9 hz2_9 rfl (by decide) (some ⟨qt_78_p561, 0, none⟩) ct_78_p561 t_78.length _ rfl Pt_78_p561.out At_81_p543 t_81.length ct_81_p543 (t_81.map Value.string) rfl Qt_81_p543.out Ct_82_p562.out (fun u hu => by obtain ⟨y_, _, rfl⟩ := List.mem_map.1 hu; rfl) h1t_82_p562 h2t_82_p562 hst_82_p562 ?_
                                   intro vt_82_p562 wt_82_p562 ot_82_p562 gt_82_p562 yt_82_p562
                                   obtain ⟨At_82_p562, ct_82_p562, rfl, pt_82_p562⟩ := own_pushS (f := (fun z => z.map Value.string)) hht_82.out (by simp) rfl ot_82_p562
                                   have Pt_82_p562 := Lib.hid pt_82_p562
                                   have Yt_82_p562 := Lib.hid yt_82_p562
                                   have Gt_82_p562 := Lib.hid gt_82_p562
                                   have HBwt_82_p562 := Lib.hid (HBwt_78_p561.out.grown Gt_82_p562.out hst_82_p562 (fun q hq => (Pt_78_p561.out.lt q hq).1))
                                   have Dt_82_out_6l0_p562 : Hid (Apart At_82_p562 _) := Lib.hid (apart_app Dt_78_out_6l0_p561.out (fun a_ ha_ => (own_lt Oout_6l0_p557_p559_p560_p561.out a_ ha_).2) Yt_82_p562.out)
                                   have ct_62_0__558_p559_p560_p561_p562 := cell_other ct_62_0__558_p559_p560_p561 Gt_82_p562.out Dt_78_out_6l0_p561.out
                                   have Oout_6l0_p557_p559_p560_p561_p562 := Lib.hid (own_other Oout_6l0_p557_p559_p560_p561.out Gt_82_p562.out Dt_78_out_6l0_p561.out)))
                          · skip
                            replace H := app_hid H
                            go_wp2_with fail
                            go_roundg m0
                            case measure => omega
                            case rel => exact ⟨k0 + 1, _, _, _, by omega, by go_num, rfl, H, HBwt_82_p550, Pt_82_p550⟩
                          · skip
                            replace H := app_hid H
                            go_wp2_with fail
                            go_roundg m0
                            case measure => omega
                            case rel => exact ⟨k0 + 1, _, _, _, by omega, by go_num, rfl, H, HBwt_82_p555, Pt_82_p555⟩
                          · skip
                            replace H := app_hid H
                            go_wp2_with fail
                            go_roundg m0
                            case measure => omega
                            case rel => exact ⟨k0 + 1, _, _, _, by omega, by go_num, rfl, H, HBwt_82_p562, Pt_82_p562⟩
                        | true =>
                          replace H := let_hid H
                          obtain ⟨t_70, ht_70, H⟩ := H
                          obtain rfl : t_70 = false := ht_70.symm
                          replace H := ite_f H
                          replace H := app_hid H
                          go_wp2_with fail
                          go_roundg m0
                          case measure => omega
                          case rel => exact ⟨k0 + 1, _, _, _, by omega, by go_num, rfl, H, HBwr2, Oout_6l0⟩
                      | true =>
                        replace H := ite_t H
                        replace H := let_hid H
                        obtain ⟨t_67, ht_67, H⟩ := H
                        obtain rfl := ht_61.symm.trans ht_67
                        replace H := app_hid H
                        go_wp2_with fail
                        go_roundg m2
                        case measure => omega
                        case rel => exact ⟨_, rfl, H, HBwr2, Oout_6l0⟩
              | succ m1 =>
                have hlt1 : k1 < out_6l0.length := by omega
                have hc1 : decide ((k1 : Int) < ((out_6l0.length : Nat) : Int)) = true := by simp; omega
                replace H := cnt_succ H
                unfold l1 at H
                replace H := let_hid H
                obtain ⟨_, rfl, H⟩ := H
                replace H := join_hid H
                cases known_10l1 with
                | false =>
                  replace H := ite_f H
                  replace H := idx_hid H
                  obtain ⟨nt_46, yt_46, et_46, lt_46, gt_46, H⟩ := H
                  obtain rfl : k1 = nt_46 := by omega
                  clear et_46
                  obtain ⟨qt_46, Qt_46⟩ := own_some Oout_6l0.out (by omega)
                  subst Qt_46
                  obtain ⟨ab_t_46, ao_t_46, zt_46, At_46, z_t_46, ct_46_0⟩ := strs_at (own_cells Oout_6l0.out) (k := k1) (by omega)
                  obtain rfl := Option.some.inj (gt_46.out.symm.trans z_t_46)
                  simp only [Option.some.injEq, Addr.mk.injEq] at At_46
                  obtain ⟨rfl, rfl, _⟩ := At_46
                  clear z_t_46
                  simp only [Nat.zero_add] at ct_46_0
                  have b0t_46 : (0 : Int) ≤ (k1 : Int) := by omega
                  have b1t_46 : (k1 : Int) < ((out_6l0.length : Nat) : Int) := by omega
                  have b2t_46 : ((k1 : Int)).toNat = k1 := by omega
                  replace H := let_hid H
                  obtain ⟨t_49, ht_49, H⟩ := H
                  replace H := app_hid H
                  replace H := app_hid H
                  go_wp2_with fail
                  go_roundg m1
                  case measure => omega
                  case rel => exact ⟨k1 + 1, _, by omega, by go_num, rfl, H, HBwr1, Oout_6l0⟩
                | true =>
                  replace H := ite_t H
                  replace H := app_hid H
                  replace H := app_hid H
                  go_wp2_with fail
                  go_roundg m1
                  case measure => omega
                  case rel => exact ⟨k1 + 1, _, by omega, by go_num, rfl, H, HBwr1, Oout_6l0⟩
end Go.Proofs.YtgimcnpkngpmiaaGreatDoor.GsTownsOn

