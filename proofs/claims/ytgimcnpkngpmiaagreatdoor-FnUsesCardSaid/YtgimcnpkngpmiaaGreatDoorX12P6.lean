/- Texts on which the proofs of several laws stand, one behind the other (6 of 13). No condition of their own. -/
import Derived.Test.YtgimcnpkngpmiaaGreatDoorChecked
import Derived.Test.YtgimcnpkngpmiaaGreatDoorX12P1
import Derived.Test.YtgimcnpkngpmiaaGreatDoorX12P2
import Derived.Test.YtgimcnpkngpmiaaGreatDoorX12P5
import Derived.WalkKit
import Derived.WalkSpells
import Derived.WalkLawsBesides
import Derived.BigQuiet
import Derived.OwnWalk
import Derived.Deep.LoopGhost
import Derived.Deep.QuietTactic
import Derived.IntWalk
import Derived.Lib.QuietBelow
import Derived.Test.YtgimcnpkngpmiaaGreatDoorX12P4
import Derived.Laws.StructEq
import Derived.ChangeKeysEq
/- loop.example/g01062/spec.l11One as a plain function, and the contract of the program's: where the plain one has an answer, the program has it. Conditions: slices read as lists. -/
namespace Go.Proofs.YtgimcnpkngpmiaaGreatDoor.GsL11One
set_option linter.unusedVariables false
set_option linter.unusedSimpArgs false
open Go.RowKit
open Go.Proofs.YtgimcnpkngpmiaaGreatDoor.Rowed Go.Proofs.YtgimcnpkngpmiaaGreatDoor.Turn Go.Proofs.YtgimcnpkngpmiaaGreatDoor.Aid Go.Proofs.YtgimcnpkngpmiaaGreatDoor.GoP Go.Proofs.YtgimcnpkngpmiaaGreatDoor.GoM

def l0 (p_lost : ByteArray) (s : Bool × Int) (nx0 bk0 : Bool × Int → Option (Bool)) : Option (Bool) :=
  unp2 s fun seen_3l0 i_4l0 =>
  letK (decide (i_4l0 < (p_lost.size : Int))) fun (t_48 : Bool) =>
  iteK t_48
  (Option.bind (idx p_lost.toList i_4l0) fun (yt_52 : UInt8) =>
  letK ((yt_52.toNat : Int)) fun (t_52 : Int) =>
  letK (t_52 != 46) fun (t_53 : Bool) =>
  joinK (fun (t_60 : Bool) =>
  iteK t_60
  (some false)
  (joinK (fun (t_69 : Bool) =>
  letK (IntKind.i64.wrap (i_4l0 + 1)) fun (t_72 : Int) =>
  appK nx0 (t_69, t_72)) fun jt_69 => iteK seen_3l0 (appK jt_69 true) (Option.bind (idx p_lost.toList i_4l0) fun (yt_67 : UInt8) =>
  letK ((yt_67.toNat : Int)) fun (t_67 : Int) =>
  letK (t_67 == 46) fun (t_68 : Bool) =>
  appK jt_69 t_68))) fun jt_60 => iteK t_53 (Option.bind (idx p_lost.toList i_4l0) fun (yt_58 : UInt8) =>
  letK ((yt_58.toNat : Int)) fun (t_58 : Int) =>
  letK (t_58 != 120) fun (t_59 : Bool) =>
  appK jt_60 t_59) (appK jt_60 false))
  (appK bk0 (seen_3l0, i_4l0))

def e0  (s : Bool × Int) : Option (Bool) :=
  unp2 s fun seen_3l0 i_4l0 =>
  some seen_3l0

def P (fuel : Nat) (p : Go.Proofs.YtgimcnpkngpmiaaGreatDoor.PPostmark.Postmark) : Option (Bool) :=
  unPostmark p fun (p_id : Int) (p_town : ByteArray) (p_kind_ : Int) (p_first : Int) (p_last : Int) (p_lost : ByteArray) =>
  Option.bind (Go.Proofs.YtgimcnpkngpmiaaGreatDoor.GsL1In.P p_id 1 999) fun (t_4 : Bool) =>
  letK (!t_4) fun (t_5 : Bool) =>
  joinK (fun (t_11 : Bool) =>
  joinK (fun (t_17 : Bool) =>
  joinK (fun (t_23 : Bool) =>
  joinK (fun (t_31 : Bool) =>
  joinK (fun (t_40 : Bool) =>
  iteK t_40
  (some false)
  (loopK (l0 p_lost) fuel (false, 0) (e0 ))) fun jt_40 => iteK t_31 (appK jt_40 true) (letK ((p_lost.size : Int) != (p_town.size : Int)) fun (t_39 : Bool) =>
  appK jt_40 t_39)) fun jt_31 => iteK t_23 (appK jt_31 true) (Option.bind (Go.Proofs.YtgimcnpkngpmiaaGreatDoor.GsL1In.P p_first 0 p_last) fun (t_29 : Bool) =>
  letK (!t_29) fun (t_30 : Bool) =>
  appK jt_31 t_30)) fun jt_23 => iteK t_17 (appK jt_23 true) (Option.bind (Go.Proofs.YtgimcnpkngpmiaaGreatDoor.GsL2Day.P p_last) fun (t_21 : Bool) =>
  letK (!t_21) fun (t_22 : Bool) =>
  appK jt_23 t_22)) fun jt_17 => iteK t_11 (appK jt_17 true) (Option.bind (Go.Proofs.YtgimcnpkngpmiaaGreatDoor.GsL1In.P p_kind_ 1 5) fun (t_15 : Bool) =>
  letK (!t_15) fun (t_16 : Bool) =>
  appK jt_17 t_16)) fun jt_11 => iteK t_5 (appK jt_11 true) (Option.bind (Go.Proofs.YtgimcnpkngpmiaaGreatDoor.GsL2Word.P p_town) fun (t_9 : Bool) =>
  letK (!t_9) fun (t_10 : Bool) =>
  appK jt_11 t_10)

set_option maxRecDepth 100000 in
set_option maxHeartbeats 2000000 in
theorem C (fuel : Nat) (p : Go.Proofs.YtgimcnpkngpmiaaGreatDoor.PPostmark.Postmark)   (w : World)   {r : Bool} (H : Hid (P fuel p = some r)) :
    Calls Tryz.prog 49 #[p.val] w (Gives (.bool r) w) := by
  have HB := Lib.hid (Below.refl w.heap.size w)
  unfold P at H
  obtain ⟨p_id, p_town, p_kind_, p_first, p_last, p_lost⟩ := p
  replace H := unPostmark_hid H
  unfold Go.Proofs.YtgimcnpkngpmiaaGreatDoor.PPostmark.Postmark.val
  go_enter Tryz.func49, Tryz.ntmps49
  obtain ⟨w_p_0, hw_p_0⟩ : ∃ x, w.alloc (.cells #[.int .i64 p_id, .string p_town, .int .i64 p_kind_, .int .i64 p_first, .int .i64 p_last, .string p_lost] 34) = x := ⟨_, rfl⟩
  have bw_p_0 : Below w.heap.size w w_p_0 := by rw [← hw_p_0]; exact (Below.refl _ _).alloc (Nat.le_refl _) _
  have HBw_p_0 := Lib.hid (Below.step HB.out bw_p_0)
  clear bw_p_0
  have kp_0_0 : w_p_0.cell? ⟨w.heap.size, 0, none⟩ = some (.int .i64 p_id) := by rw [← hw_p_0]; exact box_new _ _ _ 0 _ rfl
  have kp_0_1 : w_p_0.cell? ⟨w.heap.size, 1, none⟩ = some (.string p_town) := by rw [← hw_p_0]; exact box_new _ _ _ 1 _ rfl
  have kp_0_2 : w_p_0.cell? ⟨w.heap.size, 2, none⟩ = some (.int .i64 p_kind_) := by rw [← hw_p_0]; exact box_new _ _ _ 2 _ rfl
  have kp_0_3 : w_p_0.cell? ⟨w.heap.size, 3, none⟩ = some (.int .i64 p_first) := by rw [← hw_p_0]; exact box_new _ _ _ 3 _ rfl
  have kp_0_4 : w_p_0.cell? ⟨w.heap.size, 4, none⟩ = some (.int .i64 p_last) := by rw [← hw_p_0]; exact box_new _ _ _ 4 _ rfl
  have kp_0_5 : w_p_0.cell? ⟨w.heap.size, 5, none⟩ = some (.string p_lost) := by rw [← hw_p_0]; exact box_new _ _ _ 5 _ rfl
  replace H := bind_hid H
  obtain ⟨t_4, qt_4, H⟩ := H
  go_wp2_with fail
  go_at_call 59
  refine (Go.Proofs.YtgimcnpkngpmiaaGreatDoor.GsL1In.C (p_id) (1) (999)  _    qt_4).mono ?_
  rintro e_t_4 wt_4 ⟨rfl, bt_4⟩
  have HBwt_4 := Lib.hid (Below.step HBw_p_0.out bt_4)
  replace kp_0_0 := cell_below bt_4 kp_0_0
  replace kp_0_1 := cell_below bt_4 kp_0_1
  replace kp_0_2 := cell_below bt_4 kp_0_2
  replace kp_0_3 := cell_below bt_4 kp_0_3
  replace kp_0_4 := cell_below bt_4 kp_0_4
  replace kp_0_5 := cell_below bt_4 kp_0_5
  clear bt_4
  cases t_4 with
  | false =>
    replace H := let_hid H
    obtain ⟨t_5, ht_5, H⟩ := H
    obtain rfl : t_5 = true := ht_5.symm
    replace H := join_hid H
    replace H := ite_t H
    replace H := app_hid H
    replace H := join_hid H
    replace H := ite_t H
    replace H := app_hid H
    replace H := join_hid H
    replace H := ite_t H
    replace H := app_hid H
    replace H := join_hid H
    replace H := ite_t H
    replace H := app_hid H
    replace H := join_hid H
    replace H := ite_t H
    replace H := app_hid H
    replace H := ite_t H
    obtain rfl := ret_hid H
    go_wp2_with fail
    go_ret
    exact ⟨rfl, HBwt_4.out⟩
  | true =>
    replace H := let_hid H
    obtain ⟨t_5, ht_5, H⟩ := H
    obtain rfl : t_5 = false := ht_5.symm
    replace H := join_hid H
    replace H := ite_f H
    replace H := bind_hid H
    obtain ⟨t_9, qt_9, H⟩ := H
    go_wp2_with fail
    go_at_call 43
    refine (Go.Proofs.YtgimcnpkngpmiaaGreatDoor.GsL2Word.C (p_town)  _    qt_9).mono ?_
    rintro e_t_9 wt_9 ⟨rfl, bt_9⟩
    have HBwt_9 := Lib.hid (Below.step HBwt_4.out bt_9)
    replace kp_0_0 := cell_below bt_9 kp_0_0
    replace kp_0_1 := cell_below bt_9 kp_0_1
    replace kp_0_2 := cell_below bt_9 kp_0_2
    replace kp_0_3 := cell_below bt_9 kp_0_3
    replace kp_0_4 := cell_below bt_9 kp_0_4
    replace kp_0_5 := cell_below bt_9 kp_0_5
    clear bt_9
    cases t_9 with
    | false =>
      replace H := let_hid H
      obtain ⟨t_10, ht_10, H⟩ := H
      obtain rfl : t_10 = true := ht_10.symm
      replace H := app_hid H
      replace H := join_hid H
      replace H := ite_t H
      replace H := app_hid H
      replace H := join_hid H
      replace H := ite_t H
      replace H := app_hid H
      replace H := join_hid H
      replace H := ite_t H
      replace H := app_hid H
      replace H := join_hid H
      replace H := ite_t H
      replace H := app_hid H
      replace H := ite_t H
      obtain rfl := ret_hid H
      go_wp2_with fail
      go_ret
      exact ⟨rfl, HBwt_9.out⟩
    | true =>
      replace H := let_hid H
      obtain ⟨t_10, ht_10, H⟩ := H
      obtain rfl : t_10 = false := ht_10.symm
      replace H := app_hid H
      replace H := join_hid H
      replace H := ite_f H
      replace H := bind_hid H
      obtain ⟨t_15, qt_15, H⟩ := H
      go_wp2_with fail
      go_at_call 59
      refine (Go.Proofs.YtgimcnpkngpmiaaGreatDoor.GsL1In.C (p_kind_) (1) (5)  _    qt_15).mono ?_
      rintro e_t_15 wt_15 ⟨rfl, bt_15⟩
      have HBwt_15 := Lib.hid (Below.step HBwt_9.out bt_15)
      replace kp_0_0 := cell_below bt_15 kp_0_0
      replace kp_0_1 := cell_below bt_15 kp_0_1
      replace kp_0_2 := cell_below bt_15 kp_0_2
      replace kp_0_3 := cell_below bt_15 kp_0_3
      replace kp_0_4 := cell_below bt_15 kp_0_4
      replace kp_0_5 := cell_below bt_15 kp_0_5
      clear bt_15
      cases t_15 with
      | false =>
        replace H := let_hid H
        obtain ⟨t_16, ht_16, H⟩ := H
        obtain rfl : t_16 = true := ht_16.symm
        replace H := app_hid H
        replace H := join_hid H
        replace H := ite_t H
        replace H := app_hid H
        replace H := join_hid H
        replace H := ite_t H
        replace H := app_hid H
        replace H := join_hid H
        replace H := ite_t H
        replace H := app_hid H
        replace H := ite_t H
        obtain rfl := ret_hid H
        go_wp2_with fail
        go_ret
        exact ⟨rfl, HBwt_15.out⟩
      | true =>
        replace H := let_hid H
        obtain ⟨t_16, ht_16, H⟩ := H
        obtain rfl : t_16 = false := ht_16.symm
        replace H := app_hid H
        replace H := join_hid H
        replace H := ite_f H
        replace H := bind_hid H
        obtain ⟨t_21, qt_21, H⟩ := H
        go_wp2_with fail
        go_at_call 28
        refine (Go.Proofs.YtgimcnpkngpmiaaGreatDoor.GsL2Day.C (p_last)  _    qt_21).mono ?_
        rintro e_t_21 wt_21 ⟨rfl, bt_21⟩
        have HBwt_21 := Lib.hid (Below.step HBwt_15.out bt_21)
        replace kp_0_0 := cell_below bt_21 kp_0_0
        replace kp_0_1 := cell_below bt_21 kp_0_1
        replace kp_0_2 := cell_below bt_21 kp_0_2
        replace kp_0_3 := cell_below bt_21 kp_0_3
        replace kp_0_4 := cell_below bt_21 kp_0_4
        replace kp_0_5 := cell_below bt_21 kp_0_5
        clear bt_21
        cases t_21 with
        | false =>
          replace H := let_hid H
          obtain ⟨t_22, ht_22, H⟩ := H
          obtain rfl : t_22 = true := ht_22.symm
          replace H := app_hid H
          replace H := join_hid H
          replace H := ite_t H
          replace H := app_hid H
          replace H := join_hid H
          replace H := ite_t H
          replace H := app_hid H
          replace H := ite_t H
          obtain rfl := ret_hid H
          go_wp2_with fail
          go_ret
          exact ⟨rfl, HBwt_21.out⟩
        | true =>
          replace H := let_hid H
          obtain ⟨t_22, ht_22, H⟩ := H
          obtain rfl : t_22 = false := ht_22.symm
          replace H := app_hid H
          replace H := join_hid H
          replace H := ite_f H
          replace H := bind_hid H
          obtain ⟨t_29, qt_29, H⟩ := H
          go_wp2_with fail
          go_at_call 59
          refine (Go.Proofs.YtgimcnpkngpmiaaGreatDoor.GsL1In.C (p_first) (0) (p_last)  _    qt_29).mono ?_
          rintro e_t_29 wt_29 ⟨rfl, bt_29⟩
          have HBwt_29 := Lib.hid (Below.step HBwt_21.out bt_29)
          replace kp_0_0 := cell_below bt_29 kp_0_0
          replace kp_0_1 := cell_below bt_29 kp_0_1
          replace kp_0_2 := cell_below bt_29 kp_0_2
          replace kp_0_3 := cell_below bt_29 kp_0_3
          replace kp_0_4 := cell_below bt_29 kp_0_4
          replace kp_0_5 := cell_below bt_29 kp_0_5
          clear bt_29
          cases t_29 with
          | false =>
            replace H := let_hid H
            obtain ⟨t_30, ht_30, H⟩ := H
            obtain rfl : t_30 = true := ht_30.symm
            replace H := app_hid H
            replace H := join_hid H
            replace H := ite_t H
            replace H := app_hid H
            replace H := ite_t H
            obtain rfl := ret_hid H
            go_wp2_with fail
            go_ret
            exact ⟨rfl, HBwt_29.out⟩
          | true =>
            replace H := let_hid H
            obtain ⟨t_30, ht_30, H⟩ := H
            obtain rfl : t_30 = false := ht_30.symm
            replace H := app_hid H
            replace H := join_hid H
            replace H := ite_f H
            replace H := let_hid H
            obtain ⟨t_39, ht_39, H⟩ := H
            replace H := app_hid H
            cases t_39 with
            | false =>
              have Hht_39 : Hid (p_lost.size = p_town.size) := Lib.hid (by have := bne_eq_false_iff_eq.1 ht_39; omega)
              have nht_39 : (p_lost.size == p_town.size) = true := beq_iff_eq.2 Hht_39.out
              replace H := ite_f H
              go_wp2_with fail
              go_loopg [3, 4] (fuel) (fun m_ v3_ v4_ wr => ∃ (seen_3l0 : Bool) (i_4l0 : Int), v3_ = .bool seen_3l0 ∧ v4_ = .int .i64 i_4l0 ∧ Hid (loopK (l0 p_lost) m_ (seen_3l0, i_4l0) (e0 ) = some r) ∧ Hid (Below w.heap.size w wr) ∧ wr.cell? ⟨w.heap.size, 0, none⟩ = some (.int .i64 p_id) ∧ wr.cell? ⟨w.heap.size, 1, none⟩ = some (.string p_town) ∧ wr.cell? ⟨w.heap.size, 2, none⟩ = some (.int .i64 p_kind_) ∧ wr.cell? ⟨w.heap.size, 3, none⟩ = some (.int .i64 p_first) ∧ wr.cell? ⟨w.heap.size, 4, none⟩ = some (.int .i64 p_last) ∧ wr.cell? ⟨w.heap.size, 5, none⟩ = some (.string p_lost))
              case atStart => exact ⟨_, _, rfl, rfl, H, HBwt_29, kp_0_0, kp_0_1, kp_0_2, kp_0_3, kp_0_4, kp_0_5⟩
              case round =>
                obtain ⟨seen_3l0, i_4l0, rfl, rfl, H, HBwr0, kp_0_0, kp_0_1, kp_0_2, kp_0_3, kp_0_4, kp_0_5⟩ := hrel
                rename World => wr0
                cases gk with
                | zero => exact (loop_zero H).elim
                | succ m0 =>
                  replace H := loop_succ H
                  unfold l0 at H
                  replace H := unp2_hid H
                  replace H := let_hid H
                  obtain ⟨t_48, ht_48, H⟩ := H
                  cases t_48 with
                  | false =>
                    replace H := ite_f H
                    replace H := app_hid H
                    unfold e0 at H
                    replace H := unp2_hid H
                    obtain rfl := ret_hid H
                    go_wp2_with fail
                    go_ret
                    exact ⟨rfl, HBwr0.out⟩
                  | true =>
                    replace H := ite_t H
                    replace H := idx_hid H
                    obtain ⟨nt_52, yt_52, et_52, lt_52, gt_52, H⟩ := H
                    subst et_52
                    have nc_399 : nt_52 < p_lost.size := by have := of_decide_eq_true ht_48; omega
                    have rt_52 := byte_rule lt_52 gt_52.out
                    have b0t_52 : (0 : Int) ≤ (nt_52 : Int) := by omega
                    have b1t_52 : (nt_52 : Int) < (p_lost.size : Int) := by have := size_list p_lost; omega
                    have b2t_52 : ((nt_52 : Int)).toNat = nt_52 := by omega
                    have b3t_52 : nt_52 < p_lost.size := by have := size_list p_lost; omega
                    replace H := let_hid H
                    obtain ⟨t_52, ht_52, H⟩ := H
                    replace H := let_hid H
                    obtain ⟨t_53, ht_53, H⟩ := H
                    replace H := join_hid H
                    cases t_53 with
                    | false =>
                      replace H := ite_f H
                      replace H := app_hid H
                      replace H := ite_f H
                      replace H := join_hid H
                      cases seen_3l0 with
                      | false =>
                        replace H := ite_f H
                        replace H := idx_hid H
                        obtain ⟨nt_67, yt_67, et_67, lt_67, gt_67, H⟩ := H
                        obtain rfl : nt_52 = nt_67 := by omega
                        clear et_67
                        obtain rfl := Option.some.inj (gt_52.out.symm.trans gt_67.out)
                        clear gt_67 lt_67
                        replace H := let_hid H
                        obtain ⟨t_67, ht_67, H⟩ := H
                        obtain rfl := ht_52.symm.trans ht_67
                        replace H := let_hid H
                        obtain ⟨t_68, ht_68, H⟩ := H
                        replace H := app_hid H
                        replace H := let_hid H
                        obtain ⟨t_72, ht_72, H⟩ := H
                        replace H := app_hid H
                        go_wp2_with fail
                        go_roundg m0
                        case measure => omega
                        case rel => exact ⟨_, _, rfl, rfl, H, HBwr0, kp_0_0, kp_0_1, kp_0_2, kp_0_3, kp_0_4, kp_0_5⟩
                      | true =>
                        replace H := ite_t H
                        replace H := app_hid H
                        replace H := let_hid H
                        obtain ⟨t_72, ht_72, H⟩ := H
                        replace H := app_hid H
                        go_wp2_with fail
                        go_roundg m0
                        case measure => omega
                        case rel => exact ⟨_, _, rfl, rfl, H, HBwr0, kp_0_0, kp_0_1, kp_0_2, kp_0_3, kp_0_4, kp_0_5⟩
                    | true =>
                      replace H := ite_t H
                      replace H := idx_hid H
                      obtain ⟨nt_58, yt_58, et_58, lt_58, gt_58, H⟩ := H
                      obtain rfl : nt_52 = nt_58 := by omega
                      clear et_58
                      obtain rfl := Option.some.inj (gt_52.out.symm.trans gt_58.out)
                      clear gt_58 lt_58
                      replace H := let_hid H
                      obtain ⟨t_58, ht_58, H⟩ := H
                      obtain rfl := ht_52.symm.trans ht_58
                      replace H := let_hid H
                      obtain ⟨t_59, ht_59, H⟩ := H
                      replace H := app_hid H
                      cases t_59 with
                      | false =>
                        replace H := ite_f H
                        replace H := join_hid H
                        cases seen_3l0 with
                        | false =>
                          replace H := ite_f H
                          replace H := idx_hid H
                          obtain ⟨nt_67, yt_67, et_67, lt_67, gt_67, H⟩ := H
                          obtain rfl : nt_52 = nt_67 := by omega
                          clear et_67
                          obtain rfl := Option.some.inj (gt_52.out.symm.trans gt_67.out)
                          clear gt_67 lt_67
                          replace H := let_hid H
                          obtain ⟨t_67, ht_67, H⟩ := H
                          obtain rfl := ht_52.symm.trans ht_67
                          replace H := let_hid H
                          obtain ⟨t_68, ht_68, H⟩ := H
                          replace H := app_hid H
                          replace H := let_hid H
                          obtain ⟨t_72, ht_72, H⟩ := H
                          replace H := app_hid H
                          go_wp2_with fail
                          go_roundg m0
                          case measure => omega
                          case rel => exact ⟨_, _, rfl, rfl, H, HBwr0, kp_0_0, kp_0_1, kp_0_2, kp_0_3, kp_0_4, kp_0_5⟩
                        | true =>
                          replace H := ite_t H
                          replace H := app_hid H
                          replace H := let_hid H
                          obtain ⟨t_72, ht_72, H⟩ := H
                          replace H := app_hid H
                          go_wp2_with fail
                          go_roundg m0
                          case measure => omega
                          case rel => exact ⟨_, _, rfl, rfl, H, HBwr0, kp_0_0, kp_0_1, kp_0_2, kp_0_3, kp_0_4, kp_0_5⟩
                      | true =>
                        replace H := ite_t H
                        obtain rfl := ret_hid H
                        go_wp2_with fail
                        go_ret
                        exact ⟨rfl, HBwr0.out⟩
            | true =>
              have nht_39 : ¬ (p_lost.size = p_town.size) := by have := bne_iff_ne.1 ht_39; omega
              replace H := ite_t H
              obtain rfl := ret_hid H
              go_wp2_with fail
              go_ret
              exact ⟨rfl, HBwt_29.out⟩
end Go.Proofs.YtgimcnpkngpmiaaGreatDoor.GsL11One

/- loop.example/g01062/spec.l11Good as a plain function, and the contract of the program's: where the plain one has an answer, the program has it. Conditions: slices read as lists. -/
namespace Go.Proofs.YtgimcnpkngpmiaaGreatDoor.GsL11Good
set_option linter.unusedVariables false
set_option linter.unusedSimpArgs false
open Go.RowKit
open Go.Proofs.YtgimcnpkngpmiaaGreatDoor.Rowed Go.Proofs.YtgimcnpkngpmiaaGreatDoor.Turn Go.Proofs.YtgimcnpkngpmiaaGreatDoor.Aid Go.Proofs.YtgimcnpkngpmiaaGreatDoor.GoP Go.Proofs.YtgimcnpkngpmiaaGreatDoor.GoM

def l0 (list : (List Go.Proofs.YtgimcnpkngpmiaaGreatDoor.PPostmark.Postmark)) (fuel : Nat) (k0 : Nat) (s : Unit) (nx0 bk0 : Unit → Option (Bool)) : Option (Bool) :=
  
  Option.bind (idx list (k0 : Int)) fun (yt_8 : Go.Proofs.YtgimcnpkngpmiaaGreatDoor.PPostmark.Postmark) =>
  unPostmark yt_8 fun (t_8_id : Int) (t_8_town : ByteArray) (t_8_kind_ : Int) (t_8_first : Int) (t_8_last : Int) (t_8_lost : ByteArray) =>
  Option.bind (Go.Proofs.YtgimcnpkngpmiaaGreatDoor.GsL11One.P fuel (Go.Proofs.YtgimcnpkngpmiaaGreatDoor.PPostmark.Postmark.mk t_8_id t_8_town t_8_kind_ t_8_first t_8_last t_8_lost)) fun (t_10 : Bool) =>
  letK (!t_10) fun (t_11 : Bool) =>
  joinK (fun (t_29 : Bool) =>
  iteK t_29
  (some false)
  (appK nx0 ())) fun jt_29 => iteK t_11 (appK jt_29 true) (letK (decide (0 < (k0 : Int))) fun (t_14 : Bool) =>
  joinK (fun (t_28 : Bool) =>
  appK jt_29 t_28) fun jt_28 => iteK t_14 (letK (IntKind.i64.wrap ((k0 : Int) - 1)) fun (t_18 : Int) =>
  Option.bind (idx list t_18) fun (yt_19 : Go.Proofs.YtgimcnpkngpmiaaGreatDoor.PPostmark.Postmark) =>
  unPostmark yt_19 fun (t_19_id : Int) (t_19_town : ByteArray) (t_19_kind_ : Int) (t_19_first : Int) (t_19_last : Int) (t_19_lost : ByteArray) =>
  Option.bind (idx list (k0 : Int)) fun (yt_24 : Go.Proofs.YtgimcnpkngpmiaaGreatDoor.PPostmark.Postmark) =>
  unPostmark yt_24 fun (t_24_id : Int) (t_24_town : ByteArray) (t_24_kind_ : Int) (t_24_first : Int) (t_24_last : Int) (t_24_lost : ByteArray) =>
  letK (decide (t_24_id ≤ t_19_id)) fun (t_27 : Bool) =>
  appK jt_28 t_27) (appK jt_28 false))

def e0 (list : (List Go.Proofs.YtgimcnpkngpmiaaGreatDoor.PPostmark.Postmark)) (s : Unit) : Option (Bool) :=
  
  letK (decide ((list.length : Int) ≤ 12)) fun (t_36 : Bool) =>
  some t_36

def P (fuel : Nat) (list : (List Go.Proofs.YtgimcnpkngpmiaaGreatDoor.PPostmark.Postmark)) : Option (Bool) :=
  cntK (l0 list fuel) (list.length) 0 () (e0 list)

set_option maxRecDepth 100000 in
set_option maxHeartbeats 2000000 in
theorem C (fuel : Nat) (list : (List Go.Proofs.YtgimcnpkngpmiaaGreatDoor.PPostmark.Postmark)) (A0 : Option Addr) (c0 : Nat)  (w : World) (M0 : Hid (Cells w 6 A0 list.length (Go.Proofs.YtgimcnpkngpmiaaGreatDoor.PPostmark.flat list))) (N0 : Hid (list.length ≤ 9223372036854775807))  {r : Bool} (H : Hid (P fuel list = some r)) :
    Calls Tryz.prog 27 #[.slice A0 list.length c0] w (Gives (.bool r) w) := by
  have HB := Lib.hid (Below.refl w.heap.size w)
  unfold P at H
  have N0o := N0.out
  go_enter Tryz.func27, Tryz.ntmps27
  go_wp2_with fail
  go_loopg [3] (list.length) (fun m_ v3_ wr => ∃ (k0 : Nat) , k0 + m_ = list.length ∧ v3_ = .int .i64 (k0 : Int) ∧ Hid (cntK (l0 list fuel) m_ k0 () (e0 list) = some r) ∧ Hid (Below w.heap.size w wr))
  case atStart => exact ⟨0, by omega, rfl, H, HB⟩
  case round =>
    obtain ⟨k0, hkm0, rfl, H, HBwr0⟩ := hrel
    rename World => wr0
    cases gk with
    | zero =>
      obtain rfl : k0 = list.length := by omega
      have hc0 : decide (((list.length : Nat) : Int) < ((list.length : Nat) : Int)) = false := by simp
      replace H := cnt_zero H
      unfold e0 at H
      replace H := let_hid H
      obtain ⟨t_36, ht_36, H⟩ := H
      obtain rfl := ret_hid H
      go_wp2_with fail
      go_ret
      exact ⟨rfl, HBwr0.out⟩
    | succ m0 =>
      have hlt0 : k0 < list.length := by omega
      have hc0 : decide ((k0 : Int) < ((list.length : Nat) : Int)) = true := by simp; omega
      replace H := cnt_succ H
      unfold l0 at H
      go_wp2_with fail
      replace H := idx_hid H
      obtain ⟨nt_8, yt_8, et_8, lt_8, gt_8, H⟩ := H
      obtain rfl : k0 = nt_8 := by omega
      clear et_8
      obtain ⟨t_8_id, t_8_town, t_8_kind_, t_8_first, t_8_last, t_8_lost⟩ := yt_8
      replace H := unPostmark_hid H
      obtain ⟨ab_t_8, ao_t_8, zt_8, At_8, z_t_8, ct_8_0, ct_8_1, ct_8_2, ct_8_3, ct_8_4, ct_8_5⟩ := Go.Proofs.YtgimcnpkngpmiaaGreatDoor.OPostmark.at_ M0.out lt_8
      obtain rfl := Option.some.inj (gt_8.out.symm.trans z_t_8)
      subst At_8
      have ltt_8 := cell_lt ct_8_0
      replace ct_8_0 := cell_below HBwr0.out ct_8_0
      replace ct_8_1 := cell_below HBwr0.out ct_8_1
      replace ct_8_2 := cell_below HBwr0.out ct_8_2
      replace ct_8_3 := cell_below HBwr0.out ct_8_3
      replace ct_8_4 := cell_below HBwr0.out ct_8_4
      replace ct_8_5 := cell_below HBwr0.out ct_8_5
      clear z_t_8
      have b0t_8 : (0 : Int) ≤ (k0 : Int) := by omega
      have b1t_8 : (k0 : Int) < ((list.length : Nat) : Int) := by omega
      have b2t_8 : ((k0 : Int)).toNat = k0 := by omega
      have Hct_8_0 := Lib.hid ct_8_0
      replace ct_8_0 := cell_regrown ct_8_0
      have Hct_8_1 := Lib.hid ct_8_1
      replace ct_8_1 := cell_regrown ct_8_1
      have Hct_8_2 := Lib.hid ct_8_2
      replace ct_8_2 := cell_regrown ct_8_2
      have Hct_8_3 := Lib.hid ct_8_3
      replace ct_8_3 := cell_regrown ct_8_3
      have Hct_8_4 := Lib.hid ct_8_4
      replace ct_8_4 := cell_regrown ct_8_4
      have Hct_8_5 := Lib.hid ct_8_5
      replace ct_8_5 := cell_regrown ct_8_5
      replace H := bind_hid H
      obtain ⟨t_10, qt_10, H⟩ := H
      have nt_10 : ∀ d os, Calls Tryz.prog 49 #[.agg #[.int .i64 t_8_id, .string t_8_town, .int .i64 t_8_kind_, .int .i64 t_8_first, .int .i64 t_8_last, .string t_8_lost]] (Go.Sort.grow (redrawn wr0 d) os) fun e w'' => e = .returned (.bool t_10) ∧ ∃ p : Regrown, w'' = Go.Sort.grow (redrawn wr0 p.d) p.os := fun d os => Calls.regrown_of (Go.Proofs.YtgimcnpkngpmiaaGreatDoor.GsL11One.C fuel ((Go.Proofs.YtgimcnpkngpmiaaGreatDoor.PPostmark.Postmark.mk t_8_id t_8_town t_8_kind_ t_8_first t_8_last t_8_lost))  _    qt_10)
      cases t_10 with
      | false =>
        replace H := let_hid H
        obtain ⟨t_11, ht_11, H⟩ := H
        obtain rfl : t_11 = true := ht_11.symm
        replace H := join_hid H
        replace H := ite_t H
        replace H := app_hid H
        refine wp_region_quiet_below (by kernel_rfl) (by kernel_rfl) ?_
        repeat (go_big_quiet_step (first | (go_at_call 49; exact nt_10 _ _)))
        refine wpQuiet_nil ?_
        intro Y4 hY4
        replace hY4 := below_class hY4
        clear nt_10
        replace ct_8_0 := Hct_8_0.out
        clear Hct_8_0
        replace ct_8_1 := Hct_8_1.out
        clear Hct_8_1
        replace ct_8_2 := Hct_8_2.out
        clear Hct_8_2
        replace ct_8_3 := Hct_8_3.out
        clear Hct_8_3
        replace ct_8_4 := Hct_8_4.out
        clear Hct_8_4
        replace ct_8_5 := Hct_8_5.out
        clear Hct_8_5
        have HBY4 := Lib.hid (Below.step HBwr0.out hY4)
        replace ct_8_0 := cell_below hY4 ct_8_0
        replace ct_8_1 := cell_below hY4 ct_8_1
        replace ct_8_2 := cell_below hY4 ct_8_2
        replace ct_8_3 := cell_below hY4 ct_8_3
        replace ct_8_4 := cell_below hY4 ct_8_4
        replace ct_8_5 := cell_below hY4 ct_8_5
        clear hY4
        replace H := ite_t H
        obtain rfl := ret_hid H
        go_wp2_with fail
        go_ret
        exact ⟨rfl, HBY4.out⟩
      | true =>
        replace H := let_hid H
        obtain ⟨t_11, ht_11, H⟩ := H
        obtain rfl : t_11 = false := ht_11.symm
        replace H := join_hid H
        replace H := ite_f H
        replace H := let_hid H
        obtain ⟨t_14, ht_14, H⟩ := H
        replace H := join_hid H
        cases t_14 with
        | false =>
          have nht_14 : ¬ (0 < k0) := by have := of_decide_eq_false ht_14; omega
          replace H := ite_f H
          replace H := app_hid H
          replace H := app_hid H
          refine wp_region_quiet_below (by kernel_rfl) (by kernel_rfl) ?_
          repeat (go_big_quiet_step (first | (go_at_call 49; exact nt_10 _ _)))
          refine wpQuiet_nil ?_
          intro Y4 hY4
          replace hY4 := below_class hY4
          clear nt_10
          replace ct_8_0 := Hct_8_0.out
          clear Hct_8_0
          replace ct_8_1 := Hct_8_1.out
          clear Hct_8_1
          replace ct_8_2 := Hct_8_2.out
          clear Hct_8_2
          replace ct_8_3 := Hct_8_3.out
          clear Hct_8_3
          replace ct_8_4 := Hct_8_4.out
          clear Hct_8_4
          replace ct_8_5 := Hct_8_5.out
          clear Hct_8_5
          have HBY4 := Lib.hid (Below.step HBwr0.out hY4)
          replace ct_8_0 := cell_below hY4 ct_8_0
          replace ct_8_1 := cell_below hY4 ct_8_1
          replace ct_8_2 := cell_below hY4 ct_8_2
          replace ct_8_3 := cell_below hY4 ct_8_3
          replace ct_8_4 := cell_below hY4 ct_8_4
          replace ct_8_5 := cell_below hY4 ct_8_5
          clear hY4
          replace H := ite_f H
          replace H := app_hid H
          go_wp2_with fail
          go_roundg m0
          case measure => omega
          case rel => exact ⟨k0 + 1, by omega, by go_num, H, HBY4⟩
        | true =>
          have nht_14 : 0 < k0 := by have := of_decide_eq_true ht_14; omega
          replace H := ite_t H
          replace H := let_hid H
          obtain ⟨t_18, ht_18, H⟩ := H
          replace H := idx_hid H
          obtain ⟨nt_19, yt_19, et_19, lt_19, gt_19, H⟩ := H
          subst et_19
          obtain ⟨t_19_id, t_19_town, t_19_kind_, t_19_first, t_19_last, t_19_lost⟩ := yt_19
          replace H := unPostmark_hid H
          obtain ⟨ab_t_19, ao_t_19, zt_19, At_19, z_t_19, ct_19_0, ct_19_1, ct_19_2, ct_19_3, ct_19_4, ct_19_5⟩ := Go.Proofs.YtgimcnpkngpmiaaGreatDoor.OPostmark.at_ M0.out lt_19
          obtain rfl := Option.some.inj (gt_19.out.symm.trans z_t_19)
          simp only [Option.some.injEq, Addr.mk.injEq] at At_19
          obtain ⟨rfl, rfl, _⟩ := At_19
          have ltt_19 := cell_lt ct_19_0
          replace ct_19_0 := cell_below HBwr0.out ct_19_0
          replace ct_19_1 := cell_below HBwr0.out ct_19_1
          replace ct_19_2 := cell_below HBwr0.out ct_19_2
          replace ct_19_3 := cell_below HBwr0.out ct_19_3
          replace ct_19_4 := cell_below HBwr0.out ct_19_4
          replace ct_19_5 := cell_below HBwr0.out ct_19_5
          clear z_t_19
          have b0t_19 : (0 : Int) ≤ (nt_19 : Int) := by omega
          have b1t_19 : (nt_19 : Int) < ((list.length : Nat) : Int) := by omega
          have b2t_19 : ((nt_19 : Int)).toNat = nt_19 := by omega
          have Hct_19_0 := Lib.hid ct_19_0
          replace ct_19_0 := cell_regrown ct_19_0
          have Hct_19_1 := Lib.hid ct_19_1
          replace ct_19_1 := cell_regrown ct_19_1
          have Hct_19_2 := Lib.hid ct_19_2
          replace ct_19_2 := cell_regrown ct_19_2
          have Hct_19_3 := Lib.hid ct_19_3
          replace ct_19_3 := cell_regrown ct_19_3
          have Hct_19_4 := Lib.hid ct_19_4
          replace ct_19_4 := cell_regrown ct_19_4
          have Hct_19_5 := Lib.hid ct_19_5
          replace ct_19_5 := cell_regrown ct_19_5
          replace H := idx_hid H
          obtain ⟨nt_24, yt_24, et_24, lt_24, gt_24, H⟩ := H
          obtain rfl : k0 = nt_24 := by omega
          clear et_24
          obtain rfl := Option.some.inj (gt_8.out.symm.trans gt_24.out)
          clear gt_24 lt_24
          replace H := unPostmark_hid H
          replace H := let_hid H
          obtain ⟨t_27, ht_27, H⟩ := H
          replace H := app_hid H
          replace H := app_hid H
          refine wp_region_quiet_below (by kernel_rfl) (by kernel_rfl) ?_
          repeat (go_big_quiet_step (first | (go_at_call 49; exact nt_10 _ _)))
          refine wpQuiet_nil ?_
          intro Y4 hY4
          replace hY4 := below_class hY4
          clear nt_10
          replace ct_8_0 := Hct_8_0.out
          clear Hct_8_0
          replace ct_8_1 := Hct_8_1.out
          clear Hct_8_1
          replace ct_8_2 := Hct_8_2.out
          clear Hct_8_2
          replace ct_8_3 := Hct_8_3.out
          clear Hct_8_3
          replace ct_8_4 := Hct_8_4.out
          clear Hct_8_4
          replace ct_8_5 := Hct_8_5.out
          clear Hct_8_5
          replace ct_19_0 := Hct_19_0.out
          clear Hct_19_0
          replace ct_19_1 := Hct_19_1.out
          clear Hct_19_1
          replace ct_19_2 := Hct_19_2.out
          clear Hct_19_2
          replace ct_19_3 := Hct_19_3.out
          clear Hct_19_3
          replace ct_19_4 := Hct_19_4.out
          clear Hct_19_4
          replace ct_19_5 := Hct_19_5.out
          clear Hct_19_5
          have HBY4 := Lib.hid (Below.step HBwr0.out hY4)
          replace ct_8_0 := cell_below hY4 ct_8_0
          replace ct_8_1 := cell_below hY4 ct_8_1
          replace ct_8_2 := cell_below hY4 ct_8_2
          replace ct_8_3 := cell_below hY4 ct_8_3
          replace ct_8_4 := cell_below hY4 ct_8_4
          replace ct_8_5 := cell_below hY4 ct_8_5
          replace ct_19_0 := cell_below hY4 ct_19_0
          replace ct_19_1 := cell_below hY4 ct_19_1
          replace ct_19_2 := cell_below hY4 ct_19_2
          replace ct_19_3 := cell_below hY4 ct_19_3
          replace ct_19_4 := cell_below hY4 ct_19_4
          replace ct_19_5 := cell_below hY4 ct_19_5
          clear hY4
          cases t_27 with
          | false =>
            replace H := ite_f H
            replace H := app_hid H
            go_wp2_with fail
            go_roundg m0
            case measure => omega
            case rel => exact ⟨k0 + 1, by omega, by go_num, H, HBY4⟩
          | true =>
            replace H := ite_t H
            obtain rfl := ret_hid H
            go_wp2_with fail
            go_ret
            exact ⟨rfl, HBY4.out⟩
end Go.Proofs.YtgimcnpkngpmiaaGreatDoor.GsL11Good

/- loop.example/g01062/spec.ExtendUse as a plain function, and the contract of the program's: where the plain one has an answer, the program has it. Conditions: slices read as lists. -/
namespace Go.Proofs.YtgimcnpkngpmiaaGreatDoor.GsExtendUse
set_option linter.unusedVariables false
set_option linter.unusedSimpArgs false
open Go.RowKit
open Go.Proofs.YtgimcnpkngpmiaaGreatDoor.Rowed Go.Proofs.YtgimcnpkngpmiaaGreatDoor.Turn Go.Proofs.YtgimcnpkngpmiaaGreatDoor.Aid Go.Proofs.YtgimcnpkngpmiaaGreatDoor.GoP Go.Proofs.YtgimcnpkngpmiaaGreatDoor.GoM

def P (fuel : Nat) (list : (List Go.Proofs.YtgimcnpkngpmiaaGreatDoor.PPostmark.Postmark)) (id : Int) (day : Int) : Option ((List Go.Proofs.YtgimcnpkngpmiaaGreatDoor.PPostmark.Postmark) × Int × Bool) :=
  Option.bind (Go.Proofs.YtgimcnpkngpmiaaGreatDoor.GsL11Find.P list id) fun (t_5 : Int) =>
  Option.bind (Go.Proofs.YtgimcnpkngpmiaaGreatDoor.GsL11Good.P fuel list) fun (t_8 : Bool) =>
  letK (!t_8) fun (t_9 : Bool) =>
  joinK (fun (t_13 : Bool) =>
  joinK (fun (t_18 : Bool) =>
  iteK t_18
  (some (([] : List Go.Proofs.YtgimcnpkngpmiaaGreatDoor.PPostmark.Postmark), 0, false))
  (guardK (([] : List Go.Proofs.YtgimcnpkngpmiaaGreatDoor.PPostmark.Postmark).length + list.length ≤ 1099511627776) <|
  letK (([] : List Go.Proofs.YtgimcnpkngpmiaaGreatDoor.PPostmark.Postmark) ++ list) fun (t_25 : (List Go.Proofs.YtgimcnpkngpmiaaGreatDoor.PPostmark.Postmark)) =>
  Option.bind (idx t_25 t_5) fun (yt_29 : Go.Proofs.YtgimcnpkngpmiaaGreatDoor.PPostmark.Postmark) =>
  unPostmark yt_29 fun (t_29_id : Int) (t_29_town : ByteArray) (t_29_kind_ : Int) (t_29_first : Int) (t_29_last : Int) (t_29_lost : ByteArray) =>
  letK (IntKind.i64.wrap (t_29_first - day)) fun (t_36 : Int) =>
  Option.bind (Go.Proofs.YtgimcnpkngpmiaaGreatDoor.GsL1Most.P 0 t_36) fun (t_37 : Int) =>
  letK (IntKind.i64.wrap (day - t_29_last)) fun (t_41 : Int) =>
  Option.bind (Go.Proofs.YtgimcnpkngpmiaaGreatDoor.GsL1Most.P 0 t_41) fun (t_42 : Int) =>
  letK (IntKind.i64.wrap (t_37 + t_42)) fun (t_43 : Int) =>
  Option.bind (Go.Proofs.YtgimcnpkngpmiaaGreatDoor.GsL1Least.P t_29_first day) fun (t_48 : Int) =>
  Option.bind (Go.Proofs.YtgimcnpkngpmiaaGreatDoor.GsL1Most.P t_29_last day) fun (t_54 : Int) =>
  Option.bind (idx t_25 t_5) fun (yt_60 : Go.Proofs.YtgimcnpkngpmiaaGreatDoor.PPostmark.Postmark) =>
  unPostmark yt_60 fun (t_60_id : Int) (t_60_town : ByteArray) (t_60_kind_ : Int) (t_60_first : Int) (t_60_last : Int) (t_60_lost : ByteArray) =>
  letK (t_25.set (t_5).toNat (Go.Proofs.YtgimcnpkngpmiaaGreatDoor.PPostmark.Postmark.mk t_29_id t_29_town t_29_kind_ t_48 t_54 t_29_lost)) fun (l61_61 : (List Go.Proofs.YtgimcnpkngpmiaaGreatDoor.PPostmark.Postmark)) =>
  some (l61_61, t_43, true))) fun jt_18 => iteK t_13 (appK jt_18 true) (Option.bind (Go.Proofs.YtgimcnpkngpmiaaGreatDoor.GsL2Day.P day) fun (t_16 : Bool) =>
  letK (!t_16) fun (t_17 : Bool) =>
  appK jt_18 t_17)) fun jt_13 => iteK t_9 (appK jt_13 true) (letK (decide (t_5 < 0)) fun (t_12 : Bool) =>
  appK jt_13 t_12)

set_option maxRecDepth 100000 in
set_option maxHeartbeats 2000000 in
theorem C (fuel : Nat) (list : (List Go.Proofs.YtgimcnpkngpmiaaGreatDoor.PPostmark.Postmark)) (id : Int) (day : Int) (A0 : Option Addr) (c0 : Nat)  (w : World) (M0 : Hid (Cells w 6 A0 list.length (Go.Proofs.YtgimcnpkngpmiaaGreatDoor.PPostmark.flat list))) (N0 : Hid (list.length ≤ 9223372036854775807)) (Q0 : Hid (Room A0 list.length c0))  {r0 : (List Go.Proofs.YtgimcnpkngpmiaaGreatDoor.PPostmark.Postmark)} {r1 : Int} {r2 : Bool} (H : Hid (P fuel list id day = some (r0, r1, r2))) :
    Calls Tryz.prog 7 #[.slice A0 list.length c0, .int .i64 id, .int .i64 day] w (fun e w' => ∃ A_r0 c_r0, e = .returned (.tuple #[.slice A_r0 r0.length c_r0, .int .i64 r1, .bool r2]) ∧ w'.ownsRow w.heap.size 34 6 (.slice A_r0 r0.length c_r0) r0.length (Go.Proofs.YtgimcnpkngpmiaaGreatDoor.PPostmark.flat r0) ∧ Below w.heap.size w w') := by
  have HB := Lib.hid (Below.refl w.heap.size w)
  unfold P at H
  have N0o := N0.out
  obtain ⟨i0_34, hi_34, hz0_34, hz1_34, hz2_34⟩ := Aid.info_parts (P := Tryz.prog) (T := 34) (z := .agg #[.int .i64 0, .string ByteArray.empty, .int .i64 0, .int .i64 0, .int .i64 0, .string ByteArray.empty]) (s := 6) (b := 64) (by kernel_rfl)
  go_enter Tryz.func7, Tryz.ntmps7
  replace H := bind_hid H
  obtain ⟨t_5, qt_5, H⟩ := H
  go_wp2_with fail
  go_at_call 26
  refine (Go.Proofs.YtgimcnpkngpmiaaGreatDoor.GsL11Find.C (list) (id) A0 c0 _   (Lib.hid (Cells.below M0.out HB.out)) N0 qt_5).mono ?_
  rintro e_t_5 wt_5 ⟨rfl, bt_5⟩
  have HBwt_5 := Lib.hid (Below.step HB.out bt_5)
  clear bt_5
  replace H := bind_hid H
  obtain ⟨t_8, qt_8, H⟩ := H
  go_wp2_with fail
  go_at_call 27
  refine (Go.Proofs.YtgimcnpkngpmiaaGreatDoor.GsL11Good.C fuel (list) A0 c0 _   (Lib.hid (Cells.below M0.out HBwt_5.out)) N0 qt_8).mono ?_
  rintro e_t_8 wt_8 ⟨rfl, bt_8⟩
  have HBwt_8 := Lib.hid (Below.step HBwt_5.out bt_8)
  clear bt_8
  cases t_8 with
  | false =>
    replace H := let_hid H
    obtain ⟨t_9, ht_9, H⟩ := H
    obtain rfl : t_9 = true := ht_9.symm
    replace H := join_hid H
    replace H := ite_t H
    replace H := app_hid H
    replace H := join_hid H
    replace H := ite_t H
    replace H := app_hid H
    replace H := ite_t H
    obtain ⟨w_t_19, hw_t_19⟩ : ∃ x, wt_8.alloc (.cells #[] 34) = x := ⟨_, rfl⟩
    have bw_t_19 : Below wt_8.heap.size wt_8 w_t_19 := by rw [← hw_t_19]; exact (Below.refl _ _).alloc (Nat.le_refl _) _
    have Ot_19 : Hid (w_t_19.ownsRow w.heap.size 34 6 (.slice (some ⟨wt_8.heap.size, 0, none⟩) 0 0) 0 []) := Lib.hid (by rw [← hw_t_19]; exact own_empty HBwt_8.out.size)
    have HBw_t_19 := Lib.hid (Below.step HBwt_8.out bw_t_19)
    clear bw_t_19
    cases ret_hid H
    go_wp2_with fail
    go_ret3
    exact ⟨(some ⟨wt_8.heap.size, 0, none⟩), 0, rfl, Ot_19.out, HBw_t_19.out⟩
  | true =>
    replace H := let_hid H
    obtain ⟨t_9, ht_9, H⟩ := H
    obtain rfl : t_9 = false := ht_9.symm
    replace H := join_hid H
    replace H := ite_f H
    replace H := let_hid H
    obtain ⟨t_12, ht_12, H⟩ := H
    replace H := app_hid H
    replace H := join_hid H
    cases t_12 with
    | false =>
      replace H := ite_f H
      replace H := bind_hid H
      obtain ⟨t_16, qt_16, H⟩ := H
      go_wp2_with fail
      go_at_call 28
      refine (Go.Proofs.YtgimcnpkngpmiaaGreatDoor.GsL2Day.C (day)  _    qt_16).mono ?_
      rintro e_t_16 wt_16 ⟨rfl, bt_16⟩
      have HBwt_16 := Lib.hid (Below.step HBwt_8.out bt_16)
      clear bt_16
      cases t_16 with
      | false =>
        replace H := let_hid H
        obtain ⟨t_17, ht_17, H⟩ := H
        obtain rfl : t_17 = true := ht_17.symm
        replace H := app_hid H
        replace H := ite_t H
        obtain ⟨w_t_19, hw_t_19⟩ : ∃ x, wt_16.alloc (.cells #[] 34) = x := ⟨_, rfl⟩
        have bw_t_19 : Below wt_16.heap.size wt_16 w_t_19 := by rw [← hw_t_19]; exact (Below.refl _ _).alloc (Nat.le_refl _) _
        have Ot_19 : Hid (w_t_19.ownsRow w.heap.size 34 6 (.slice (some ⟨wt_16.heap.size, 0, none⟩) 0 0) 0 []) := Lib.hid (by rw [← hw_t_19]; exact own_empty HBwt_16.out.size)
        have HBw_t_19 := Lib.hid (Below.step HBwt_16.out bw_t_19)
        clear bw_t_19
        cases ret_hid H
        go_wp2_with fail
        go_ret3
        exact ⟨(some ⟨wt_16.heap.size, 0, none⟩), 0, rfl, Ot_19.out, HBw_t_19.out⟩
      | true =>
        replace H := let_hid H
        obtain ⟨t_17, ht_17, H⟩ := H
        obtain rfl : t_17 = false := ht_17.symm
        replace H := app_hid H
        replace H := ite_f H
        obtain ⟨w_t_23, hw_t_23⟩ : ∃ x, wt_16.alloc (.cells #[] 34) = x := ⟨_, rfl⟩
        have bw_t_23 : Below wt_16.heap.size wt_16 w_t_23 := by rw [← hw_t_23]; exact (Below.refl _ _).alloc (Nat.le_refl _) _
        have Ot_23 : Hid (w_t_23.ownsRow w.heap.size 34 6 (.slice (some ⟨wt_16.heap.size, 0, none⟩) 0 0) 0 []) := Lib.hid (by rw [← hw_t_23]; exact own_empty HBwt_16.out.size)
        have HBw_t_23 := Lib.hid (Below.step HBwt_16.out bw_t_23)
        clear bw_t_23
        replace H := guard_hid H
        obtain ⟨hlt_25, H⟩ := H
        replace H := let_hid H
        obtain ⟨t_25, ht_25, H⟩ := H
        have hht_25 := Lib.hid ht_25
        clear ht_25
        have hst_25 := HBw_t_23.out.size
        have Ct_25 := Lib.hid ((Cells.below M0.out HBw_t_23.out))
        go_wp2_with (at_builtin; refine append_spread rfl _ _ 24 rfl w.heap.size 34 i0_34 (.agg #[.int .i64 0, .string ByteArray.empty, .int .i64 0, .int .i64 0, .int .i64 0, .string ByteArray.empty]) 6 64 Tryz.underlying24 hi_34 hz0_34 hz1_34 hz2_34 rfl (by decide) (some ⟨wt_16.heap.size, 0, none⟩) 0 0 _ rfl Ot_23.out A0 list.length c0 (Go.Proofs.YtgimcnpkngpmiaaGreatDoor.PPostmark.flat list) rfl Q0.out Ct_25.out (fun u hu => by obtain ⟨y_, _, hy_⟩ := List.mem_flatMap.1 hu; simp only [Go.Proofs.YtgimcnpkngpmiaaGreatDoor.PPostmark.Postmark.cells, List.mem_cons, List.not_mem_nil, or_false] at hy_; rcases hy_ with rfl | rfl | rfl | rfl | rfl | rfl <;> rfl) (by unfold maxLen; simp only [List.length_nil] at hlt_25; omega) (by simp only [List.length_nil] at hlt_25; omega) hst_25 ?_; intro vt_25 wt_25 ot_25 gt_25 yt_25; obtain ⟨At_25, ct_25, rfl, pt_25⟩ := own_pushS (f := Go.Proofs.YtgimcnpkngpmiaaGreatDoor.PPostmark.flat) hht_25.out (by simp [Go.Proofs.YtgimcnpkngpmiaaGreatDoor.PPostmark.flat]) rfl ot_25; have Pt_25 := Lib.hid pt_25; have Yt_25 := Lib.hid yt_25; have Gt_25 := Lib.hid gt_25; clear ot_25 gt_25 pt_25 yt_25; refine stop_in ?_)
        refine stop_out ?_
        clear Ct_25
        have HBwt_25 := Lib.hid (HBw_t_23.out.grown Gt_25.out hst_25 (fun q hq => (Ot_23.out.lt q hq).1))
        clear hst_25
        clear Ot_23 Yt_25 Gt_25
        replace H := idx_hid H
        obtain ⟨nt_29, yt_29, et_29, lt_29, gt_29, H⟩ := H
        subst et_29
        have nc_400 : ¬ (nt_29 < 0) := by have := of_decide_eq_false ht_12; omega
        obtain ⟨t_29_id, t_29_town, t_29_kind_, t_29_first, t_29_last, t_29_lost⟩ := yt_29
        replace H := unPostmark_hid H
        obtain ⟨qt_29, Qt_29⟩ := own_some Pt_25.out (by omega)
        subst Qt_29
        obtain ⟨ab_t_29, ao_t_29, zt_29, At_29, z_t_29, ct_29_0, ct_29_1, ct_29_2, ct_29_3, ct_29_4, ct_29_5⟩ := Go.Proofs.YtgimcnpkngpmiaaGreatDoor.OPostmark.at_ (own_cells Pt_25.out) (k := nt_29) (by omega)
        obtain rfl := Option.some.inj (gt_29.out.symm.trans z_t_29)
        simp only [Option.some.injEq, Addr.mk.injEq] at At_29
        obtain ⟨rfl, rfl, _⟩ := At_29
        clear z_t_29
        simp only [Nat.zero_add] at ct_29_0 ct_29_1 ct_29_2 ct_29_3 ct_29_4 ct_29_5
        have b0t_29 : (0 : Int) ≤ (nt_29 : Int) := by omega
        have b1t_29 : (nt_29 : Int) < ((t_25.length : Nat) : Int) := by omega
        have b2t_29 : ((nt_29 : Int)).toNat = nt_29 := by omega
        obtain ⟨w_p_31, hw_p_31⟩ : ∃ x, wt_25.alloc (.cells #[.int .i64 t_29_id, .string t_29_town, .int .i64 t_29_kind_, .int .i64 t_29_first, .int .i64 t_29_last, .string t_29_lost] 34) = x := ⟨_, rfl⟩
        have bw_p_31 : Below wt_25.heap.size wt_25 w_p_31 := by rw [← hw_p_31]; exact (Below.refl _ _).alloc (Nat.le_refl _) _
        have Dp_31_t_25 := Lib.hid (apart_fresh Pt_25.out)
        have HBw_p_31 := Lib.hid (Below.step HBwt_25.out bw_p_31)
        have ct_29_0__401 := cell_below bw_p_31 ct_29_0
        have ct_29_1__402 := cell_below bw_p_31 ct_29_1
        have ct_29_2__403 := cell_below bw_p_31 ct_29_2
        have ct_29_3__404 := cell_below bw_p_31 ct_29_3
        have ct_29_4__405 := cell_below bw_p_31 ct_29_4
        have ct_29_5__406 := cell_below bw_p_31 ct_29_5
        replace Pt_25 := Lib.hid (own_below Pt_25.out bw_p_31)
        clear bw_p_31
        have kp_31_0 : w_p_31.cell? ⟨wt_25.heap.size, 0, none⟩ = some (.int .i64 t_29_id) := by rw [← hw_p_31]; exact box_new _ _ _ 0 _ rfl
        have kp_31_1 : w_p_31.cell? ⟨wt_25.heap.size, 1, none⟩ = some (.string t_29_town) := by rw [← hw_p_31]; exact box_new _ _ _ 1 _ rfl
        have kp_31_2 : w_p_31.cell? ⟨wt_25.heap.size, 2, none⟩ = some (.int .i64 t_29_kind_) := by rw [← hw_p_31]; exact box_new _ _ _ 2 _ rfl
        have kp_31_3 : w_p_31.cell? ⟨wt_25.heap.size, 3, none⟩ = some (.int .i64 t_29_first) := by rw [← hw_p_31]; exact box_new _ _ _ 3 _ rfl
        have kp_31_4 : w_p_31.cell? ⟨wt_25.heap.size, 4, none⟩ = some (.int .i64 t_29_last) := by rw [← hw_p_31]; exact box_new _ _ _ 4 _ rfl
        have kp_31_5 : w_p_31.cell? ⟨wt_25.heap.size, 5, none⟩ = some (.string t_29_lost) := by rw [← hw_p_31]; exact box_new _ _ _ 5 _ rfl
        have Op_31 : Hid (w_p_31.ownsRow w.heap.size 34 6 (.slice (some ⟨wt_25.heap.size, 0, none⟩) 1 1) 1 [.int .i64 t_29_id, .string t_29_town, .int .i64 t_29_kind_, .int .i64 t_29_first, .int .i64 t_29_last, .string t_29_lost]) := Lib.hid (by rw [← hw_p_31]; exact own_laid (n := 1) HBwt_25.out.size rfl rfl (by unfold maxLen; omega))
        go_wp2_with fail
        clear ct_29_0 ct_29_1 ct_29_2 ct_29_3 ct_29_4 ct_29_5
        have Hct_29_0__401 := Lib.hid ct_29_0__401
        replace ct_29_0__401 := cell_regrown ct_29_0__401
        have Hct_29_1__402 := Lib.hid ct_29_1__402
        replace ct_29_1__402 := cell_regrown ct_29_1__402
        have Hct_29_2__403 := Lib.hid ct_29_2__403
        replace ct_29_2__403 := cell_regrown ct_29_2__403
        have Hct_29_3__404 := Lib.hid ct_29_3__404
        replace ct_29_3__404 := cell_regrown ct_29_3__404
        have Hct_29_4__405 := Lib.hid ct_29_4__405
        replace ct_29_4__405 := cell_regrown ct_29_4__405
        have Hct_29_5__406 := Lib.hid ct_29_5__406
        replace ct_29_5__406 := cell_regrown ct_29_5__406
        have Hkp_31_0 := Lib.hid kp_31_0
        replace kp_31_0 := cell_regrown kp_31_0
        have Hkp_31_1 := Lib.hid kp_31_1
        replace kp_31_1 := cell_regrown kp_31_1
        have Hkp_31_2 := Lib.hid kp_31_2
        replace kp_31_2 := cell_regrown kp_31_2
        have Hkp_31_3 := Lib.hid kp_31_3
        replace kp_31_3 := cell_regrown kp_31_3
        have Hkp_31_4 := Lib.hid kp_31_4
        replace kp_31_4 := cell_regrown kp_31_4
        have Hkp_31_5 := Lib.hid kp_31_5
        replace kp_31_5 := cell_regrown kp_31_5
        replace H := let_hid H
        obtain ⟨t_36, ht_36, H⟩ := H
        replace H := bind_hid H
        obtain ⟨t_37, qt_37, H⟩ := H
        have nt_37 : ∀ d os, Calls Tryz.prog 29 #[.int .i64 0, .int .i64 t_36] (Go.Sort.grow (redrawn w_p_31 d) os) fun e w'' => e = .returned (.int .i64 t_37) ∧ ∃ p : Regrown, w'' = Go.Sort.grow (redrawn w_p_31 p.d) p.os := fun d os => Calls.regrown_of (Go.Proofs.YtgimcnpkngpmiaaGreatDoor.GsL1Most.C (0) (t_36)  _    qt_37)
        replace H := let_hid H
        obtain ⟨t_41, ht_41, H⟩ := H
        replace H := bind_hid H
        obtain ⟨t_42, qt_42, H⟩ := H
        have nt_42 : ∀ d os, Calls Tryz.prog 29 #[.int .i64 0, .int .i64 t_41] (Go.Sort.grow (redrawn w_p_31 d) os) fun e w'' => e = .returned (.int .i64 t_42) ∧ ∃ p : Regrown, w'' = Go.Sort.grow (redrawn w_p_31 p.d) p.os := fun d os => Calls.regrown_of (Go.Proofs.YtgimcnpkngpmiaaGreatDoor.GsL1Most.C (0) (t_41)  _    qt_42)
        replace H := let_hid H
        obtain ⟨t_43, ht_43, H⟩ := H
        refine wp_region_quiet_below (by kernel_rfl) (by kernel_rfl) ?_
        repeat (go_big_quiet_step (first | (go_at_call 29; with_reducible exact nt_37 _ _) | (go_at_call 29; with_reducible exact nt_42 _ _) | (go_at_call 29; exact nt_37 _ _) | (go_at_call 29; exact nt_42 _ _)))
        refine wpQuiet_nil ?_
        intro Y6 hY6
        replace hY6 := below_class hY6
        clear nt_37 nt_42
        replace ct_29_0__401 := Hct_29_0__401.out
        clear Hct_29_0__401
        replace ct_29_1__402 := Hct_29_1__402.out
        clear Hct_29_1__402
        replace ct_29_2__403 := Hct_29_2__403.out
        clear Hct_29_2__403
        replace ct_29_3__404 := Hct_29_3__404.out
        clear Hct_29_3__404
        replace ct_29_4__405 := Hct_29_4__405.out
        clear Hct_29_4__405
        replace ct_29_5__406 := Hct_29_5__406.out
        clear Hct_29_5__406
        replace kp_31_0 := Hkp_31_0.out
        clear Hkp_31_0
        replace kp_31_1 := Hkp_31_1.out
        clear Hkp_31_1
        replace kp_31_2 := Hkp_31_2.out
        clear Hkp_31_2
        replace kp_31_3 := Hkp_31_3.out
        clear Hkp_31_3
        replace kp_31_4 := Hkp_31_4.out
        clear Hkp_31_4
        replace kp_31_5 := Hkp_31_5.out
        clear Hkp_31_5
        have HBY6 := Lib.hid (Below.step HBw_p_31.out hY6)
        replace ct_29_0__401 := cell_below hY6 ct_29_0__401
        replace ct_29_1__402 := cell_below hY6 ct_29_1__402
        replace ct_29_2__403 := cell_below hY6 ct_29_2__403
        replace ct_29_3__404 := cell_below hY6 ct_29_3__404
        replace ct_29_4__405 := cell_below hY6 ct_29_4__405
        replace ct_29_5__406 := cell_below hY6 ct_29_5__406
        replace kp_31_0 := cell_below hY6 kp_31_0
        replace kp_31_1 := cell_below hY6 kp_31_1
        replace kp_31_2 := cell_below hY6 kp_31_2
        replace kp_31_3 := cell_below hY6 kp_31_3
        replace kp_31_4 := cell_below hY6 kp_31_4
        replace kp_31_5 := cell_below hY6 kp_31_5
        replace Pt_25 := Lib.hid (own_below Pt_25.out hY6)
        replace Op_31 := Lib.hid (own_below Op_31.out hY6)
        clear hY6
        replace H := bind_hid H
        obtain ⟨t_48, qt_48, H⟩ := H
        go_wp2_with fail
        go_at_call 30
        refine (Go.Proofs.YtgimcnpkngpmiaaGreatDoor.GsL1Least.C (t_29_first) (day)  _    qt_48).mono ?_
        rintro e_t_48 wt_48 ⟨rfl, bt_48⟩
        have HBwt_48 := Lib.hid (Below.step HBY6.out bt_48)
        replace ct_29_0__401 := cell_below bt_48 ct_29_0__401
        replace ct_29_1__402 := cell_below bt_48 ct_29_1__402
        replace ct_29_2__403 := cell_below bt_48 ct_29_2__403
        replace ct_29_3__404 := cell_below bt_48 ct_29_3__404
        replace ct_29_4__405 := cell_below bt_48 ct_29_4__405
        replace ct_29_5__406 := cell_below bt_48 ct_29_5__406
        replace kp_31_0 := cell_below bt_48 kp_31_0
        replace kp_31_1 := cell_below bt_48 kp_31_1
        replace kp_31_2 := cell_below bt_48 kp_31_2
        replace kp_31_3 := cell_below bt_48 kp_31_3
        replace kp_31_4 := cell_below bt_48 kp_31_4
        replace kp_31_5 := cell_below bt_48 kp_31_5
        replace Pt_25 := Lib.hid (own_below Pt_25.out bt_48)
        replace Op_31 := Lib.hid (own_below Op_31.out bt_48)
        clear bt_48
        obtain ⟨wb50_50, hwb50_50⟩ : ∃ x, (wt_48).setCell ⟨wt_25.heap.size, 3, none⟩ (.int .i64 t_48) = x := ⟨_, rfl⟩
        have z0b50_50 := Op_31.out.frozenAt 3
        have Sb50_50 := Lib.hid (own_stores [(3, .int .i64 t_48)] Op_31.out)
        have Pb50_50 : Hid (wb50_50.ownsRow w.heap.size 34 6 (.slice (some ⟨wt_25.heap.size, 0, none⟩) 1 1) 1 [.int .i64 t_29_id, .string t_29_town, .int .i64 t_29_kind_, .int .i64 t_48, .int .i64 t_29_last, .string t_29_lost]) := Lib.hid (by rw [← hwb50_50]; exact Sb50_50.out.1)
        have Gb50_50 : Hid (wt_48.grownBy wb50_50 (Value.slice (some ⟨wt_25.heap.size, 0, none⟩) 1 1).ownBlock) := Lib.hid (by rw [← hwb50_50]; exact Sb50_50.out.2)
        have HBwb50_50 := Lib.hid (HBwt_48.out.grown Gb50_50.out HBwt_48.out.size (fun q hq => (Op_31.out.lt q hq).1))
        clear Sb50_50
        have ct_29_0__407 := cell_other ct_29_0__401 Gb50_50.out Dp_31_t_25.out
        have ct_29_1__408 := cell_other ct_29_1__402 Gb50_50.out Dp_31_t_25.out
        have ct_29_2__409 := cell_other ct_29_2__403 Gb50_50.out Dp_31_t_25.out
        have ct_29_3__410 := cell_other ct_29_3__404 Gb50_50.out Dp_31_t_25.out
        have ct_29_4__411 := cell_other ct_29_4__405 Gb50_50.out Dp_31_t_25.out
        have ct_29_5__412 := cell_other ct_29_5__406 Gb50_50.out Dp_31_t_25.out
        replace Pt_25 := Lib.hid (own_other Pt_25.out Gb50_50.out Dp_31_t_25.out)
        clear Op_31 Gb50_50
        have kp_31_0__413 : wb50_50.cell? ⟨wt_25.heap.size, 0, none⟩ = some (.int .i64 t_29_id) := Pb50_50.out.cells rfl 0 _ rfl
        have kp_31_1__414 : wb50_50.cell? ⟨wt_25.heap.size, 1, none⟩ = some (.string t_29_town) := Pb50_50.out.cells rfl 1 _ rfl
        have kp_31_2__415 : wb50_50.cell? ⟨wt_25.heap.size, 2, none⟩ = some (.int .i64 t_29_kind_) := Pb50_50.out.cells rfl 2 _ rfl
        have kp_31_3__416 : wb50_50.cell? ⟨wt_25.heap.size, 3, none⟩ = some (.int .i64 t_48) := Pb50_50.out.cells rfl 3 _ rfl
        have kp_31_4__417 : wb50_50.cell? ⟨wt_25.heap.size, 4, none⟩ = some (.int .i64 t_29_last) := Pb50_50.out.cells rfl 4 _ rfl
        have kp_31_5__418 : wb50_50.cell? ⟨wt_25.heap.size, 5, none⟩ = some (.string t_29_lost) := Pb50_50.out.cells rfl 5 _ rfl
        replace H := bind_hid H
        obtain ⟨t_54, qt_54, H⟩ := H
        go_wp2_with fail
        clear z0b50_50 ct_29_0__401 ct_29_1__402 ct_29_2__403 ct_29_3__404 ct_29_4__405 ct_29_5__406 kp_31_0 kp_31_1 kp_31_2 kp_31_3 kp_31_4 kp_31_5
        go_at_call 29
        refine (Go.Proofs.YtgimcnpkngpmiaaGreatDoor.GsL1Most.C (t_29_last) (day)  _    qt_54).mono ?_
        rintro e_t_54 wt_54 ⟨rfl, bt_54⟩
        have HBwt_54 := Lib.hid (Below.step HBwb50_50.out bt_54)
        replace ct_29_0__407 := cell_below bt_54 ct_29_0__407
        replace ct_29_1__408 := cell_below bt_54 ct_29_1__408
        replace ct_29_2__409 := cell_below bt_54 ct_29_2__409
        replace ct_29_3__410 := cell_below bt_54 ct_29_3__410
        replace ct_29_4__411 := cell_below bt_54 ct_29_4__411
        replace ct_29_5__412 := cell_below bt_54 ct_29_5__412
        replace kp_31_0__413 := cell_below bt_54 kp_31_0__413
        replace kp_31_1__414 := cell_below bt_54 kp_31_1__414
        replace kp_31_2__415 := cell_below bt_54 kp_31_2__415
        replace kp_31_3__416 := cell_below bt_54 kp_31_3__416
        replace kp_31_4__417 := cell_below bt_54 kp_31_4__417
        replace kp_31_5__418 := cell_below bt_54 kp_31_5__418
        replace Pt_25 := Lib.hid (own_below Pt_25.out bt_54)
        replace Pb50_50 := Lib.hid (own_below Pb50_50.out bt_54)
        clear bt_54
        obtain ⟨wb56_56, hwb56_56⟩ : ∃ x, (wt_54).setCell ⟨wt_25.heap.size, 4, none⟩ (.int .i64 t_54) = x := ⟨_, rfl⟩
        have z0b56_56 := Pb50_50.out.frozenAt 4
        have Sb56_56 := Lib.hid (own_stores [(4, .int .i64 t_54)] Pb50_50.out)
        have Pb56_56 : Hid (wb56_56.ownsRow w.heap.size 34 6 (.slice (some ⟨wt_25.heap.size, 0, none⟩) 1 1) 1 [.int .i64 t_29_id, .string t_29_town, .int .i64 t_29_kind_, .int .i64 t_48, .int .i64 t_54, .string t_29_lost]) := Lib.hid (by rw [← hwb56_56]; exact Sb56_56.out.1)
        have Gb56_56 : Hid (wt_54.grownBy wb56_56 (Value.slice (some ⟨wt_25.heap.size, 0, none⟩) 1 1).ownBlock) := Lib.hid (by rw [← hwb56_56]; exact Sb56_56.out.2)
        have HBwb56_56 := Lib.hid (HBwt_54.out.grown Gb56_56.out HBwt_54.out.size (fun q hq => (Pb50_50.out.lt q hq).1))
        clear Sb56_56
        have ct_29_0__419 := cell_other ct_29_0__407 Gb56_56.out Dp_31_t_25.out
        have ct_29_1__420 := cell_other ct_29_1__408 Gb56_56.out Dp_31_t_25.out
        have ct_29_2__421 := cell_other ct_29_2__409 Gb56_56.out Dp_31_t_25.out
        have ct_29_3__422 := cell_other ct_29_3__410 Gb56_56.out Dp_31_t_25.out
        have ct_29_4__423 := cell_other ct_29_4__411 Gb56_56.out Dp_31_t_25.out
        have ct_29_5__424 := cell_other ct_29_5__412 Gb56_56.out Dp_31_t_25.out
        replace Pt_25 := Lib.hid (own_other Pt_25.out Gb56_56.out Dp_31_t_25.out)
        clear Pb50_50 Gb56_56
        have kp_31_0__425 : wb56_56.cell? ⟨wt_25.heap.size, 0, none⟩ = some (.int .i64 t_29_id) := Pb56_56.out.cells rfl 0 _ rfl
        have kp_31_1__426 : wb56_56.cell? ⟨wt_25.heap.size, 1, none⟩ = some (.string t_29_town) := Pb56_56.out.cells rfl 1 _ rfl
        have kp_31_2__427 : wb56_56.cell? ⟨wt_25.heap.size, 2, none⟩ = some (.int .i64 t_29_kind_) := Pb56_56.out.cells rfl 2 _ rfl
        have kp_31_3__428 : wb56_56.cell? ⟨wt_25.heap.size, 3, none⟩ = some (.int .i64 t_48) := Pb56_56.out.cells rfl 3 _ rfl
        have kp_31_4__429 : wb56_56.cell? ⟨wt_25.heap.size, 4, none⟩ = some (.int .i64 t_54) := Pb56_56.out.cells rfl 4 _ rfl
        have kp_31_5__430 : wb56_56.cell? ⟨wt_25.heap.size, 5, none⟩ = some (.string t_29_lost) := Pb56_56.out.cells rfl 5 _ rfl
        replace H := idx_hid H
        obtain ⟨nt_60, yt_60, et_60, lt_60, gt_60, H⟩ := H
        obtain rfl : nt_29 = nt_60 := by omega
        clear et_60
        obtain rfl := Option.some.inj (gt_29.out.symm.trans gt_60.out)
        clear gt_60 lt_60
        replace H := unPostmark_hid H
        replace H := let_hid H
        obtain ⟨l61_61, hl61_61, H⟩ := H
        try simp only [Int.toNat_natCast] at hl61_61
        obtain ⟨wl61_61, hwl61_61⟩ : ∃ x, ((((((wb56_56).setCell ⟨qt_29, nt_29 * 6, none⟩ (.int .i64 t_29_id)).setCell ⟨qt_29, nt_29 * 6 + 1, none⟩ (.string t_29_town)).setCell ⟨qt_29, nt_29 * 6 + 2, none⟩ (.int .i64 t_29_kind_)).setCell ⟨qt_29, nt_29 * 6 + 3, none⟩ (.int .i64 t_48)).setCell ⟨qt_29, nt_29 * 6 + 4, none⟩ (.int .i64 t_54)).setCell ⟨qt_29, nt_29 * 6 + 5, none⟩ (.string t_29_lost) = x := ⟨_, rfl⟩
        have z0l61_61 := Pt_25.out.frozenAt (nt_29 * 6)
        have z1l61_61 := Pt_25.out.frozenAt (nt_29 * 6 + 1)
        have z2l61_61 := Pt_25.out.frozenAt (nt_29 * 6 + 2)
        have z3l61_61 := Pt_25.out.frozenAt (nt_29 * 6 + 3)
        have z4l61_61 := Pt_25.out.frozenAt (nt_29 * 6 + 4)
        have z5l61_61 := Pt_25.out.frozenAt (nt_29 * 6 + 5)
        have Sl61_61 := Lib.hid (own_stores [(nt_29 * 6, .int .i64 t_29_id), (nt_29 * 6 + 1, .string t_29_town), (nt_29 * 6 + 2, .int .i64 t_29_kind_), (nt_29 * 6 + 3, .int .i64 t_48), (nt_29 * 6 + 4, .int .i64 t_54), (nt_29 * 6 + 5, .string t_29_lost)] Pt_25.out)
        have nl61_61 : Hid (l61_61.length = t_25.length) := Lib.hid (by rw [← hl61_61, List.length_set])
        have Pl61_61 : Hid (wl61_61.ownsRow w.heap.size 34 6 (.slice (some ⟨qt_29, 0, none⟩) t_25.length ct_25) t_25.length (Go.Proofs.YtgimcnpkngpmiaaGreatDoor.PPostmark.flat l61_61)) := Lib.hid (by have es_ := set_self gt_29.out; have e0_ := flat_set Go.Proofs.YtgimcnpkngpmiaaGreatDoor.PPostmark.Postmark.cells 6 (fun _ => rfl) t_25 (nt_29) 0 (Go.Proofs.YtgimcnpkngpmiaaGreatDoor.PPostmark.Postmark.mk t_29_id t_29_town t_29_kind_ t_29_first t_29_last t_29_lost) (Go.Proofs.YtgimcnpkngpmiaaGreatDoor.PPostmark.Postmark.mk t_29_id t_29_town t_29_kind_ t_29_first t_29_last t_29_lost) (.int .i64 t_29_id) lt_29 (by decide) rfl; have e1_ := flat_set Go.Proofs.YtgimcnpkngpmiaaGreatDoor.PPostmark.Postmark.cells 6 (fun _ => rfl) t_25 (nt_29) 1 (Go.Proofs.YtgimcnpkngpmiaaGreatDoor.PPostmark.Postmark.mk t_29_id t_29_town t_29_kind_ t_29_first t_29_last t_29_lost) (Go.Proofs.YtgimcnpkngpmiaaGreatDoor.PPostmark.Postmark.mk t_29_id t_29_town t_29_kind_ t_29_first t_29_last t_29_lost) (.string t_29_town) lt_29 (by decide) rfl; have e2_ := flat_set Go.Proofs.YtgimcnpkngpmiaaGreatDoor.PPostmark.Postmark.cells 6 (fun _ => rfl) t_25 (nt_29) 2 (Go.Proofs.YtgimcnpkngpmiaaGreatDoor.PPostmark.Postmark.mk t_29_id t_29_town t_29_kind_ t_29_first t_29_last t_29_lost) (Go.Proofs.YtgimcnpkngpmiaaGreatDoor.PPostmark.Postmark.mk t_29_id t_29_town t_29_kind_ t_29_first t_29_last t_29_lost) (.int .i64 t_29_kind_) lt_29 (by decide) rfl; have e3_ := flat_set Go.Proofs.YtgimcnpkngpmiaaGreatDoor.PPostmark.Postmark.cells 6 (fun _ => rfl) t_25 (nt_29) 3 (Go.Proofs.YtgimcnpkngpmiaaGreatDoor.PPostmark.Postmark.mk t_29_id t_29_town t_29_kind_ t_29_first t_29_last t_29_lost) (Go.Proofs.YtgimcnpkngpmiaaGreatDoor.PPostmark.Postmark.mk t_29_id t_29_town t_29_kind_ t_48 t_29_last t_29_lost) (.int .i64 t_48) lt_29 (by decide) rfl; have e4_ := flat_set Go.Proofs.YtgimcnpkngpmiaaGreatDoor.PPostmark.Postmark.cells 6 (fun _ => rfl) t_25 (nt_29) 4 (Go.Proofs.YtgimcnpkngpmiaaGreatDoor.PPostmark.Postmark.mk t_29_id t_29_town t_29_kind_ t_48 t_29_last t_29_lost) (Go.Proofs.YtgimcnpkngpmiaaGreatDoor.PPostmark.Postmark.mk t_29_id t_29_town t_29_kind_ t_48 t_54 t_29_lost) (.int .i64 t_54) lt_29 (by decide) rfl; have e5_ := flat_set Go.Proofs.YtgimcnpkngpmiaaGreatDoor.PPostmark.Postmark.cells 6 (fun _ => rfl) t_25 (nt_29) 5 (Go.Proofs.YtgimcnpkngpmiaaGreatDoor.PPostmark.Postmark.mk t_29_id t_29_town t_29_kind_ t_48 t_54 t_29_lost) (Go.Proofs.YtgimcnpkngpmiaaGreatDoor.PPostmark.Postmark.mk t_29_id t_29_town t_29_kind_ t_48 t_54 t_29_lost) (.string t_29_lost) lt_29 (by decide) rfl; rw [es_] at e0_; have e_ : ([(nt_29 * 6, .int .i64 t_29_id), (nt_29 * 6 + 1, .string t_29_town), (nt_29 * 6 + 2, .int .i64 t_29_kind_), (nt_29 * 6 + 3, .int .i64 t_48), (nt_29 * 6 + 4, .int .i64 t_54), (nt_29 * 6 + 5, .string t_29_lost)] : List (Nat × Value)).foldl (fun xs p => xs.set p.1 p.2) (Go.Proofs.YtgimcnpkngpmiaaGreatDoor.PPostmark.flat t_25) = (Go.Proofs.YtgimcnpkngpmiaaGreatDoor.PPostmark.flat l61_61) := (by rw [← hl61_61]; show _ = List.flatMap Go.Proofs.YtgimcnpkngpmiaaGreatDoor.PPostmark.Postmark.cells _; first | (rw [← e5_, ← e4_, ← e3_, ← e2_, ← e1_, ← e0_]; first | done | rfl) | (rw [← e5_, ← e4_, ← e3_, ← e2_, ← e1_, es_, ← e0_]; first | done | rfl)); rw [← hwl61_61, ← e_]; exact Sl61_61.out.1)
        have Gl61_61 : Hid (wb56_56.grownBy wl61_61 (Value.slice (some ⟨qt_29, 0, none⟩) t_25.length ct_25).ownBlock) := Lib.hid (by rw [← hwl61_61]; exact Sl61_61.out.2)
        have HBwl61_61 := Lib.hid (HBwb56_56.out.grown Gl61_61.out HBwb56_56.out.size (fun q hq => (Pt_25.out.lt q hq).1))
        have hhl61_61 := Lib.hid hl61_61
        clear hl61_61 Sl61_61
        have kp_31_0__431 := cell_other kp_31_0__425 Gl61_61.out (Apart.symm Dp_31_t_25.out)
        have kp_31_1__432 := cell_other kp_31_1__426 Gl61_61.out (Apart.symm Dp_31_t_25.out)
        have kp_31_2__433 := cell_other kp_31_2__427 Gl61_61.out (Apart.symm Dp_31_t_25.out)
        have kp_31_3__434 := cell_other kp_31_3__428 Gl61_61.out (Apart.symm Dp_31_t_25.out)
        have kp_31_4__435 := cell_other kp_31_4__429 Gl61_61.out (Apart.symm Dp_31_t_25.out)
        have kp_31_5__436 := cell_other kp_31_5__430 Gl61_61.out (Apart.symm Dp_31_t_25.out)
        replace Pb56_56 := Lib.hid (own_other Pb56_56.out Gl61_61.out (Apart.symm Dp_31_t_25.out))
        clear Pt_25 Gl61_61
        cases ret_hid H
        go_wp2_with fail
        go_ret3
        have hr_0 := nl61_61.out
        replace Pl61_61 := Lib.hid (own_len hr_0 Pl61_61.out)
        exact ⟨(some ⟨qt_29, 0, none⟩), ct_25, (by first | (rw [hr_0]; done) | (rw [hr_0]; rfl)), Pl61_61.out, HBwl61_61.out⟩
    | true =>
      replace H := ite_t H
      replace H := app_hid H
      replace H := ite_t H
      obtain ⟨w_t_19, hw_t_19⟩ : ∃ x, wt_8.alloc (.cells #[] 34) = x := ⟨_, rfl⟩
      have bw_t_19 : Below wt_8.heap.size wt_8 w_t_19 := by rw [← hw_t_19]; exact (Below.refl _ _).alloc (Nat.le_refl _) _
      have Ot_19 : Hid (w_t_19.ownsRow w.heap.size 34 6 (.slice (some ⟨wt_8.heap.size, 0, none⟩) 0 0) 0 []) := Lib.hid (by rw [← hw_t_19]; exact own_empty HBwt_8.out.size)
      have HBw_t_19 := Lib.hid (Below.step HBwt_8.out bw_t_19)
      clear bw_t_19
      cases ret_hid H
      go_wp2_with fail
      go_ret3
      exact ⟨(some ⟨wt_8.heap.size, 0, none⟩), 0, rfl, Ot_19.out, HBw_t_19.out⟩
end Go.Proofs.YtgimcnpkngpmiaaGreatDoor.GsExtendUse

/- loop.example/g01062/laws.rMarks as a plain function, and the contract of the program's: where the plain one has an answer, the program has it. Conditions: slices read as lists. -/
namespace Go.Proofs.YtgimcnpkngpmiaaGreatDoor.GlRMarks
set_option linter.unusedVariables false
set_option linter.unusedSimpArgs false
open Go.RowKit
open Go.Proofs.YtgimcnpkngpmiaaGreatDoor.Rowed Go.Proofs.YtgimcnpkngpmiaaGreatDoor.Turn Go.Proofs.YtgimcnpkngpmiaaGreatDoor.Aid Go.Proofs.YtgimcnpkngpmiaaGreatDoor.GoP Go.Proofs.YtgimcnpkngpmiaaGreatDoor.GoM

def l0 (a : (List Go.Proofs.YtgimcnpkngpmiaaGreatDoor.PPostmark.Postmark)) (b : (List Go.Proofs.YtgimcnpkngpmiaaGreatDoor.PPostmark.Postmark)) (k0 : Nat) (s : Unit) (nx0 bk0 : Unit → Option (Bool)) : Option (Bool) :=
  
  Option.bind (idx a (k0 : Int)) fun (yt_14 : Go.Proofs.YtgimcnpkngpmiaaGreatDoor.PPostmark.Postmark) =>
  unPostmark yt_14 fun (t_14_id : Int) (t_14_town : ByteArray) (t_14_kind_ : Int) (t_14_first : Int) (t_14_last : Int) (t_14_lost : ByteArray) =>
  Option.bind (idx b (k0 : Int)) fun (yt_18 : Go.Proofs.YtgimcnpkngpmiaaGreatDoor.PPostmark.Postmark) =>
  unPostmark yt_18 fun (t_18_id : Int) (t_18_town : ByteArray) (t_18_kind_ : Int) (t_18_first : Int) (t_18_last : Int) (t_18_lost : ByteArray) =>
  letK (!(t_14_id == t_18_id && t_14_town.toList == t_18_town.toList && t_14_kind_ == t_18_kind_ && t_14_first == t_18_first && t_14_last == t_18_last && t_14_lost.toList == t_18_lost.toList)) fun (t_20 : Bool) =>
  iteK t_20
  (some false)
  (appK nx0 ())

def e0  (s : Unit) : Option (Bool) :=
  
  some true

def P (a : (List Go.Proofs.YtgimcnpkngpmiaaGreatDoor.PPostmark.Postmark)) (b : (List Go.Proofs.YtgimcnpkngpmiaaGreatDoor.PPostmark.Postmark)) : Option (Bool) :=
  letK ((a.length : Int) != (b.length : Int)) fun (t_5 : Bool) =>
  iteK t_5
  (some false)
  (cntK (l0 a b) (a.length) 0 () (e0 ))

set_option maxRecDepth 100000
theorem eqr_34 (x0 : Int) (x1 : ByteArray) (x2 : Int) (x3 : Int) (x4 : Int) (x5 : ByteArray) (y0 : Int) (y1 : ByteArray) (y2 : Int) (y3 : Int) (y4 : Int) (y5 : ByteArray) : ∀ W, (Op.equalIn 10000 34 (.agg #[Value.int IntKind.i64 x0, Value.string x1, Value.int IntKind.i64 x2, Value.int IntKind.i64 x3, Value.int IntKind.i64 x4, Value.string x5]) (.agg #[Value.int IntKind.i64 y0, Value.string y1, Value.int IntKind.i64 y2, Value.int IntKind.i64 y3, Value.int IntKind.i64 y4, Value.string y5])).run Tryz.prog W = .ok (x0 == y0 && x1.toList == y1.toList && x2 == y2 && x3 == y3 && x4 == y4 && x5.toList == y5.toList) W := by
  intro W
  rw [run_equalIn_agg W _ _ _ _ (by kernel_rfl) (by kernel_rfl)]
  obtain ⟨f, hf⟩ : ∃ f, (Tryz.prog.fieldsOf 34).toList = f := ⟨_, rfl⟩
  have : (Tryz.prog.fieldsOf 34).toList.map (fun f => (f.name, f.type, f.offset)) = [("Id", 3, 0), ("Town", 9, 1), ("Kind", 3, 2), ("First", 3, 3), ("Last", 3, 4), ("Lost", 9, 5)] := by kernel_rfl
  rw [hf] at this ⊢
  match f, this with
  | [f0, f1, f2, f3, f4, f5], h =>
    simp only [List.map_cons, List.map_nil, List.cons.injEq, Prod.mk.injEq, and_true] at h
    obtain ⟨⟨a0, b0, d0⟩, ⟨a1, b1, d1⟩, ⟨a2, b2, d2⟩, ⟨a3, b3, d3⟩, ⟨a4, b4, d4⟩, a5, b5, d5⟩ := h
    simp only [Op.eqFields, a0, b0, d0, a1, b1, d1, a2, b2, d2, a3, b3, d3, a4, b4, d4, a5, b5, d5]
    have p0 : ∀ (w : World) (x0 : Int) (x1 : ByteArray) (x2 : Int) (x3 : Int) (x4 : Int) (x5 : ByteArray), (part 3 #[Value.int IntKind.i64 x0, Value.string x1, Value.int IntKind.i64 x2, Value.int IntKind.i64 x3, Value.int IntKind.i64 x4, Value.string x5] 0).run Tryz.prog w = .ok (Value.int IntKind.i64 x0) w := fun w x0 x1 x2 x3 x4 x5 => run_part_plain w (by kernel_rfl) rfl
    have p1 : ∀ (w : World) (x0 : Int) (x1 : ByteArray) (x2 : Int) (x3 : Int) (x4 : Int) (x5 : ByteArray), (part 9 #[Value.int IntKind.i64 x0, Value.string x1, Value.int IntKind.i64 x2, Value.int IntKind.i64 x3, Value.int IntKind.i64 x4, Value.string x5] 1).run Tryz.prog w = .ok (Value.string x1) w := fun w x0 x1 x2 x3 x4 x5 => run_part_plain w (by kernel_rfl) rfl
    have p2 : ∀ (w : World) (x0 : Int) (x1 : ByteArray) (x2 : Int) (x3 : Int) (x4 : Int) (x5 : ByteArray), (part 3 #[Value.int IntKind.i64 x0, Value.string x1, Value.int IntKind.i64 x2, Value.int IntKind.i64 x3, Value.int IntKind.i64 x4, Value.string x5] 2).run Tryz.prog w = .ok (Value.int IntKind.i64 x2) w := fun w x0 x1 x2 x3 x4 x5 => run_part_plain w (by kernel_rfl) rfl
    have p3 : ∀ (w : World) (x0 : Int) (x1 : ByteArray) (x2 : Int) (x3 : Int) (x4 : Int) (x5 : ByteArray), (part 3 #[Value.int IntKind.i64 x0, Value.string x1, Value.int IntKind.i64 x2, Value.int IntKind.i64 x3, Value.int IntKind.i64 x4, Value.string x5] 3).run Tryz.prog w = .ok (Value.int IntKind.i64 x3) w := fun w x0 x1 x2 x3 x4 x5 => run_part_plain w (by kernel_rfl) rfl
    have p4 : ∀ (w : World) (x0 : Int) (x1 : ByteArray) (x2 : Int) (x3 : Int) (x4 : Int) (x5 : ByteArray), (part 3 #[Value.int IntKind.i64 x0, Value.string x1, Value.int IntKind.i64 x2, Value.int IntKind.i64 x3, Value.int IntKind.i64 x4, Value.string x5] 4).run Tryz.prog w = .ok (Value.int IntKind.i64 x4) w := fun w x0 x1 x2 x3 x4 x5 => run_part_plain w (by kernel_rfl) rfl
    have p5 : ∀ (w : World) (x0 : Int) (x1 : ByteArray) (x2 : Int) (x3 : Int) (x4 : Int) (x5 : ByteArray), (part 9 #[Value.int IntKind.i64 x0, Value.string x1, Value.int IntKind.i64 x2, Value.int IntKind.i64 x3, Value.int IntKind.i64 x4, Value.string x5] 5).run Tryz.prog w = .ok (Value.string x5) w := fun w x0 x1 x2 x3 x4 x5 => run_part_plain w (by kernel_rfl) rfl
    have e1 : ∀ (w : World) (x y : Int), (Op.equalIn 9999 3 (.int .i64 x) (.int .i64 y)).run Tryz.prog w = .ok (x == y) w := fun w x y => run_equalIn_int w 9998 3 .i64 .i64 x y Tryz.underlying3
    have e2 : ∀ (w : World) (x y : ByteArray), (Op.equalIn 9999 9 (.string x) (.string y)).run Tryz.prog w = .ok (x.toList == y.toList) w := fun w x y => run_equalIn_string w 9998 9 x y Tryz.underlying9
    rw [if_pos (by decide)]; rw [if_pos (by decide)]; rw [if_pos (by decide)]; rw [if_pos (by decide)]; rw [if_pos (by decide)]; rw [if_pos (by decide)]
    simp only [Sem.run_bind, p0, p1, p2, p3, p4, p5, e1, e2, Result.andThen_ok, Sem.run_ite, Sem.run_pure]
    cases x0 == y0 <;> cases x1.toList == y1.toList <;> cases x2 == y2 <;> cases x3 == y3 <;> cases x4 == y4 <;> cases x5.toList == y5.toList <;> rfl
theorem eqla_34 (x0 : Int) (x1 : ByteArray) (x2 : Int) (x3 : Int) (x4 : Int) (x5 : ByteArray) (y0 : Int) (y1 : ByteArray) (y2 : Int) (y3 : Int) (y4 : Int) (y5 : ByteArray) : ∀ W, (binOp .eql 34 (.agg #[Value.int IntKind.i64 x0, Value.string x1, Value.int IntKind.i64 x2, Value.int IntKind.i64 x3, Value.int IntKind.i64 x4, Value.string x5]) (.agg #[Value.int IntKind.i64 y0, Value.string y1, Value.int IntKind.i64 y2, Value.int IntKind.i64 y3, Value.int IntKind.i64 y4, Value.string y5])).run Tryz.prog W = .ok (.bool (x0 == y0 && x1.toList == y1.toList && x2 == y2 && x3 == y3 && x4 == y4 && x5.toList == y5.toList)) W := by
  intro W
  rw [run_eql_struct, eqr_34]; rfl
theorem neqa_34 (x0 : Int) (x1 : ByteArray) (x2 : Int) (x3 : Int) (x4 : Int) (x5 : ByteArray) (y0 : Int) (y1 : ByteArray) (y2 : Int) (y3 : Int) (y4 : Int) (y5 : ByteArray) : ∀ W, (binOp .neq 34 (.agg #[Value.int IntKind.i64 x0, Value.string x1, Value.int IntKind.i64 x2, Value.int IntKind.i64 x3, Value.int IntKind.i64 x4, Value.string x5]) (.agg #[Value.int IntKind.i64 y0, Value.string y1, Value.int IntKind.i64 y2, Value.int IntKind.i64 y3, Value.int IntKind.i64 y4, Value.string y5])).run Tryz.prog W = .ok (.bool (!(x0 == y0 && x1.toList == y1.toList && x2 == y2 && x3 == y3 && x4 == y4 && x5.toList == y5.toList))) W := by
  intro W
  rw [run_neq_struct, eqr_34]; rfl

set_option maxRecDepth 100000 in
set_option maxHeartbeats 2000000 in
theorem C (a : (List Go.Proofs.YtgimcnpkngpmiaaGreatDoor.PPostmark.Postmark)) (b : (List Go.Proofs.YtgimcnpkngpmiaaGreatDoor.PPostmark.Postmark)) (A0 : Option Addr) (c0 : Nat) (A1 : Option Addr) (c1 : Nat)  (w : World) (M0 : Hid (Cells w 6 A0 a.length (Go.Proofs.YtgimcnpkngpmiaaGreatDoor.PPostmark.flat a))) (N0 : Hid (a.length ≤ 9223372036854775807)) (M1 : Hid (Cells w 6 A1 b.length (Go.Proofs.YtgimcnpkngpmiaaGreatDoor.PPostmark.flat b))) (N1 : Hid (b.length ≤ 9223372036854775807))  {r : Bool} (H : Hid (P a b = some r)) :
    Calls Tryz.prog 8 #[.slice A0 a.length c0, .slice A1 b.length c1] w (Gives (.bool r) w) := by
  have HB := Lib.hid (Below.refl w.heap.size w)
  unfold P at H
  have N0o := N0.out
  have N1o := N1.out
  go_enter Tryz.func8, Tryz.ntmps8
  replace H := let_hid H
  obtain ⟨t_5, ht_5, H⟩ := H
  cases t_5 with
  | false =>
    have Hht_5 : Hid (a.length = b.length) := Lib.hid (by have := bne_eq_false_iff_eq.1 ht_5; omega)
    have nht_5 : (a.length == b.length) = true := beq_iff_eq.2 Hht_5.out
    replace H := ite_f H
    go_wp2_with fail
    go_loopg [5] (a.length) (fun m_ v5_ wr => ∃ (k0 : Nat) , k0 + m_ = a.length ∧ v5_ = .int .i64 (k0 : Int) ∧ Hid (cntK (l0 a b) m_ k0 () (e0 ) = some r) ∧ Hid (Below w.heap.size w wr))
    case atStart => exact ⟨0, by omega, rfl, H, HB⟩
    case round =>
      obtain ⟨k0, hkm0, rfl, H, HBwr0⟩ := hrel
      rename World => wr0
      cases gk with
      | zero =>
        obtain rfl : k0 = a.length := by omega
        have hc0 : decide (((a.length : Nat) : Int) < ((a.length : Nat) : Int)) = false := by simp
        replace H := cnt_zero H
        unfold e0 at H
        obtain rfl := ret_hid H
        go_wp2_with fail
        go_ret
        exact ⟨rfl, HBwr0.out⟩
      | succ m0 =>
        have hlt0 : k0 < a.length := by omega
        have hc0 : decide ((k0 : Int) < ((a.length : Nat) : Int)) = true := by simp; omega
        replace H := cnt_succ H
        unfold l0 at H
        go_wp2_with fail
        replace H := idx_hid H
        obtain ⟨nt_14, yt_14, et_14, lt_14, gt_14, H⟩ := H
        obtain rfl : k0 = nt_14 := by omega
        clear et_14
        obtain ⟨t_14_id, t_14_town, t_14_kind_, t_14_first, t_14_last, t_14_lost⟩ := yt_14
        replace H := unPostmark_hid H
        obtain ⟨ab_t_14, ao_t_14, zt_14, At_14, z_t_14, ct_14_0, ct_14_1, ct_14_2, ct_14_3, ct_14_4, ct_14_5⟩ := Go.Proofs.YtgimcnpkngpmiaaGreatDoor.OPostmark.at_ M0.out lt_14
        obtain rfl := Option.some.inj (gt_14.out.symm.trans z_t_14)
        subst At_14
        have ltt_14 := cell_lt ct_14_0
        replace ct_14_0 := cell_below HBwr0.out ct_14_0
        replace ct_14_1 := cell_below HBwr0.out ct_14_1
        replace ct_14_2 := cell_below HBwr0.out ct_14_2
        replace ct_14_3 := cell_below HBwr0.out ct_14_3
        replace ct_14_4 := cell_below HBwr0.out ct_14_4
        replace ct_14_5 := cell_below HBwr0.out ct_14_5
        clear z_t_14
        have b0t_14 : (0 : Int) ≤ (k0 : Int) := by omega
        have b1t_14 : (k0 : Int) < ((a.length : Nat) : Int) := by omega
        have b2t_14 : ((k0 : Int)).toNat = k0 := by omega
        have Hct_14_0 := Lib.hid ct_14_0
        replace ct_14_0 := cell_regrown ct_14_0
        have Hct_14_1 := Lib.hid ct_14_1
        replace ct_14_1 := cell_regrown ct_14_1
        have Hct_14_2 := Lib.hid ct_14_2
        replace ct_14_2 := cell_regrown ct_14_2
        have Hct_14_3 := Lib.hid ct_14_3
        replace ct_14_3 := cell_regrown ct_14_3
        have Hct_14_4 := Lib.hid ct_14_4
        replace ct_14_4 := cell_regrown ct_14_4
        have Hct_14_5 := Lib.hid ct_14_5
        replace ct_14_5 := cell_regrown ct_14_5
        replace H := idx_hid H
        obtain ⟨nt_18, yt_18, et_18, lt_18, gt_18, H⟩ := H
        obtain rfl : k0 = nt_18 := by omega
        clear et_18
        obtain ⟨t_18_id, t_18_town, t_18_kind_, t_18_first, t_18_last, t_18_lost⟩ := yt_18
        replace H := unPostmark_hid H
        obtain ⟨ab_t_18, ao_t_18, zt_18, At_18, z_t_18, ct_18_0, ct_18_1, ct_18_2, ct_18_3, ct_18_4, ct_18_5⟩ := Go.Proofs.YtgimcnpkngpmiaaGreatDoor.OPostmark.at_ M1.out lt_18
        obtain rfl := Option.some.inj (gt_18.out.symm.trans z_t_18)
        subst At_18
        have ltt_18 := cell_lt ct_18_0
        replace ct_18_0 := cell_below HBwr0.out ct_18_0
        replace ct_18_1 := cell_below HBwr0.out ct_18_1
        replace ct_18_2 := cell_below HBwr0.out ct_18_2
        replace ct_18_3 := cell_below HBwr0.out ct_18_3
        replace ct_18_4 := cell_below HBwr0.out ct_18_4
        replace ct_18_5 := cell_below HBwr0.out ct_18_5
        clear z_t_18
        have b0t_18 : (0 : Int) ≤ (k0 : Int) := by omega
        have b1t_18 : (k0 : Int) < ((b.length : Nat) : Int) := by omega
        have b2t_18 : ((k0 : Int)).toNat = k0 := by omega
        have Hct_18_0 := Lib.hid ct_18_0
        replace ct_18_0 := cell_regrown ct_18_0
        have Hct_18_1 := Lib.hid ct_18_1
        replace ct_18_1 := cell_regrown ct_18_1
        have Hct_18_2 := Lib.hid ct_18_2
        replace ct_18_2 := cell_regrown ct_18_2
        have Hct_18_3 := Lib.hid ct_18_3
        replace ct_18_3 := cell_regrown ct_18_3
        have Hct_18_4 := Lib.hid ct_18_4
        replace ct_18_4 := cell_regrown ct_18_4
        have Hct_18_5 := Lib.hid ct_18_5
        replace ct_18_5 := cell_regrown ct_18_5
        replace H := let_hid H
        obtain ⟨t_20, ht_20, H⟩ := H
        have ct_20 : ∀ W, (binOp .neq 34 (.agg #[.int .i64 t_14_id, .string t_14_town, .int .i64 t_14_kind_, .int .i64 t_14_first, .int .i64 t_14_last, .string t_14_lost]) (.agg #[.int .i64 t_18_id, .string t_18_town, .int .i64 t_18_kind_, .int .i64 t_18_first, .int .i64 t_18_last, .string t_18_lost])).run Tryz.prog W = .ok (.bool t_20) W := fun W => by rw [neqa_34, ht_20]
        refine wp_region_quiet_below (by kernel_rfl) (by kernel_rfl) ?_
        repeat (go_big_quiet_step (fail))
        refine wpQuiet_nil ?_
        intro Y6 hY6
        replace hY6 := below_class hY6
        replace ct_14_0 := Hct_14_0.out
        clear Hct_14_0
        replace ct_14_1 := Hct_14_1.out
        clear Hct_14_1
        replace ct_14_2 := Hct_14_2.out
        clear Hct_14_2
        replace ct_14_3 := Hct_14_3.out
        clear Hct_14_3
        replace ct_14_4 := Hct_14_4.out
        clear Hct_14_4
        replace ct_14_5 := Hct_14_5.out
        clear Hct_14_5
        replace ct_18_0 := Hct_18_0.out
        clear Hct_18_0
        replace ct_18_1 := Hct_18_1.out
        clear Hct_18_1
        replace ct_18_2 := Hct_18_2.out
        clear Hct_18_2
        replace ct_18_3 := Hct_18_3.out
        clear Hct_18_3
        replace ct_18_4 := Hct_18_4.out
        clear Hct_18_4
        replace ct_18_5 := Hct_18_5.out
        clear Hct_18_5
        have HBY6 := Lib.hid (Below.step HBwr0.out hY6)
        replace ct_14_0 := cell_below hY6 ct_14_0
        replace ct_14_1 := cell_below hY6 ct_14_1
        replace ct_14_2 := cell_below hY6 ct_14_2
        replace ct_14_3 := cell_below hY6 ct_14_3
        replace ct_14_4 := cell_below hY6 ct_14_4
        replace ct_14_5 := cell_below hY6 ct_14_5
        replace ct_18_0 := cell_below hY6 ct_18_0
        replace ct_18_1 := cell_below hY6 ct_18_1
        replace ct_18_2 := cell_below hY6 ct_18_2
        replace ct_18_3 := cell_below hY6 ct_18_3
        replace ct_18_4 := cell_below hY6 ct_18_4
        replace ct_18_5 := cell_below hY6 ct_18_5
        clear hY6
        cases t_20 with
        | false =>
          replace H := ite_f H
          replace H := app_hid H
          go_wp2_with fail
          go_roundg m0
          case measure => omega
          case rel => exact ⟨k0 + 1, by omega, by go_num, H, HBY6⟩
        | true =>
          replace H := ite_t H
          obtain rfl := ret_hid H
          go_wp2_with fail
          go_ret
          exact ⟨rfl, HBY6.out⟩
  | true =>
    have nht_5 : ¬ (a.length = b.length) := by have := bne_iff_ne.1 ht_5; omega
    replace H := ite_t H
    obtain rfl := ret_hid H
    go_wp2_with fail
    go_ret
    exact ⟨rfl, HB.out⟩
end Go.Proofs.YtgimcnpkngpmiaaGreatDoor.GlRMarks

/- loop.example/g01062/impl.wasUsedOn as a plain function, and the contract of the program's: where the plain one has an answer, the program has it. Conditions: slices read as lists. -/
namespace Go.Proofs.YtgimcnpkngpmiaaGreatDoor.GiWasUsedOn
set_option linter.unusedVariables false
set_option linter.unusedSimpArgs false
open Go.RowKit
open Go.Proofs.YtgimcnpkngpmiaaGreatDoor.Rowed Go.Proofs.YtgimcnpkngpmiaaGreatDoor.Turn Go.Proofs.YtgimcnpkngpmiaaGreatDoor.Aid Go.Proofs.YtgimcnpkngpmiaaGreatDoor.GoP Go.Proofs.YtgimcnpkngpmiaaGreatDoor.GoM

def P (p : Go.Proofs.YtgimcnpkngpmiaaGreatDoor.PPostmark.Postmark) (day : Int) : Option (Bool) :=
  unPostmark p fun (p_id : Int) (p_town : ByteArray) (p_kind_ : Int) (p_first : Int) (p_last : Int) (p_lost : ByteArray) =>
  Option.bind (Go.Proofs.YtgimcnpkngpmiaaGreatDoor.GiWithin.P day p_first p_last) fun (t_7 : Bool) =>
  some t_7

set_option maxRecDepth 100000 in
set_option maxHeartbeats 2000000 in
theorem C (p : Go.Proofs.YtgimcnpkngpmiaaGreatDoor.PPostmark.Postmark) (day : Int)   (w : World)   {r : Bool} (H : Hid (P p day = some r)) :
    Calls Tryz.prog 35 #[p.val, .int .i64 day] w (Gives (.bool r) w) := by
  have HB := Lib.hid (Below.refl w.heap.size w)
  unfold P at H
  obtain ⟨p_id, p_town, p_kind_, p_first, p_last, p_lost⟩ := p
  replace H := unPostmark_hid H
  unfold Go.Proofs.YtgimcnpkngpmiaaGreatDoor.PPostmark.Postmark.val
  go_enter Tryz.func35, Tryz.ntmps35
  obtain ⟨w_p_0, hw_p_0⟩ : ∃ x, w.alloc (.cells #[.int .i64 p_id, .string p_town, .int .i64 p_kind_, .int .i64 p_first, .int .i64 p_last, .string p_lost] 34) = x := ⟨_, rfl⟩
  have bw_p_0 : Below w.heap.size w w_p_0 := by rw [← hw_p_0]; exact (Below.refl _ _).alloc (Nat.le_refl _) _
  have HBw_p_0 := Lib.hid (Below.step HB.out bw_p_0)
  clear bw_p_0
  have kp_0_0 : w_p_0.cell? ⟨w.heap.size, 0, none⟩ = some (.int .i64 p_id) := by rw [← hw_p_0]; exact box_new _ _ _ 0 _ rfl
  have kp_0_1 : w_p_0.cell? ⟨w.heap.size, 1, none⟩ = some (.string p_town) := by rw [← hw_p_0]; exact box_new _ _ _ 1 _ rfl
  have kp_0_2 : w_p_0.cell? ⟨w.heap.size, 2, none⟩ = some (.int .i64 p_kind_) := by rw [← hw_p_0]; exact box_new _ _ _ 2 _ rfl
  have kp_0_3 : w_p_0.cell? ⟨w.heap.size, 3, none⟩ = some (.int .i64 p_first) := by rw [← hw_p_0]; exact box_new _ _ _ 3 _ rfl
  have kp_0_4 : w_p_0.cell? ⟨w.heap.size, 4, none⟩ = some (.int .i64 p_last) := by rw [← hw_p_0]; exact box_new _ _ _ 4 _ rfl
  have kp_0_5 : w_p_0.cell? ⟨w.heap.size, 5, none⟩ = some (.string p_lost) := by rw [← hw_p_0]; exact box_new _ _ _ 5 _ rfl
  replace H := bind_hid H
  obtain ⟨t_7, qt_7, H⟩ := H
  go_wp2_with fail
  go_at_call 58
  refine (Go.Proofs.YtgimcnpkngpmiaaGreatDoor.GiWithin.C (day) (p_first) (p_last)  _    qt_7).mono ?_
  rintro e_t_7 wt_7 ⟨rfl, bt_7⟩
  have HBwt_7 := Lib.hid (Below.step HBw_p_0.out bt_7)
  replace kp_0_0 := cell_below bt_7 kp_0_0
  replace kp_0_1 := cell_below bt_7 kp_0_1
  replace kp_0_2 := cell_below bt_7 kp_0_2
  replace kp_0_3 := cell_below bt_7 kp_0_3
  replace kp_0_4 := cell_below bt_7 kp_0_4
  replace kp_0_5 := cell_below bt_7 kp_0_5
  clear bt_7
  obtain rfl := ret_hid H
  go_wp2_with fail
  go_ret
  exact ⟨rfl, HBwt_7.out⟩
end Go.Proofs.YtgimcnpkngpmiaaGreatDoor.GiWasUsedOn

/- loop.example/g01062/impl.TownsOn$1 as a plain function, and the contract of the program's: where the plain one has an answer, the program has it. Conditions: slices read as lists. -/
namespace Go.Proofs.YtgimcnpkngpmiaaGreatDoor.GiTownsOn1
set_option linter.unusedVariables false
set_option linter.unusedSimpArgs false
open Go.RowKit
open Go.Proofs.YtgimcnpkngpmiaaGreatDoor.Rowed Go.Proofs.YtgimcnpkngpmiaaGreatDoor.Turn Go.Proofs.YtgimcnpkngpmiaaGreatDoor.Aid Go.Proofs.YtgimcnpkngpmiaaGreatDoor.GoP Go.Proofs.YtgimcnpkngpmiaaGreatDoor.GoM

def P (p : Go.Proofs.YtgimcnpkngpmiaaGreatDoor.PPostmark.Postmark) (hq0 : Int) : Option (Bool) :=
  unPostmark p fun (p_id : Int) (p_town : ByteArray) (p_kind_ : Int) (p_first : Int) (p_last : Int) (p_lost : ByteArray) =>
  Option.bind (Go.Proofs.YtgimcnpkngpmiaaGreatDoor.GiWasUsedOn.P (Go.Proofs.YtgimcnpkngpmiaaGreatDoor.PPostmark.Postmark.mk p_id p_town p_kind_ p_first p_last p_lost) hq0) fun (t_4 : Bool) =>
  some t_4

set_option maxRecDepth 100000 in
set_option maxHeartbeats 2000000 in
theorem C (p : Go.Proofs.YtgimcnpkngpmiaaGreatDoor.PPostmark.Postmark) (hq0 : Int)  (gq0 : Nat) (w : World)  (Fq0h : Hid (w.cell? ⟨gq0, 0, none⟩ = some (.int .i64 hq0))) {r : Bool} (H : Hid (P p hq0 = some r)) :
    Calls Tryz.prog 34 #[p.val, .pointer (some ⟨gq0, 0, none⟩)] w (Gives (.bool r) w) := by
  have HB := Lib.hid (Below.refl w.heap.size w)
  unfold P at H
  obtain ⟨p_id, p_town, p_kind_, p_first, p_last, p_lost⟩ := p
  replace H := unPostmark_hid H
  unfold Go.Proofs.YtgimcnpkngpmiaaGreatDoor.PPostmark.Postmark.val
  have Fq0 := Fq0h.out
  go_enter Tryz.func34, Tryz.ntmps34
  obtain ⟨w_p_0, hw_p_0⟩ : ∃ x, w.alloc (.cells #[.int .i64 p_id, .string p_town, .int .i64 p_kind_, .int .i64 p_first, .int .i64 p_last, .string p_lost] 34) = x := ⟨_, rfl⟩
  have bw_p_0 : Below w.heap.size w w_p_0 := by rw [← hw_p_0]; exact (Below.refl _ _).alloc (Nat.le_refl _) _
  have HBw_p_0 := Lib.hid (Below.step HB.out bw_p_0)
  have Fq0__437 := cell_below bw_p_0 Fq0
  clear bw_p_0
  have kp_0_0 : w_p_0.cell? ⟨w.heap.size, 0, none⟩ = some (.int .i64 p_id) := by rw [← hw_p_0]; exact box_new _ _ _ 0 _ rfl
  have kp_0_1 : w_p_0.cell? ⟨w.heap.size, 1, none⟩ = some (.string p_town) := by rw [← hw_p_0]; exact box_new _ _ _ 1 _ rfl
  have kp_0_2 : w_p_0.cell? ⟨w.heap.size, 2, none⟩ = some (.int .i64 p_kind_) := by rw [← hw_p_0]; exact box_new _ _ _ 2 _ rfl
  have kp_0_3 : w_p_0.cell? ⟨w.heap.size, 3, none⟩ = some (.int .i64 p_first) := by rw [← hw_p_0]; exact box_new _ _ _ 3 _ rfl
  have kp_0_4 : w_p_0.cell? ⟨w.heap.size, 4, none⟩ = some (.int .i64 p_last) := by rw [← hw_p_0]; exact box_new _ _ _ 4 _ rfl
  have kp_0_5 : w_p_0.cell? ⟨w.heap.size, 5, none⟩ = some (.string p_lost) := by rw [← hw_p_0]; exact box_new _ _ _ 5 _ rfl
  replace H := bind_hid H
  obtain ⟨t_4, qt_4, H⟩ := H
  go_wp2_with fail
  clear Fq0
  go_at_call 35
  refine (Go.Proofs.YtgimcnpkngpmiaaGreatDoor.GiWasUsedOn.C ((Go.Proofs.YtgimcnpkngpmiaaGreatDoor.PPostmark.Postmark.mk p_id p_town p_kind_ p_first p_last p_lost)) (hq0)  _    qt_4).mono ?_
  rintro e_t_4 wt_4 ⟨rfl, bt_4⟩
  have HBwt_4 := Lib.hid (Below.step HBw_p_0.out bt_4)
  replace Fq0__437 := cell_below bt_4 Fq0__437
  replace kp_0_0 := cell_below bt_4 kp_0_0
  replace kp_0_1 := cell_below bt_4 kp_0_1
  replace kp_0_2 := cell_below bt_4 kp_0_2
  replace kp_0_3 := cell_below bt_4 kp_0_3
  replace kp_0_4 := cell_below bt_4 kp_0_4
  replace kp_0_5 := cell_below bt_4 kp_0_5
  clear bt_4
  obtain rfl := ret_hid H
  go_wp2_with fail
  go_ret
  exact ⟨rfl, HBwt_4.out⟩
end Go.Proofs.YtgimcnpkngpmiaaGreatDoor.GiTownsOn1

/- loop.example/g01062/impl.townOfPostmark as a plain function, and the contract of the program's: where the plain one has an answer, the program has it. Conditions: slices read as lists. -/
namespace Go.Proofs.YtgimcnpkngpmiaaGreatDoor.GiTownOfPostmark
set_option linter.unusedVariables false
set_option linter.unusedSimpArgs false
open Go.RowKit
open Go.Proofs.YtgimcnpkngpmiaaGreatDoor.Rowed Go.Proofs.YtgimcnpkngpmiaaGreatDoor.Turn Go.Proofs.YtgimcnpkngpmiaaGreatDoor.Aid Go.Proofs.YtgimcnpkngpmiaaGreatDoor.GoP Go.Proofs.YtgimcnpkngpmiaaGreatDoor.GoM

def P (p : Go.Proofs.YtgimcnpkngpmiaaGreatDoor.PPostmark.Postmark) : Option (ByteArray) :=
  unPostmark p fun (p_id : Int) (p_town : ByteArray) (p_kind_ : Int) (p_first : Int) (p_last : Int) (p_lost : ByteArray) =>
  some p_town

set_option maxRecDepth 100000 in
set_option maxHeartbeats 2000000 in
theorem C (p : Go.Proofs.YtgimcnpkngpmiaaGreatDoor.PPostmark.Postmark)   (w : World)   {r : ByteArray} (H : Hid (P p = some r)) :
    Calls Tryz.prog 33 #[p.val] w (Gives (.string r) w) := by
  have HB := Lib.hid (Below.refl w.heap.size w)
  unfold P at H
  obtain ⟨p_id, p_town, p_kind_, p_first, p_last, p_lost⟩ := p
  replace H := unPostmark_hid H
  unfold Go.Proofs.YtgimcnpkngpmiaaGreatDoor.PPostmark.Postmark.val
  go_enter Tryz.func33, Tryz.ntmps33
  obtain ⟨w_p_0, hw_p_0⟩ : ∃ x, w.alloc (.cells #[.int .i64 p_id, .string p_town, .int .i64 p_kind_, .int .i64 p_first, .int .i64 p_last, .string p_lost] 34) = x := ⟨_, rfl⟩
  have bw_p_0 : Below w.heap.size w w_p_0 := by rw [← hw_p_0]; exact (Below.refl _ _).alloc (Nat.le_refl _) _
  have HBw_p_0 := Lib.hid (Below.step HB.out bw_p_0)
  clear bw_p_0
  have kp_0_0 : w_p_0.cell? ⟨w.heap.size, 0, none⟩ = some (.int .i64 p_id) := by rw [← hw_p_0]; exact box_new _ _ _ 0 _ rfl
  have kp_0_1 : w_p_0.cell? ⟨w.heap.size, 1, none⟩ = some (.string p_town) := by rw [← hw_p_0]; exact box_new _ _ _ 1 _ rfl
  have kp_0_2 : w_p_0.cell? ⟨w.heap.size, 2, none⟩ = some (.int .i64 p_kind_) := by rw [← hw_p_0]; exact box_new _ _ _ 2 _ rfl
  have kp_0_3 : w_p_0.cell? ⟨w.heap.size, 3, none⟩ = some (.int .i64 p_first) := by rw [← hw_p_0]; exact box_new _ _ _ 3 _ rfl
  have kp_0_4 : w_p_0.cell? ⟨w.heap.size, 4, none⟩ = some (.int .i64 p_last) := by rw [← hw_p_0]; exact box_new _ _ _ 4 _ rfl
  have kp_0_5 : w_p_0.cell? ⟨w.heap.size, 5, none⟩ = some (.string p_lost) := by rw [← hw_p_0]; exact box_new _ _ _ 5 _ rfl
  obtain rfl := ret_hid H
  go_wp2_with fail
  go_ret
  exact ⟨rfl, HBw_p_0.out⟩
end Go.Proofs.YtgimcnpkngpmiaaGreatDoor.GiTownOfPostmark

