/- Texts on which the proofs of several laws stand, one behind the other (4 of 13). No condition of their own. -/
import Derived.Test.YtgimcnpkngpmiaaGreatDoorChecked
import Derived.Test.YtgimcnpkngpmiaaGreatDoorX12P1
import Derived.Test.YtgimcnpkngpmiaaGreatDoorX12P2
import Derived.Test.YtgimcnpkngpmiaaGreatDoorX12P3
import Derived.WalkKit
import Derived.WalkSpells
import Derived.WalkLawsBesides
import Derived.BigQuiet
import Derived.OwnWalk
import Derived.Deep.LoopGhost
import Derived.Deep.QuietTactic
import Derived.IntWalk
import Derived.Lib.QuietBelow
/- (*loop.example/g01062/spec.l1Cur).postmarks11 as a plain function, and the contract of the program's: where the plain one has an answer, the program has it. Conditions: slices read as lists. -/
namespace Go.Proofs.YtgimcnpkngpmiaaGreatDoor.GsL1CurPostmarks11
set_option linter.unusedVariables false
set_option linter.unusedSimpArgs false
open Go.RowKit
open Go.Proofs.YtgimcnpkngpmiaaGreatDoor.Rowed Go.Proofs.YtgimcnpkngpmiaaGreatDoor.Turn Go.Proofs.YtgimcnpkngpmiaaGreatDoor.Aid Go.Proofs.YtgimcnpkngpmiaaGreatDoor.GoP Go.Proofs.YtgimcnpkngpmiaaGreatDoor.GoM

def l0 (fuel : Nat) (s : (List Go.Proofs.YtgimcnpkngpmiaaGreatDoor.PPostmark.Postmark) × Int × Int × Go.Proofs.YtgimcnpkngpmiaaGreatDoor.GoC.Tape) (nx0 bk0 : (List Go.Proofs.YtgimcnpkngpmiaaGreatDoor.PPostmark.Postmark) × Int × Int × Go.Proofs.YtgimcnpkngpmiaaGreatDoor.GoC.Tape → Option ((List Go.Proofs.YtgimcnpkngpmiaaGreatDoor.PPostmark.Postmark) × Go.Proofs.YtgimcnpkngpmiaaGreatDoor.GoC.Tape)) : Option ((List Go.Proofs.YtgimcnpkngpmiaaGreatDoor.PPostmark.Postmark) × Go.Proofs.YtgimcnpkngpmiaaGreatDoor.GoC.Tape) :=
  unp4 s fun out_3l0 id_4l0 n_5l0 c0_c0l0 =>
  letK (decide (0 < n_5l0)) fun (t_8 : Bool) =>
  iteK t_8
  (letK (IntKind.i64.wrap (id_4l0 + 1)) fun (t_10 : Int) =>
  bind2 (Go.Proofs.YtgimcnpkngpmiaaGreatDoor.GsL1CurPick.P c0_c0l0 3) fun (t_12 : Int) (t_12_tp : Go.Proofs.YtgimcnpkngpmiaaGreatDoor.GoC.Tape) =>
  letK (IntKind.i64.wrap (t_10 + t_12)) fun (t_13 : Int) =>
  bind2 (Go.Proofs.YtgimcnpkngpmiaaGreatDoor.GsL1CurPick.P t_12_tp 150) fun (t_15 : Int) (t_15_tp : Go.Proofs.YtgimcnpkngpmiaaGreatDoor.GoC.Tape) =>
  letK (IntKind.i64.wrap (Int.tdiv t_15 149)) fun (t_16 : Int) =>
  letK (IntKind.i64.wrap (t_13 - t_16)) fun (t_17 : Int) =>
  bind2 (Go.Proofs.YtgimcnpkngpmiaaGreatDoor.GsL1CurPostmark11.P fuel t_15_tp t_17) fun (t_22 : Go.Proofs.YtgimcnpkngpmiaaGreatDoor.PPostmark.Postmark) (t_22_tp : Go.Proofs.YtgimcnpkngpmiaaGreatDoor.GoC.Tape) =>
  unPostmark t_22 fun (t_22_id : Int) (t_22_town : ByteArray) (t_22_kind_ : Int) (t_22_first : Int) (t_22_last : Int) (t_22_lost : ByteArray) =>
  guardK (out_3l0.length ≤ 1099511627776) <|
  letK (out_3l0 ++ [(Go.Proofs.YtgimcnpkngpmiaaGreatDoor.PPostmark.Postmark.mk t_22_id t_22_town t_22_kind_ t_22_first t_22_last t_22_lost)]) fun (t_24 : (List Go.Proofs.YtgimcnpkngpmiaaGreatDoor.PPostmark.Postmark)) =>
  letK (IntKind.i64.wrap (n_5l0 - 1)) fun (t_27 : Int) =>
  appK nx0 (t_24, t_17, t_27, t_22_tp))
  (appK bk0 (out_3l0, id_4l0, n_5l0, c0_c0l0))

def j0  (s : (List Go.Proofs.YtgimcnpkngpmiaaGreatDoor.PPostmark.Postmark) × Go.Proofs.YtgimcnpkngpmiaaGreatDoor.GoC.Tape) : Option ((List Go.Proofs.YtgimcnpkngpmiaaGreatDoor.PPostmark.Postmark) × Go.Proofs.YtgimcnpkngpmiaaGreatDoor.GoC.Tape) :=
  unp2 s fun out_3j0 c0_c0j0 =>
  some (out_3j0, c0_c0j0)

def l1  (s : (List Go.Proofs.YtgimcnpkngpmiaaGreatDoor.PPostmark.Postmark) × Int × Go.Proofs.YtgimcnpkngpmiaaGreatDoor.GoC.Tape) (nx1 bk1 : (List Go.Proofs.YtgimcnpkngpmiaaGreatDoor.PPostmark.Postmark) × Int × Go.Proofs.YtgimcnpkngpmiaaGreatDoor.GoC.Tape → Option ((List Go.Proofs.YtgimcnpkngpmiaaGreatDoor.PPostmark.Postmark) × Go.Proofs.YtgimcnpkngpmiaaGreatDoor.GoC.Tape)) : Option ((List Go.Proofs.YtgimcnpkngpmiaaGreatDoor.PPostmark.Postmark) × Go.Proofs.YtgimcnpkngpmiaaGreatDoor.GoC.Tape) :=
  unp3 s fun out_3l1 n_6l1 c0_c0l1 =>
  bind2 (Go.Proofs.YtgimcnpkngpmiaaGreatDoor.GsL1CurPick.P c0_c0l1 2) fun (t_36 : Int) (t_36_tp : Go.Proofs.YtgimcnpkngpmiaaGreatDoor.GoC.Tape) =>
  letK (IntKind.i64.wrap (12 + t_36)) fun (t_37 : Int) =>
  letK (decide (n_6l1 < t_37)) fun (t_38 : Bool) =>
  iteK t_38
  (letK (IntKind.i64.wrap (n_6l1 + 1)) fun (t_41 : Int) =>
  letK (IntKind.i64.wrap (20 * n_6l1)) fun (t_43 : Int) =>
  letK (IntKind.i64.wrap (20 * n_6l1)) fun (t_45 : Int) =>
  letK (IntKind.i64.wrap (t_45 + 10)) fun (t_46 : Int) =>
  guardK (out_3l1.length ≤ 1099511627776) <|
  letK (out_3l1 ++ [(Go.Proofs.YtgimcnpkngpmiaaGreatDoor.PPostmark.Postmark.mk t_41 (⟨#[98, 101, 114, 110]⟩ : ByteArray) 1 t_43 t_46 (⟨#[46, 46, 46, 46]⟩ : ByteArray))]) fun (t_49 : (List Go.Proofs.YtgimcnpkngpmiaaGreatDoor.PPostmark.Postmark)) =>
  letK (IntKind.i64.wrap (n_6l1 + 1)) fun (t_52 : Int) =>
  appK nx1 (t_49, t_52, t_36_tp))
  (appK bk1 (out_3l1, n_6l1, t_36_tp))

def e1 (c : Go.Proofs.YtgimcnpkngpmiaaGreatDoor.GoC.Tape) (fuel : Nat) (t_5 : Int) (t_5_tp : Go.Proofs.YtgimcnpkngpmiaaGreatDoor.GoC.Tape) (out_3l0 : (List Go.Proofs.YtgimcnpkngpmiaaGreatDoor.PPostmark.Postmark)) (id_4l0 : Int) (n_5l0 : Int) (c0_c0l0 : Go.Proofs.YtgimcnpkngpmiaaGreatDoor.GoC.Tape) (t_30 : Bool) (t_30_tp : Go.Proofs.YtgimcnpkngpmiaaGreatDoor.GoC.Tape) (s : (List Go.Proofs.YtgimcnpkngpmiaaGreatDoor.PPostmark.Postmark) × Int × Go.Proofs.YtgimcnpkngpmiaaGreatDoor.GoC.Tape) : Option ((List Go.Proofs.YtgimcnpkngpmiaaGreatDoor.PPostmark.Postmark) × Go.Proofs.YtgimcnpkngpmiaaGreatDoor.GoC.Tape) :=
  unp3 s fun out_3l1 n_6l1 c0_c0l1 =>
  j0  (out_3l1, c0_c0l1)

def e0 (c : Go.Proofs.YtgimcnpkngpmiaaGreatDoor.GoC.Tape) (fuel : Nat) (t_5 : Int) (t_5_tp : Go.Proofs.YtgimcnpkngpmiaaGreatDoor.GoC.Tape) (s : (List Go.Proofs.YtgimcnpkngpmiaaGreatDoor.PPostmark.Postmark) × Int × Int × Go.Proofs.YtgimcnpkngpmiaaGreatDoor.GoC.Tape) : Option ((List Go.Proofs.YtgimcnpkngpmiaaGreatDoor.PPostmark.Postmark) × Go.Proofs.YtgimcnpkngpmiaaGreatDoor.GoC.Tape) :=
  unp4 s fun out_3l0 id_4l0 n_5l0 c0_c0l0 =>
  bind2 (Go.Proofs.YtgimcnpkngpmiaaGreatDoor.GsL1CurOne.P c0_c0l0 24) fun (t_30 : Bool) (t_30_tp : Go.Proofs.YtgimcnpkngpmiaaGreatDoor.GoC.Tape) =>
  iteK t_30
  (loopK (l1 ) fuel (([] : List Go.Proofs.YtgimcnpkngpmiaaGreatDoor.PPostmark.Postmark), 0, t_30_tp) (e1 c fuel t_5 t_5_tp out_3l0 id_4l0 n_5l0 c0_c0l0 t_30 t_30_tp))
  (j0  (out_3l0, t_30_tp))

def P (fuel : Nat) (c : Go.Proofs.YtgimcnpkngpmiaaGreatDoor.GoC.Tape) : Option ((List Go.Proofs.YtgimcnpkngpmiaaGreatDoor.PPostmark.Postmark) × Go.Proofs.YtgimcnpkngpmiaaGreatDoor.GoC.Tape) :=
  bind2 (Go.Proofs.YtgimcnpkngpmiaaGreatDoor.GsL1CurPick.P c 8) fun (t_5 : Int) (t_5_tp : Go.Proofs.YtgimcnpkngpmiaaGreatDoor.GoC.Tape) =>
  loopK (l0 fuel) fuel (([] : List Go.Proofs.YtgimcnpkngpmiaaGreatDoor.PPostmark.Postmark), 0, t_5, t_5_tp) (e0 c fuel t_5 t_5_tp)

set_option maxRecDepth 100000 in
set_option maxHeartbeats 2000000 in
theorem C (fuel : Nat) (c : Go.Proofs.YtgimcnpkngpmiaaGreatDoor.GoC.Tape)   (g0 : Nat) (Ac0 : Option Addr) (cc0 : Nat) (bc0 : Nat) (w : World)   (K0 : Hid (Go.Proofs.YtgimcnpkngpmiaaGreatDoor.GoC.CurIs w bc0 g0 Ac0 cc0 c)) {r : (List Go.Proofs.YtgimcnpkngpmiaaGreatDoor.PPostmark.Postmark)} {t_ : Go.Proofs.YtgimcnpkngpmiaaGreatDoor.GoC.Tape} (H : Hid (P fuel c = some (r, t_))) :
    Calls Tryz.prog 20 #[.pointer (some ⟨g0, 0, none⟩)] w (fun e w' => ∃ A_r c_r, e = .returned (.slice A_r r.length c_r) ∧ w'.ownsRow w.heap.size 34 6 (.slice A_r r.length c_r) r.length (Go.Proofs.YtgimcnpkngpmiaaGreatDoor.PPostmark.flat r) ∧ Go.Proofs.YtgimcnpkngpmiaaGreatDoor.GoC.CurIs w' bc0 g0 Ac0 cc0 t_ ∧ w.grownBy w' (Value.slice (some ⟨g0, 0, none⟩) 1 1).ownBlock) := by
  have HB := Lib.hid (Aid.grown_refl w (Value.slice (some ⟨g0, 0, none⟩) 1 1).ownBlock)
  unfold P at H
  have L0 : bc0 ≤ w.heap.size := by have := Go.Proofs.YtgimcnpkngpmiaaGreatDoor.GoC.cur_lt K0.out; omega
  obtain ⟨i0_34, hi_34, hz0_34, hz1_34, hz2_34⟩ := Aid.info_parts (P := Tryz.prog) (T := 34) (z := .agg #[.int .i64 0, .string ByteArray.empty, .int .i64 0, .int .i64 0, .int .i64 0, .string ByteArray.empty]) (s := 6) (b := 64) (by kernel_rfl)
  go_enter Tryz.func20, Tryz.ntmps20
  obtain ⟨w_t_1, hw_t_1⟩ : ∃ x, w.alloc (.cells #[] 34) = x := ⟨_, rfl⟩
  have bw_t_1 : Below w.heap.size w w_t_1 := by rw [← hw_t_1]; exact (Below.refl _ _).alloc (Nat.le_refl _) _
  have Ot_1 : Hid (w_t_1.ownsRow w.heap.size 34 6 (.slice (some ⟨w.heap.size, 0, none⟩) 0 0) 0 []) := Lib.hid (by rw [← hw_t_1]; exact own_empty HB.out.size)
  have Dt_1_c0 := Lib.hid (Go.Proofs.YtgimcnpkngpmiaaGreatDoor.GoC.apart_cur K0.out)
  have HBw_t_1 := Lib.hid (grown_below HB.out bw_t_1)
  replace K0 := Lib.hid (Go.Proofs.YtgimcnpkngpmiaaGreatDoor.GoC.cur_below K0.out bw_t_1)
  clear bw_t_1
  replace H := bind2_hid H
  obtain ⟨t_5, t_5_tp, qt_5, H⟩ := H
  go_wp2_with fail
  go_at_call 52
  refine (Go.Proofs.YtgimcnpkngpmiaaGreatDoor.GsL1CurPick.C (c) (8) (g0) (Ac0) (cc0) (bc0) _   K0 qt_5).mono ?_
  rintro e_t_5 wt_5 ⟨rfl, kt_5, gt_5⟩
  have Kt_5 := Lib.hid kt_5
  have Gt_5 : Hid (w_t_1.grownBy wt_5 (Value.slice (some ⟨g0, 0, none⟩) 1 1).ownBlock) := Lib.hid gt_5
  clear kt_5 gt_5
  have HBwt_5 := Lib.hid (Aid.grown_tr HBw_t_1.out Gt_5.out)
  replace Ot_1 := Lib.hid (own_other Ot_1.out Gt_5.out (Apart.symm Dt_1_c0.out))
  clear K0 Gt_5
  go_wp2_with fail
  go_loopg [3, 4, 5] (fuel) (fun m_ v3_ v4_ v5_ wr => ∃ (out_3l0 : (List Go.Proofs.YtgimcnpkngpmiaaGreatDoor.PPostmark.Postmark)) (id_4l0 : Int) (n_5l0 : Int) (c0_c0l0 : Go.Proofs.YtgimcnpkngpmiaaGreatDoor.GoC.Tape) (Aout_3l0 : Option Addr) (cout_3l0 : Nat), v3_ = .slice Aout_3l0 out_3l0.length cout_3l0 ∧ v4_ = .int .i64 id_4l0 ∧ v5_ = .int .i64 n_5l0 ∧ Hid (loopK (l0 fuel) m_ (out_3l0, id_4l0, n_5l0, c0_c0l0) (e0 c fuel t_5 t_5_tp) = some (r, t_)) ∧ Hid (w.grownBy wr (Value.slice (some ⟨g0, 0, none⟩) 1 1).ownBlock) ∧ Hid (wr.ownsRow w.heap.size 34 6 (.slice Aout_3l0 out_3l0.length cout_3l0) out_3l0.length (Go.Proofs.YtgimcnpkngpmiaaGreatDoor.PPostmark.flat out_3l0)) ∧ Hid (Apart Aout_3l0 (some ⟨g0, 0, none⟩)) ∧ Hid (Go.Proofs.YtgimcnpkngpmiaaGreatDoor.GoC.CurIs wr bc0 g0 Ac0 cc0 c0_c0l0))
  case atStart => exact ⟨_, _, _, _, _, _, rfl, rfl, rfl, H, HBwt_5, Ot_1, Lib.hid Dt_1_c0.out, Kt_5⟩
  case round =>
    obtain ⟨out_3l0, id_4l0, n_5l0, c0_c0l0, Aout_3l0, cout_3l0, rfl, rfl, rfl, H, HBwr0, Oout_3l0, Dout_3l0_c0, Kl0_0⟩ := hrel
    rename World => wr0
    cases gk with
    | zero => exact (loop_zero H).elim
    | succ m0 =>
      replace H := loop_succ H
      unfold l0 at H
      replace H := unp4_hid H
      replace H := let_hid H
      obtain ⟨t_8, ht_8, H⟩ := H
      cases t_8 with
      | false =>
        replace H := ite_f H
        replace H := app_hid H
        unfold e0 at H
        replace H := unp4_hid H
        replace H := bind2_hid H
        obtain ⟨t_30, t_30_tp, qt_30, H⟩ := H
        go_wp2_with fail
        go_at_call 54
        refine (Go.Proofs.YtgimcnpkngpmiaaGreatDoor.GsL1CurOne.C (c0_c0l0) (24) (g0) (Ac0) (cc0) (bc0) _   Kl0_0 qt_30).mono ?_
        rintro e_t_30 wt_30 ⟨rfl, kt_30, gt_30⟩
        have Kt_30 := Lib.hid kt_30
        have Gt_30 : Hid (wr0.grownBy wt_30 (Value.slice (some ⟨g0, 0, none⟩) 1 1).ownBlock) := Lib.hid gt_30
        clear kt_30 gt_30
        have HBwt_30 := Lib.hid (Aid.grown_tr HBwr0.out Gt_30.out)
        replace Oout_3l0 := Lib.hid (own_other Oout_3l0.out Gt_30.out (Apart.symm Dout_3l0_c0.out))
        clear Kl0_0 Gt_30
        cases t_30 with
        | false =>
          replace H := ite_f H
          unfold j0 at H
          replace H := unp2_hid H
          cases ret_hid H
          go_wp2_with fail
          go_ret
          exact ⟨Aout_3l0, cout_3l0, rfl, Oout_3l0.out, Kt_30.out, HBwt_30.out⟩
        | true =>
          replace H := ite_t H
          obtain ⟨w_t_31, hw_t_31⟩ : ∃ x, wt_30.alloc (.cells #[] 34) = x := ⟨_, rfl⟩
          have bw_t_31 : Below wt_30.heap.size wt_30 w_t_31 := by rw [← hw_t_31]; exact (Below.refl _ _).alloc (Nat.le_refl _) _
          have Ot_31 : Hid (w_t_31.ownsRow w.heap.size 34 6 (.slice (some ⟨wt_30.heap.size, 0, none⟩) 0 0) 0 []) := Lib.hid (by rw [← hw_t_31]; exact own_empty HBwt_30.out.size)
          have Dt_31_out_3l0 := Lib.hid (apart_fresh Oout_3l0.out)
          have Dt_31_c0 := Lib.hid (Go.Proofs.YtgimcnpkngpmiaaGreatDoor.GoC.apart_cur Kt_30.out)
          have HBw_t_31 := Lib.hid (grown_below HBwt_30.out bw_t_31)
          replace Oout_3l0 := Lib.hid (own_below Oout_3l0.out bw_t_31)
          replace Kt_30 := Lib.hid (Go.Proofs.YtgimcnpkngpmiaaGreatDoor.GoC.cur_below Kt_30.out bw_t_31)
          clear bw_t_31
          go_wp2_with fail
          go_loopg [3, 6] (fuel) (fun m_ v3_ v6_ wr => ∃ (out_3l1 : (List Go.Proofs.YtgimcnpkngpmiaaGreatDoor.PPostmark.Postmark)) (n_6l1 : Int) (c0_c0l1 : Go.Proofs.YtgimcnpkngpmiaaGreatDoor.GoC.Tape) (Aout_3l1 : Option Addr) (cout_3l1 : Nat), v3_ = .slice Aout_3l1 out_3l1.length cout_3l1 ∧ v6_ = .int .i64 n_6l1 ∧ Hid (loopK (l1 ) m_ (out_3l1, n_6l1, c0_c0l1) (e1 c fuel t_5 t_5_tp out_3l0 id_4l0 n_5l0 c0_c0l0 true t_30_tp) = some (r, t_)) ∧ Hid (w.grownBy wr (Value.slice (some ⟨g0, 0, none⟩) 1 1).ownBlock) ∧ Hid (wr.ownsRow w.heap.size 34 6 (.slice Aout_3l1 out_3l1.length cout_3l1) out_3l1.length (Go.Proofs.YtgimcnpkngpmiaaGreatDoor.PPostmark.flat out_3l1)) ∧ Hid (Apart Aout_3l1 (some ⟨g0, 0, none⟩)) ∧ Hid (Go.Proofs.YtgimcnpkngpmiaaGreatDoor.GoC.CurIs wr bc0 g0 Ac0 cc0 c0_c0l1))
          case atStart => exact ⟨_, _, _, _, _, rfl, rfl, H, HBw_t_31, Ot_31, Lib.hid Dt_31_c0.out, Kt_30⟩
          case round =>
            obtain ⟨out_3l1, n_6l1, c0_c0l1, Aout_3l1, cout_3l1, rfl, rfl, H, HBwr1, Oout_3l1, Dout_3l1_c0, Kl1_0⟩ := hrel
            rename World => wr1
            cases gk with
            | zero => exact (loop_zero H).elim
            | succ m1 =>
              replace H := loop_succ H
              unfold l1 at H
              replace H := unp3_hid H
              replace H := bind2_hid H
              obtain ⟨t_36, t_36_tp, qt_36, H⟩ := H
              go_wp2_with fail
              go_at_call 52
              refine (Go.Proofs.YtgimcnpkngpmiaaGreatDoor.GsL1CurPick.C (c0_c0l1) (2) (g0) (Ac0) (cc0) (bc0) _   Kl1_0 qt_36).mono ?_
              rintro e_t_36 wt_36 ⟨rfl, kt_36, gt_36⟩
              have Kt_36 := Lib.hid kt_36
              have Gt_36 : Hid (wr1.grownBy wt_36 (Value.slice (some ⟨g0, 0, none⟩) 1 1).ownBlock) := Lib.hid gt_36
              clear kt_36 gt_36
              have HBwt_36 := Lib.hid (Aid.grown_tr HBwr1.out Gt_36.out)
              replace Oout_3l1 := Lib.hid (own_other Oout_3l1.out Gt_36.out (Apart.symm Dout_3l1_c0.out))
              clear Kl1_0 Gt_36
              replace H := let_hid H
              obtain ⟨t_37, ht_37, H⟩ := H
              replace H := let_hid H
              obtain ⟨t_38, ht_38, H⟩ := H
              cases t_38 with
              | false =>
                replace H := ite_f H
                replace H := app_hid H
                unfold e1 at H
                replace H := unp3_hid H
                unfold j0 at H
                replace H := unp2_hid H
                cases ret_hid H
                go_wp2_with fail
                go_ret
                exact ⟨Aout_3l1, cout_3l1, rfl, Oout_3l1.out, Kt_36.out, HBwt_36.out⟩
              | true =>
                replace H := ite_t H
                replace H := let_hid H
                obtain ⟨t_41, ht_41, H⟩ := H
                replace H := let_hid H
                obtain ⟨t_43, ht_43, H⟩ := H
                replace H := let_hid H
                obtain ⟨t_45, ht_45, H⟩ := H
                obtain rfl := ht_43.symm.trans ht_45
                replace H := let_hid H
                obtain ⟨t_46, ht_46, H⟩ := H
                obtain ⟨w_t_48, hw_t_48⟩ : ∃ x, wt_36.alloc (.cells #[.int .i64 t_41, .string (⟨#[98, 101, 114, 110]⟩ : ByteArray), .int .i64 1, .int .i64 t_43, .int .i64 t_46, .string (⟨#[46, 46, 46, 46]⟩ : ByteArray)] 34) = x := ⟨_, rfl⟩
                have bw_t_48 : Below wt_36.heap.size wt_36 w_t_48 := by rw [← hw_t_48]; exact (Below.refl _ _).alloc (Nat.le_refl _) _
                have HBw_t_48 := Lib.hid (grown_below HBwt_36.out bw_t_48)
                replace Oout_3l1 := Lib.hid (own_below Oout_3l1.out bw_t_48)
                replace Kt_36 := Lib.hid (Go.Proofs.YtgimcnpkngpmiaaGreatDoor.GoC.cur_below Kt_36.out bw_t_48)
                clear bw_t_48
                replace H := guard_hid H
                obtain ⟨hlt_49, H⟩ := H
                replace H := let_hid H
                obtain ⟨t_49, ht_49, H⟩ := H
                have hht_49 := Lib.hid ht_49
                clear ht_49
                have hst_49 := HBw_t_48.out.size
                go_wp2_with (at_builtin; refine wpList_append_own_at _ rfl _ _ 24 rfl w.heap.size 34 i0_34 (.agg #[.int .i64 0, .string ByteArray.empty, .int .i64 0, .int .i64 0, .int .i64 0, .string ByteArray.empty]) 6 64 Tryz.underlying24 hi_34 hz0_34 hz1_34 hz2_34 rfl (by decide) _ _ _ rfl Oout_3l1.out ⟨wt_36.heap.size, 0, none⟩ 1 1 [.int .i64 t_41, .string (⟨#[98, 101, 114, 110]⟩ : ByteArray), .int .i64 1, .int .i64 t_43, .int .i64 t_46, .string (⟨#[46, 46, 46, 46]⟩ : ByteArray)] rfl rfl (news_new hw_t_48) (one_cells rfl) (by unfold maxLen; omega) (by omega) hst_49 ?_; intro vt_49 wt_49 ot_49 gt_49 zt_49 yt_49; clear zt_49; obtain ⟨qt_49, ct_49, rfl, pt_49⟩ := own_push hht_49.out (Go.Proofs.YtgimcnpkngpmiaaGreatDoor.PPostmark.flat_snoc _ _) rfl ot_49; have Pt_49 := Lib.hid pt_49; have Yt_49 := Lib.hid yt_49; have Gt_49 := Lib.hid gt_49; clear ot_49 gt_49 pt_49 yt_49; refine stop_in ?_)
                refine stop_out ?_
                have HBwt_49 := Lib.hid (Go.Proofs.YtgimcnpkngpmiaaGreatDoor.GoC.grown_new HBw_t_48.out Gt_49.out (Go.Proofs.YtgimcnpkngpmiaaGreatDoor.GoC.own_ge Oout_3l1.out))
                clear hst_49
                have Dt_49_c0 : Hid (Apart (some ⟨qt_49, 0, none⟩) _) := Lib.hid (apart_app Dout_3l1_c0.out (fun a_ ha_ => by cases ha_; exact (Go.Proofs.YtgimcnpkngpmiaaGreatDoor.GoC.cur_lt Kt_36.out).2) Yt_49.out)
                replace Kt_36 := Lib.hid (Go.Proofs.YtgimcnpkngpmiaaGreatDoor.GoC.cur_otherO Kt_36.out Gt_49.out Dout_3l1_c0.out L0 Oout_3l1.out)
                clear Oout_3l1 Yt_49 Gt_49
                replace H := let_hid H
                obtain ⟨t_52, ht_52, H⟩ := H
                obtain rfl := ht_41.symm.trans ht_52
                replace H := app_hid H
                go_wp2_with fail
                go_roundg m1
                case measure => omega
                case rel => exact ⟨_, _, _, _, _, rfl, rfl, H, HBwt_49, Pt_49, Lib.hid Dt_49_c0.out, Kt_36⟩
      | true =>
        replace H := ite_t H
        replace H := let_hid H
        obtain ⟨t_10, ht_10, H⟩ := H
        replace H := bind2_hid H
        obtain ⟨t_12, t_12_tp, qt_12, H⟩ := H
        go_wp2_with fail
        go_at_call 52
        refine (Go.Proofs.YtgimcnpkngpmiaaGreatDoor.GsL1CurPick.C (c0_c0l0) (3) (g0) (Ac0) (cc0) (bc0) _   Kl0_0 qt_12).mono ?_
        rintro e_t_12 wt_12 ⟨rfl, kt_12, gt_12⟩
        have Kt_12 := Lib.hid kt_12
        have Gt_12 : Hid (wr0.grownBy wt_12 (Value.slice (some ⟨g0, 0, none⟩) 1 1).ownBlock) := Lib.hid gt_12
        clear kt_12 gt_12
        have HBwt_12 := Lib.hid (Aid.grown_tr HBwr0.out Gt_12.out)
        replace Oout_3l0 := Lib.hid (own_other Oout_3l0.out Gt_12.out (Apart.symm Dout_3l0_c0.out))
        clear Kl0_0 Gt_12
        replace H := let_hid H
        obtain ⟨t_13, ht_13, H⟩ := H
        replace H := bind2_hid H
        obtain ⟨t_15, t_15_tp, qt_15, H⟩ := H
        go_wp2_with fail
        go_at_call 52
        refine (Go.Proofs.YtgimcnpkngpmiaaGreatDoor.GsL1CurPick.C (t_12_tp) (150) (g0) (Ac0) (cc0) (bc0) _   Kt_12 qt_15).mono ?_
        rintro e_t_15 wt_15 ⟨rfl, kt_15, gt_15⟩
        have Kt_15 := Lib.hid kt_15
        have Gt_15 : Hid (wt_12.grownBy wt_15 (Value.slice (some ⟨g0, 0, none⟩) 1 1).ownBlock) := Lib.hid gt_15
        clear kt_15 gt_15
        have HBwt_15 := Lib.hid (Aid.grown_tr HBwt_12.out Gt_15.out)
        replace Oout_3l0 := Lib.hid (own_other Oout_3l0.out Gt_15.out (Apart.symm Dout_3l0_c0.out))
        clear Kt_12 Gt_15
        replace H := let_hid H
        obtain ⟨t_16, ht_16, H⟩ := H
        replace H := let_hid H
        obtain ⟨t_17, ht_17, H⟩ := H
        replace H := bind2_hid H
        obtain ⟨t_22, t_22_tp, qt_22, H⟩ := H
        obtain ⟨t_22_id, t_22_town, t_22_kind_, t_22_first, t_22_last, t_22_lost⟩ := t_22
        replace H := unPostmark_hid H
        go_wp2_with fail
        go_at_call 53
        refine (Go.Proofs.YtgimcnpkngpmiaaGreatDoor.GsL1CurPostmark11.C fuel (t_15_tp) (t_17) (g0) (Ac0) (cc0) (bc0) _   Kt_15 qt_22).mono ?_
        rintro e_t_22 wt_22 ⟨rfl, kt_22, gt_22⟩
        unfold Go.Proofs.YtgimcnpkngpmiaaGreatDoor.PPostmark.Postmark.val
        have Kt_22 := Lib.hid kt_22
        have Gt_22 : Hid (wt_15.grownBy wt_22 (Value.slice (some ⟨g0, 0, none⟩) 1 1).ownBlock) := Lib.hid gt_22
        clear kt_22 gt_22
        have HBwt_22 := Lib.hid (Aid.grown_tr HBwt_15.out Gt_22.out)
        replace Oout_3l0 := Lib.hid (own_other Oout_3l0.out Gt_22.out (Apart.symm Dout_3l0_c0.out))
        clear Kt_15 Gt_22
        obtain ⟨w_t_23, hw_t_23⟩ : ∃ x, wt_22.alloc (.cells #[.int .i64 t_22_id, .string t_22_town, .int .i64 t_22_kind_, .int .i64 t_22_first, .int .i64 t_22_last, .string t_22_lost] 34) = x := ⟨_, rfl⟩
        have bw_t_23 : Below wt_22.heap.size wt_22 w_t_23 := by rw [← hw_t_23]; exact (Below.refl _ _).alloc (Nat.le_refl _) _
        have HBw_t_23 := Lib.hid (grown_below HBwt_22.out bw_t_23)
        replace Oout_3l0 := Lib.hid (own_below Oout_3l0.out bw_t_23)
        replace Kt_22 := Lib.hid (Go.Proofs.YtgimcnpkngpmiaaGreatDoor.GoC.cur_below Kt_22.out bw_t_23)
        clear bw_t_23
        replace H := guard_hid H
        obtain ⟨hlt_24, H⟩ := H
        replace H := let_hid H
        obtain ⟨t_24, ht_24, H⟩ := H
        have hht_24 := Lib.hid ht_24
        clear ht_24
        have hst_24 := HBw_t_23.out.size
        go_wp2_with (at_builtin; refine wpList_append_own_at _ rfl _ _ 24 rfl w.heap.size 34 i0_34 (.agg #[.int .i64 0, .string ByteArray.empty, .int .i64 0, .int .i64 0, .int .i64 0, .string ByteArray.empty]) 6 64 Tryz.underlying24 hi_34 hz0_34 hz1_34 hz2_34 rfl (by decide) _ _ _ rfl Oout_3l0.out ⟨wt_22.heap.size, 0, none⟩ 1 1 [.int .i64 t_22_id, .string t_22_town, .int .i64 t_22_kind_, .int .i64 t_22_first, .int .i64 t_22_last, .string t_22_lost] rfl rfl (news_new hw_t_23) (one_cells rfl) (by unfold maxLen; omega) (by omega) hst_24 ?_; intro vt_24 wt_24 ot_24 gt_24 zt_24 yt_24; clear zt_24; obtain ⟨qt_24, ct_24, rfl, pt_24⟩ := own_push hht_24.out (Go.Proofs.YtgimcnpkngpmiaaGreatDoor.PPostmark.flat_snoc _ _) rfl ot_24; have Pt_24 := Lib.hid pt_24; have Yt_24 := Lib.hid yt_24; have Gt_24 := Lib.hid gt_24; clear ot_24 gt_24 pt_24 yt_24; refine stop_in ?_)
        refine stop_out ?_
        have HBwt_24 := Lib.hid (Go.Proofs.YtgimcnpkngpmiaaGreatDoor.GoC.grown_new HBw_t_23.out Gt_24.out (Go.Proofs.YtgimcnpkngpmiaaGreatDoor.GoC.own_ge Oout_3l0.out))
        clear hst_24
        have Dt_24_c0 : Hid (Apart (some ⟨qt_24, 0, none⟩) _) := Lib.hid (apart_app Dout_3l0_c0.out (fun a_ ha_ => by cases ha_; exact (Go.Proofs.YtgimcnpkngpmiaaGreatDoor.GoC.cur_lt Kt_22.out).2) Yt_24.out)
        replace Kt_22 := Lib.hid (Go.Proofs.YtgimcnpkngpmiaaGreatDoor.GoC.cur_otherO Kt_22.out Gt_24.out Dout_3l0_c0.out L0 Oout_3l0.out)
        clear Oout_3l0 Yt_24 Gt_24
        replace H := let_hid H
        obtain ⟨t_27, ht_27, H⟩ := H
        replace H := app_hid H
        go_wp2_with fail
        go_roundg m0
        case measure => omega
        case rel => exact ⟨_, _, _, _, _, _, rfl, rfl, rfl, H, HBwt_24, Pt_24, Lib.hid Dt_24_c0.out, Kt_22⟩
end Go.Proofs.YtgimcnpkngpmiaaGreatDoor.GsL1CurPostmarks11

/- (*loop.example/g01062/spec.l1Cur).postmarkId as a plain function, and the contract of the program's: where the plain one has an answer, the program has it. Conditions: slices read as lists. -/
namespace Go.Proofs.YtgimcnpkngpmiaaGreatDoor.GsL1CurPostmarkId
set_option linter.unusedVariables false
set_option linter.unusedSimpArgs false
open Go.RowKit
open Go.Proofs.YtgimcnpkngpmiaaGreatDoor.Rowed Go.Proofs.YtgimcnpkngpmiaaGreatDoor.Turn Go.Proofs.YtgimcnpkngpmiaaGreatDoor.Aid Go.Proofs.YtgimcnpkngpmiaaGreatDoor.GoP Go.Proofs.YtgimcnpkngpmiaaGreatDoor.GoM

def P (c : Go.Proofs.YtgimcnpkngpmiaaGreatDoor.GoC.Tape) (list : (List Go.Proofs.YtgimcnpkngpmiaaGreatDoor.PPostmark.Postmark)) : Option (Int × Go.Proofs.YtgimcnpkngpmiaaGreatDoor.GoC.Tape) :=
  letK ((list.length : Int) == 0) fun (t_3 : Bool) =>
  joinK (fun (st_7 : Bool × Go.Proofs.YtgimcnpkngpmiaaGreatDoor.GoC.Tape) => unp2 st_7 fun t_7 t_7_tp =>
  iteK t_7
  (letK ([0, 1, 500]) fun (t_9 : (List Int)) =>
  bind2 (Go.Proofs.YtgimcnpkngpmiaaGreatDoor.GsL1CurAmong.P t_7_tp t_9) fun (t_10 : Int) (t_10_tp : Go.Proofs.YtgimcnpkngpmiaaGreatDoor.GoC.Tape) =>
  some (t_10, t_10_tp))
  (bind2 (Go.Proofs.YtgimcnpkngpmiaaGreatDoor.GsL1CurPick.P t_7_tp (list.length : Int)) fun (t_16 : Int) (t_16_tp : Go.Proofs.YtgimcnpkngpmiaaGreatDoor.GoC.Tape) =>
  Option.bind (idx list t_16) fun (yt_17 : Go.Proofs.YtgimcnpkngpmiaaGreatDoor.PPostmark.Postmark) =>
  unPostmark yt_17 fun (t_17_id : Int) (t_17_town : ByteArray) (t_17_kind_ : Int) (t_17_first : Int) (t_17_last : Int) (t_17_lost : ByteArray) =>
  some (t_17_id, t_16_tp))) fun jt_7 => iteK t_3 (appK jt_7 (true, c)) (bind2 (Go.Proofs.YtgimcnpkngpmiaaGreatDoor.GsL1CurOne.P c 10) fun (t_6 : Bool) (t_6_tp : Go.Proofs.YtgimcnpkngpmiaaGreatDoor.GoC.Tape) =>
  appK jt_7 (t_6, t_6_tp))

set_option maxRecDepth 100000 in
set_option maxHeartbeats 2000000 in
theorem C (c : Go.Proofs.YtgimcnpkngpmiaaGreatDoor.GoC.Tape) (list : (List Go.Proofs.YtgimcnpkngpmiaaGreatDoor.PPostmark.Postmark)) (A1 : Option Addr) (c1 : Nat)  (g0 : Nat) (Ac0 : Option Addr) (cc0 : Nat) (bc0 : Nat) (w : World) (M1 : Hid (Cells w 6 A1 list.length (Go.Proofs.YtgimcnpkngpmiaaGreatDoor.PPostmark.flat list))) (N1 : Hid (list.length ≤ 9223372036854775807))  (K0 : Hid (Go.Proofs.YtgimcnpkngpmiaaGreatDoor.GoC.CurIs w bc0 g0 Ac0 cc0 c)) (X1 : Hid (0 < list.length → Apart A1 (some ⟨g0, 0, none⟩))) {r : Int} {t_ : Go.Proofs.YtgimcnpkngpmiaaGreatDoor.GoC.Tape} (H : Hid (P c list = some (r, t_))) :
    Calls Tryz.prog 21 #[.pointer (some ⟨g0, 0, none⟩), .slice A1 list.length c1] w (fun e w' => e = .returned (.int .i64 r) ∧ Go.Proofs.YtgimcnpkngpmiaaGreatDoor.GoC.CurIs w' bc0 g0 Ac0 cc0 t_ ∧ w.grownBy w' (Value.slice (some ⟨g0, 0, none⟩) 1 1).ownBlock) := by
  have HB := Lib.hid (Aid.grown_refl w (Value.slice (some ⟨g0, 0, none⟩) 1 1).ownBlock)
  unfold P at H
  have N1o := N1.out
  have L0 : bc0 ≤ w.heap.size := by have := Go.Proofs.YtgimcnpkngpmiaaGreatDoor.GoC.cur_lt K0.out; omega
  go_enter Tryz.func21, Tryz.ntmps21
  replace H := let_hid H
  obtain ⟨t_3, ht_3, H⟩ := H
  replace H := join_hid H
  cases t_3 with
  | false =>
    have nht_3 : ¬ (list.length = 0) := by have := ne_of_beq_false ht_3; omega
    replace H := ite_f H
    replace H := bind2_hid H
    obtain ⟨t_6, t_6_tp, qt_6, H⟩ := H
    go_wp2_with fail
    go_at_call 54
    refine (Go.Proofs.YtgimcnpkngpmiaaGreatDoor.GsL1CurOne.C (c) (10) (g0) (Ac0) (cc0) (bc0) _   K0 qt_6).mono ?_
    rintro e_t_6 wt_6 ⟨rfl, kt_6, gt_6⟩
    have Kt_6 := Lib.hid kt_6
    have Gt_6 : Hid (w.grownBy wt_6 (Value.slice (some ⟨g0, 0, none⟩) 1 1).ownBlock) := Lib.hid gt_6
    clear kt_6 gt_6
    have HBwt_6 := Lib.hid (Aid.grown_tr HB.out Gt_6.out)
    clear K0 Gt_6
    replace H := app_hid H
    replace H := unp2_hid H
    cases t_6 with
    | false =>
      replace H := ite_f H
      replace H := bind2_hid H
      obtain ⟨t_16, t_16_tp, qt_16, H⟩ := H
      go_wp2_with fail
      go_at_call 52
      refine (Go.Proofs.YtgimcnpkngpmiaaGreatDoor.GsL1CurPick.C (t_6_tp) ((list.length : Int)) (g0) (Ac0) (cc0) (bc0) _   Kt_6 qt_16).mono ?_
      rintro e_t_16 wt_16 ⟨rfl, kt_16, gt_16⟩
      have Kt_16 := Lib.hid kt_16
      have Gt_16 : Hid (wt_6.grownBy wt_16 (Value.slice (some ⟨g0, 0, none⟩) 1 1).ownBlock) := Lib.hid gt_16
      clear kt_16 gt_16
      have HBwt_16 := Lib.hid (Aid.grown_tr HBwt_6.out Gt_16.out)
      clear Kt_6 Gt_16
      replace H := idx_hid H
      obtain ⟨nt_17, yt_17, et_17, lt_17, gt_17, H⟩ := H
      subst et_17
      obtain ⟨t_17_id, t_17_town, t_17_kind_, t_17_first, t_17_last, t_17_lost⟩ := yt_17
      replace H := unPostmark_hid H
      obtain ⟨ab_t_17, ao_t_17, zt_17, At_17, z_t_17, ct_17_0, ct_17_1, ct_17_2, ct_17_3, ct_17_4, ct_17_5⟩ := Go.Proofs.YtgimcnpkngpmiaaGreatDoor.OPostmark.at_ M1.out lt_17
      obtain rfl := Option.some.inj (gt_17.out.symm.trans z_t_17)
      subst At_17
      have ltt_17 := cell_lt ct_17_0
      replace ct_17_0 := cell_other ct_17_0 HBwt_16.out (Go.Proofs.YtgimcnpkngpmiaaGreatDoor.GoC.apart_x X1.out (by omega))
      replace ct_17_1 := cell_other ct_17_1 HBwt_16.out (Go.Proofs.YtgimcnpkngpmiaaGreatDoor.GoC.apart_x X1.out (by omega))
      replace ct_17_2 := cell_other ct_17_2 HBwt_16.out (Go.Proofs.YtgimcnpkngpmiaaGreatDoor.GoC.apart_x X1.out (by omega))
      replace ct_17_3 := cell_other ct_17_3 HBwt_16.out (Go.Proofs.YtgimcnpkngpmiaaGreatDoor.GoC.apart_x X1.out (by omega))
      replace ct_17_4 := cell_other ct_17_4 HBwt_16.out (Go.Proofs.YtgimcnpkngpmiaaGreatDoor.GoC.apart_x X1.out (by omega))
      replace ct_17_5 := cell_other ct_17_5 HBwt_16.out (Go.Proofs.YtgimcnpkngpmiaaGreatDoor.GoC.apart_x X1.out (by omega))
      clear z_t_17
      have b0t_17 : (0 : Int) ≤ (nt_17 : Int) := by omega
      have b1t_17 : (nt_17 : Int) < ((list.length : Nat) : Int) := by omega
      have b2t_17 : ((nt_17 : Int)).toNat = nt_17 := by omega
      cases ret_hid H
      go_wp2_with fail
      go_ret
      exact ⟨rfl, Kt_16.out, HBwt_16.out⟩
    | true =>
      replace H := ite_t H
      replace H := let_hid H
      obtain ⟨t_9, ht_9, H⟩ := H
      obtain ⟨w_t_9, hw_t_9⟩ : ∃ x, wt_6.alloc (.cells #[.int .i64 0, .int .i64 1, .int .i64 500] 3) = x := ⟨_, rfl⟩
      have bw_t_9 : Below wt_6.heap.size wt_6 w_t_9 := by rw [← hw_t_9]; exact (Below.refl _ _).alloc (Nat.le_refl _) _
      have hs_t_9 := HBwt_6.out.size
      have nt_9 : t_9.length = 3 := by rw [← ht_9]; rfl
      have Ot_9 : Hid (w_t_9.ownsRow w.heap.size 3 1 (.slice (some ⟨wt_6.heap.size, 0, none⟩) 3 3) 3 (Go.Proofs.YtgimcnpkngpmiaaGreatDoor.HelpInt.iv t_9)) := by
        rw [← hw_t_9, ← ht_9]
        have e_ : ([.int .i64 0, .int .i64 1, .int .i64 500] : List Value) = (Go.Proofs.YtgimcnpkngpmiaaGreatDoor.HelpInt.iv ([0, 1, 500] : List Int)) := rfl
        exact Lib.hid (own_laid (n := 3) hs_t_9 e_ rfl (by unfold maxLen; omega))
      clear hs_t_9
      have hht_9 := Lib.hid ht_9
      clear ht_9
      replace nt_9 := Lib.hid nt_9
      have Dt_9_c0 := Lib.hid (Go.Proofs.YtgimcnpkngpmiaaGreatDoor.GoC.apart_cur Kt_6.out)
      have HBw_t_9 := Lib.hid (grown_below HBwt_6.out bw_t_9)
      replace Kt_6 := Lib.hid (Go.Proofs.YtgimcnpkngpmiaaGreatDoor.GoC.cur_below Kt_6.out bw_t_9)
      clear bw_t_9
      replace H := bind2_hid H
      obtain ⟨t_10, t_10_tp, qt_10, H⟩ := H
      go_wp2_with fail
      have hc_ := nt_9.out
      have hv_ : (Value.slice (some ⟨wt_6.heap.size, 0, none⟩) 3 3 : Value) = Value.slice (some ⟨wt_6.heap.size, 0, none⟩) t_9.length 3 := by rw [hc_]
      try rw [hv_]
      replace Ot_9 := Lib.hid (own_len hc_ Ot_9.out)
      clear hc_ hv_
      go_wp2_with fail
      go_at_call 55
      refine (Go.Proofs.YtgimcnpkngpmiaaGreatDoor.GsL1CurAmong.C (t_6_tp) (t_9) (some ⟨wt_6.heap.size, 0, none⟩) 3 (g0) (Ac0) (cc0) (bc0) _   (Lib.hid (own_cells Ot_9.out)) (Lib.hid (own_max Ot_9.out)) Kt_6 (Lib.hid (fun _ => Dt_9_c0.out)) qt_10).mono ?_
      rintro e_t_10 wt_10 ⟨rfl, kt_10, gt_10⟩
      have Kt_10 := Lib.hid kt_10
      have Gt_10 : Hid (w_t_9.grownBy wt_10 (Value.slice (some ⟨g0, 0, none⟩) 1 1).ownBlock) := Lib.hid gt_10
      clear kt_10 gt_10
      have HBwt_10 := Lib.hid (Aid.grown_tr HBw_t_9.out Gt_10.out)
      replace Ot_9 := Lib.hid (own_other Ot_9.out Gt_10.out (Apart.symm Dt_9_c0.out))
      clear Kt_6 Gt_10
      cases ret_hid H
      go_wp2_with fail
      go_ret
      exact ⟨rfl, Kt_10.out, HBwt_10.out⟩
  | true =>
    have Hht_3 : Hid (list.length = 0) := Lib.hid (by have := eq_of_beq ht_3; omega)
    have nht_3 : (list.length == 0) = true := beq_iff_eq.2 Hht_3.out
    replace H := ite_t H
    replace H := app_hid H
    replace H := unp2_hid H
    replace H := ite_t H
    replace H := let_hid H
    obtain ⟨t_9, ht_9, H⟩ := H
    obtain ⟨w_t_9, hw_t_9⟩ : ∃ x, w.alloc (.cells #[.int .i64 0, .int .i64 1, .int .i64 500] 3) = x := ⟨_, rfl⟩
    have bw_t_9 : Below w.heap.size w w_t_9 := by rw [← hw_t_9]; exact (Below.refl _ _).alloc (Nat.le_refl _) _
    have hs_t_9 := HB.out.size
    have nt_9 : t_9.length = 3 := by rw [← ht_9]; rfl
    have Ot_9 : Hid (w_t_9.ownsRow w.heap.size 3 1 (.slice (some ⟨w.heap.size, 0, none⟩) 3 3) 3 (Go.Proofs.YtgimcnpkngpmiaaGreatDoor.HelpInt.iv t_9)) := by
      rw [← hw_t_9, ← ht_9]
      have e_ : ([.int .i64 0, .int .i64 1, .int .i64 500] : List Value) = (Go.Proofs.YtgimcnpkngpmiaaGreatDoor.HelpInt.iv ([0, 1, 500] : List Int)) := rfl
      exact Lib.hid (own_laid (n := 3) hs_t_9 e_ rfl (by unfold maxLen; omega))
    clear hs_t_9
    have hht_9 := Lib.hid ht_9
    clear ht_9
    replace nt_9 := Lib.hid nt_9
    have Dt_9_c0 := Lib.hid (Go.Proofs.YtgimcnpkngpmiaaGreatDoor.GoC.apart_cur K0.out)
    have HBw_t_9 := Lib.hid (grown_below HB.out bw_t_9)
    replace K0 := Lib.hid (Go.Proofs.YtgimcnpkngpmiaaGreatDoor.GoC.cur_below K0.out bw_t_9)
    clear bw_t_9
    replace H := bind2_hid H
    obtain ⟨t_10, t_10_tp, qt_10, H⟩ := H
    go_wp2_with fail
    have hc_ := nt_9.out
    have hv_ : (Value.slice (some ⟨w.heap.size, 0, none⟩) 3 3 : Value) = Value.slice (some ⟨w.heap.size, 0, none⟩) t_9.length 3 := by rw [hc_]
    try rw [hv_]
    replace Ot_9 := Lib.hid (own_len hc_ Ot_9.out)
    clear hc_ hv_
    go_wp2_with fail
    go_at_call 55
    refine (Go.Proofs.YtgimcnpkngpmiaaGreatDoor.GsL1CurAmong.C (c) (t_9) (some ⟨w.heap.size, 0, none⟩) 3 (g0) (Ac0) (cc0) (bc0) _   (Lib.hid (own_cells Ot_9.out)) (Lib.hid (own_max Ot_9.out)) K0 (Lib.hid (fun _ => Dt_9_c0.out)) qt_10).mono ?_
    rintro e_t_10 wt_10 ⟨rfl, kt_10, gt_10⟩
    have Kt_10 := Lib.hid kt_10
    have Gt_10 : Hid (w_t_9.grownBy wt_10 (Value.slice (some ⟨g0, 0, none⟩) 1 1).ownBlock) := Lib.hid gt_10
    clear kt_10 gt_10
    have HBwt_10 := Lib.hid (Aid.grown_tr HBw_t_9.out Gt_10.out)
    replace Ot_9 := Lib.hid (own_other Ot_9.out Gt_10.out (Apart.symm Dt_9_c0.out))
    clear K0 Gt_10
    cases ret_hid H
    go_wp2_with fail
    go_ret
    exact ⟨rfl, Kt_10.out, HBwt_10.out⟩
end Go.Proofs.YtgimcnpkngpmiaaGreatDoor.GsL1CurPostmarkId

/- loop.example/g01062/spec.l1Most as a plain function, and the contract of the program's: where the plain one has an answer, the program has it. Conditions: slices read as lists. -/
namespace Go.Proofs.YtgimcnpkngpmiaaGreatDoor.GsL1Most
set_option linter.unusedVariables false
set_option linter.unusedSimpArgs false
open Go.RowKit
open Go.Proofs.YtgimcnpkngpmiaaGreatDoor.Rowed Go.Proofs.YtgimcnpkngpmiaaGreatDoor.Turn Go.Proofs.YtgimcnpkngpmiaaGreatDoor.Aid Go.Proofs.YtgimcnpkngpmiaaGreatDoor.GoP Go.Proofs.YtgimcnpkngpmiaaGreatDoor.GoM

def P (a : Int) (b : Int) : Option (Int) :=
  letK (decide (b < a)) fun (t_3 : Bool) =>
  iteK t_3
  (some a)
  (some b)

set_option maxRecDepth 100000 in
set_option maxHeartbeats 2000000 in
theorem C (a : Int) (b : Int)   (w : World)   {r : Int} (H : Hid (P a b = some r)) :
    Calls Tryz.prog 29 #[.int .i64 a, .int .i64 b] w (Gives (.int .i64 r) w) := by
  have HB := Lib.hid (Below.refl w.heap.size w)
  unfold P at H
  go_enter Tryz.func29, Tryz.ntmps29
  replace H := let_hid H
  obtain ⟨t_3, ht_3, H⟩ := H
  cases t_3 with
  | false =>
    replace H := ite_f H
    obtain rfl := ret_hid H
    go_wp2_with fail
    go_ret
    exact ⟨rfl, HB.out⟩
  | true =>
    replace H := ite_t H
    obtain rfl := ret_hid H
    go_wp2_with fail
    go_ret
    exact ⟨rfl, HB.out⟩

set_option maxRecDepth 100000 in
set_option maxHeartbeats 2000000 in
theorem C0 (a : Int) (b : Int)   (w : World)   {r : Int} (H : Hid (P a b = some r)) :
    Calls Tryz.prog 29 #[.int .i64 a, .int .i64 b] w (fun e w'' => e = .returned (.int .i64 r) ∧ w'' = w) := by
  have HB := Lib.hid (Below.refl w.heap.size w)
  unfold P at H
  go_enter Tryz.func29, Tryz.ntmps29
  replace H := let_hid H
  obtain ⟨t_3, ht_3, H⟩ := H
  cases t_3 with
  | false =>
    replace H := ite_f H
    obtain rfl := ret_hid H
    go_wp2_with fail
    go_ret
    exact ⟨rfl, rfl⟩
  | true =>
    replace H := ite_t H
    obtain rfl := ret_hid H
    go_wp2_with fail
    go_ret
    exact ⟨rfl, rfl⟩
end Go.Proofs.YtgimcnpkngpmiaaGreatDoor.GsL1Most

/- (*loop.example/g01062/spec.l1Cur).day11 as a plain function, and the contract of the program's: where the plain one has an answer, the program has it. Conditions: slices read as lists. -/
namespace Go.Proofs.YtgimcnpkngpmiaaGreatDoor.GsL1CurDay11
set_option linter.unusedVariables false
set_option linter.unusedSimpArgs false
open Go.RowKit
open Go.Proofs.YtgimcnpkngpmiaaGreatDoor.Rowed Go.Proofs.YtgimcnpkngpmiaaGreatDoor.Turn Go.Proofs.YtgimcnpkngpmiaaGreatDoor.Aid Go.Proofs.YtgimcnpkngpmiaaGreatDoor.GoP Go.Proofs.YtgimcnpkngpmiaaGreatDoor.GoM

def P (c : Go.Proofs.YtgimcnpkngpmiaaGreatDoor.GoC.Tape) (list : (List Go.Proofs.YtgimcnpkngpmiaaGreatDoor.PPostmark.Postmark)) : Option (Int × Go.Proofs.YtgimcnpkngpmiaaGreatDoor.GoC.Tape) :=
  letK ((list.length : Int) == 0) fun (t_3 : Bool) =>
  joinK (fun (st_7 : Bool × Go.Proofs.YtgimcnpkngpmiaaGreatDoor.GoC.Tape) => unp2 st_7 fun t_7 t_7_tp =>
  iteK t_7
  (letK ([0, 150, 4000, (-1), 4001]) fun (t_9 : (List Int)) =>
  bind2 (Go.Proofs.YtgimcnpkngpmiaaGreatDoor.GsL1CurPick.P t_7_tp 24) fun (t_11 : Int) (t_11_tp : Go.Proofs.YtgimcnpkngpmiaaGreatDoor.GoC.Tape) =>
  letK (IntKind.i64.wrap (Int.tdiv t_11 12)) fun (t_12 : Int) =>
  letK (IntKind.i64.wrap (4 + t_12)) fun (t_13 : Int) =>
  guardK ((0 : Int) ≤ t_13 ∧ (t_13 : Int) ≤ (t_9.length : Int)) <|
  letK (List.take (Int.toNat t_13) t_9) fun (t_14 : (List Int)) =>
  bind2 (Go.Proofs.YtgimcnpkngpmiaaGreatDoor.GsL1CurAmong.P t_11_tp t_14) fun (t_15 : Int) (t_15_tp : Go.Proofs.YtgimcnpkngpmiaaGreatDoor.GoC.Tape) =>
  some (t_15, t_15_tp))
  (bind2 (Go.Proofs.YtgimcnpkngpmiaaGreatDoor.GsL1CurPick.P t_7_tp (list.length : Int)) fun (t_21 : Int) (t_21_tp : Go.Proofs.YtgimcnpkngpmiaaGreatDoor.GoC.Tape) =>
  Option.bind (idx list t_21) fun (yt_22 : Go.Proofs.YtgimcnpkngpmiaaGreatDoor.PPostmark.Postmark) =>
  unPostmark yt_22 fun (t_22_id : Int) (t_22_town : ByteArray) (t_22_kind_ : Int) (t_22_first : Int) (t_22_last : Int) (t_22_lost : ByteArray) =>
  letK (IntKind.i64.wrap (t_22_first - 1)) fun (t_31 : Int) =>
  letK (IntKind.i64.wrap (t_22_last + 1)) fun (t_36 : Int) =>
  letK (IntKind.i64.wrap (t_22_first + 5)) fun (t_39 : Int) =>
  letK ([t_22_first, t_31, t_22_last, t_36, t_39]) fun (t_40 : (List Int)) =>
  bind2 (Go.Proofs.YtgimcnpkngpmiaaGreatDoor.GsL1CurAmong.P t_21_tp t_40) fun (t_41 : Int) (t_41_tp : Go.Proofs.YtgimcnpkngpmiaaGreatDoor.GoC.Tape) =>
  Option.bind (Go.Proofs.YtgimcnpkngpmiaaGreatDoor.GsL1Most.P 0 t_41) fun (t_42 : Int) =>
  Option.bind (Go.Proofs.YtgimcnpkngpmiaaGreatDoor.GsL1Least.P 4000 t_42) fun (t_43 : Int) =>
  some (t_43, t_41_tp))) fun jt_7 => iteK t_3 (appK jt_7 (true, c)) (bind2 (Go.Proofs.YtgimcnpkngpmiaaGreatDoor.GsL1CurOne.P c 5) fun (t_6 : Bool) (t_6_tp : Go.Proofs.YtgimcnpkngpmiaaGreatDoor.GoC.Tape) =>
  appK jt_7 (t_6, t_6_tp))

set_option maxRecDepth 100000 in
set_option maxHeartbeats 2000000 in
theorem C (c : Go.Proofs.YtgimcnpkngpmiaaGreatDoor.GoC.Tape) (list : (List Go.Proofs.YtgimcnpkngpmiaaGreatDoor.PPostmark.Postmark)) (A1 : Option Addr) (c1 : Nat)  (g0 : Nat) (Ac0 : Option Addr) (cc0 : Nat) (bc0 : Nat) (w : World) (M1 : Hid (Cells w 6 A1 list.length (Go.Proofs.YtgimcnpkngpmiaaGreatDoor.PPostmark.flat list))) (N1 : Hid (list.length ≤ 9223372036854775807))  (K0 : Hid (Go.Proofs.YtgimcnpkngpmiaaGreatDoor.GoC.CurIs w bc0 g0 Ac0 cc0 c)) (X1 : Hid (0 < list.length → Apart A1 (some ⟨g0, 0, none⟩))) {r : Int} {t_ : Go.Proofs.YtgimcnpkngpmiaaGreatDoor.GoC.Tape} (H : Hid (P c list = some (r, t_))) :
    Calls Tryz.prog 22 #[.pointer (some ⟨g0, 0, none⟩), .slice A1 list.length c1] w (fun e w' => e = .returned (.int .i64 r) ∧ Go.Proofs.YtgimcnpkngpmiaaGreatDoor.GoC.CurIs w' bc0 g0 Ac0 cc0 t_ ∧ w.grownBy w' (Value.slice (some ⟨g0, 0, none⟩) 1 1).ownBlock) := by
  have HB := Lib.hid (Aid.grown_refl w (Value.slice (some ⟨g0, 0, none⟩) 1 1).ownBlock)
  unfold P at H
  have N1o := N1.out
  have L0 : bc0 ≤ w.heap.size := by have := Go.Proofs.YtgimcnpkngpmiaaGreatDoor.GoC.cur_lt K0.out; omega
  obtain ⟨i0_3, hi_3, hz0_3, hz1_3, hz2_3⟩ := Aid.info_parts (P := Tryz.prog) (T := 3) (z := .int .i64 0) (s := 1) (b := 8) (by kernel_rfl)
  go_enter Tryz.func22, Tryz.ntmps22
  replace H := let_hid H
  obtain ⟨t_3, ht_3, H⟩ := H
  replace H := join_hid H
  cases t_3 with
  | false =>
    have nht_3 : ¬ (list.length = 0) := by have := ne_of_beq_false ht_3; omega
    replace H := ite_f H
    replace H := bind2_hid H
    obtain ⟨t_6, t_6_tp, qt_6, H⟩ := H
    go_wp2_with fail
    go_at_call 54
    refine (Go.Proofs.YtgimcnpkngpmiaaGreatDoor.GsL1CurOne.C (c) (5) (g0) (Ac0) (cc0) (bc0) _   K0 qt_6).mono ?_
    rintro e_t_6 wt_6 ⟨rfl, kt_6, gt_6⟩
    have Kt_6 := Lib.hid kt_6
    have Gt_6 : Hid (w.grownBy wt_6 (Value.slice (some ⟨g0, 0, none⟩) 1 1).ownBlock) := Lib.hid gt_6
    clear kt_6 gt_6
    have HBwt_6 := Lib.hid (Aid.grown_tr HB.out Gt_6.out)
    clear K0 Gt_6
    replace H := app_hid H
    replace H := unp2_hid H
    cases t_6 with
    | false =>
      replace H := ite_f H
      replace H := bind2_hid H
      obtain ⟨t_21, t_21_tp, qt_21, H⟩ := H
      go_wp2_with fail
      go_at_call 52
      refine (Go.Proofs.YtgimcnpkngpmiaaGreatDoor.GsL1CurPick.C (t_6_tp) ((list.length : Int)) (g0) (Ac0) (cc0) (bc0) _   Kt_6 qt_21).mono ?_
      rintro e_t_21 wt_21 ⟨rfl, kt_21, gt_21⟩
      have Kt_21 := Lib.hid kt_21
      have Gt_21 : Hid (wt_6.grownBy wt_21 (Value.slice (some ⟨g0, 0, none⟩) 1 1).ownBlock) := Lib.hid gt_21
      clear kt_21 gt_21
      have HBwt_21 := Lib.hid (Aid.grown_tr HBwt_6.out Gt_21.out)
      clear Kt_6 Gt_21
      replace H := idx_hid H
      obtain ⟨nt_22, yt_22, et_22, lt_22, gt_22, H⟩ := H
      subst et_22
      obtain ⟨t_22_id, t_22_town, t_22_kind_, t_22_first, t_22_last, t_22_lost⟩ := yt_22
      replace H := unPostmark_hid H
      obtain ⟨ab_t_22, ao_t_22, zt_22, At_22, z_t_22, ct_22_0, ct_22_1, ct_22_2, ct_22_3, ct_22_4, ct_22_5⟩ := Go.Proofs.YtgimcnpkngpmiaaGreatDoor.OPostmark.at_ M1.out lt_22
      obtain rfl := Option.some.inj (gt_22.out.symm.trans z_t_22)
      subst At_22
      have ltt_22 := cell_lt ct_22_0
      replace ct_22_0 := cell_other ct_22_0 HBwt_21.out (Go.Proofs.YtgimcnpkngpmiaaGreatDoor.GoC.apart_x X1.out (by omega))
      replace ct_22_1 := cell_other ct_22_1 HBwt_21.out (Go.Proofs.YtgimcnpkngpmiaaGreatDoor.GoC.apart_x X1.out (by omega))
      replace ct_22_2 := cell_other ct_22_2 HBwt_21.out (Go.Proofs.YtgimcnpkngpmiaaGreatDoor.GoC.apart_x X1.out (by omega))
      replace ct_22_3 := cell_other ct_22_3 HBwt_21.out (Go.Proofs.YtgimcnpkngpmiaaGreatDoor.GoC.apart_x X1.out (by omega))
      replace ct_22_4 := cell_other ct_22_4 HBwt_21.out (Go.Proofs.YtgimcnpkngpmiaaGreatDoor.GoC.apart_x X1.out (by omega))
      replace ct_22_5 := cell_other ct_22_5 HBwt_21.out (Go.Proofs.YtgimcnpkngpmiaaGreatDoor.GoC.apart_x X1.out (by omega))
      clear z_t_22
      have b0t_22 : (0 : Int) ≤ (nt_22 : Int) := by omega
      have b1t_22 : (nt_22 : Int) < ((list.length : Nat) : Int) := by omega
      have b2t_22 : ((nt_22 : Int)).toNat = nt_22 := by omega
      obtain ⟨w_p_24, hw_p_24⟩ : ∃ x, wt_21.alloc (.cells #[.int .i64 t_22_id, .string t_22_town, .int .i64 t_22_kind_, .int .i64 t_22_first, .int .i64 t_22_last, .string t_22_lost] 34) = x := ⟨_, rfl⟩
      have bw_p_24 : Below wt_21.heap.size wt_21 w_p_24 := by rw [← hw_p_24]; exact (Below.refl _ _).alloc (Nat.le_refl _) _
      have Dp_24_c0 := Lib.hid (Go.Proofs.YtgimcnpkngpmiaaGreatDoor.GoC.apart_cur Kt_21.out)
      have HBw_p_24 := Lib.hid (grown_below HBwt_21.out bw_p_24)
      have ct_22_0__301 := cell_below bw_p_24 ct_22_0
      have ct_22_1__302 := cell_below bw_p_24 ct_22_1
      have ct_22_2__303 := cell_below bw_p_24 ct_22_2
      have ct_22_3__304 := cell_below bw_p_24 ct_22_3
      have ct_22_4__305 := cell_below bw_p_24 ct_22_4
      have ct_22_5__306 := cell_below bw_p_24 ct_22_5
      replace Kt_21 := Lib.hid (Go.Proofs.YtgimcnpkngpmiaaGreatDoor.GoC.cur_below Kt_21.out bw_p_24)
      clear bw_p_24
      have kp_24_0 : w_p_24.cell? ⟨wt_21.heap.size, 0, none⟩ = some (.int .i64 t_22_id) := by rw [← hw_p_24]; exact box_new _ _ _ 0 _ rfl
      have kp_24_1 : w_p_24.cell? ⟨wt_21.heap.size, 1, none⟩ = some (.string t_22_town) := by rw [← hw_p_24]; exact box_new _ _ _ 1 _ rfl
      have kp_24_2 : w_p_24.cell? ⟨wt_21.heap.size, 2, none⟩ = some (.int .i64 t_22_kind_) := by rw [← hw_p_24]; exact box_new _ _ _ 2 _ rfl
      have kp_24_3 : w_p_24.cell? ⟨wt_21.heap.size, 3, none⟩ = some (.int .i64 t_22_first) := by rw [← hw_p_24]; exact box_new _ _ _ 3 _ rfl
      have kp_24_4 : w_p_24.cell? ⟨wt_21.heap.size, 4, none⟩ = some (.int .i64 t_22_last) := by rw [← hw_p_24]; exact box_new _ _ _ 4 _ rfl
      have kp_24_5 : w_p_24.cell? ⟨wt_21.heap.size, 5, none⟩ = some (.string t_22_lost) := by rw [← hw_p_24]; exact box_new _ _ _ 5 _ rfl
      replace H := let_hid H
      obtain ⟨t_31, ht_31, H⟩ := H
      replace H := let_hid H
      obtain ⟨t_36, ht_36, H⟩ := H
      replace H := let_hid H
      obtain ⟨t_39, ht_39, H⟩ := H
      replace H := let_hid H
      obtain ⟨t_40, ht_40, H⟩ := H
      obtain ⟨w_t_40, hw_t_40⟩ : ∃ x, w_p_24.alloc (.cells #[.int .i64 t_22_first, .int .i64 t_31, .int .i64 t_22_last, .int .i64 t_36, .int .i64 t_39] 3) = x := ⟨_, rfl⟩
      have bw_t_40 : Below w_p_24.heap.size w_p_24 w_t_40 := by rw [← hw_t_40]; exact (Below.refl _ _).alloc (Nat.le_refl _) _
      have hs_t_40 := HBw_p_24.out.size
      have nt_40 : t_40.length = 5 := by rw [← ht_40]; rfl
      have Ot_40 : Hid (w_t_40.ownsRow w.heap.size 3 1 (.slice (some ⟨w_p_24.heap.size, 0, none⟩) 5 5) 5 (Go.Proofs.YtgimcnpkngpmiaaGreatDoor.HelpInt.iv t_40)) := by
        rw [← hw_t_40, ← ht_40]
        have e_ : ([.int .i64 t_22_first, .int .i64 t_31, .int .i64 t_22_last, .int .i64 t_36, .int .i64 t_39] : List Value) = (Go.Proofs.YtgimcnpkngpmiaaGreatDoor.HelpInt.iv ([t_22_first, t_31, t_22_last, t_36, t_39] : List Int)) := rfl
        exact Lib.hid (own_laid (n := 5) hs_t_40 e_ rfl (by unfold maxLen; omega))
      clear hs_t_40
      have hht_40 := Lib.hid ht_40
      clear ht_40
      replace nt_40 := Lib.hid nt_40
      have Dt_40_c0 := Lib.hid (Go.Proofs.YtgimcnpkngpmiaaGreatDoor.GoC.apart_cur Kt_21.out)
      have Dt_40_p_24 := Lib.hid (apart_box kp_24_0)
      have HBw_t_40 := Lib.hid (grown_below HBw_p_24.out bw_t_40)
      have ct_22_0__307 := cell_below bw_t_40 ct_22_0__301
      have ct_22_1__308 := cell_below bw_t_40 ct_22_1__302
      have ct_22_2__309 := cell_below bw_t_40 ct_22_2__303
      have ct_22_3__310 := cell_below bw_t_40 ct_22_3__304
      have ct_22_4__311 := cell_below bw_t_40 ct_22_4__305
      have ct_22_5__312 := cell_below bw_t_40 ct_22_5__306
      have kp_24_0__313 := cell_below bw_t_40 kp_24_0
      have kp_24_1__314 := cell_below bw_t_40 kp_24_1
      have kp_24_2__315 := cell_below bw_t_40 kp_24_2
      have kp_24_3__316 := cell_below bw_t_40 kp_24_3
      have kp_24_4__317 := cell_below bw_t_40 kp_24_4
      have kp_24_5__318 := cell_below bw_t_40 kp_24_5
      replace Kt_21 := Lib.hid (Go.Proofs.YtgimcnpkngpmiaaGreatDoor.GoC.cur_below Kt_21.out bw_t_40)
      clear bw_t_40
      replace H := bind2_hid H
      obtain ⟨t_41, t_41_tp, qt_41, H⟩ := H
      go_wp2_with fail
      clear ct_22_0 ct_22_1 ct_22_2 ct_22_3 ct_22_4 ct_22_5 ct_22_0__301 ct_22_1__302 ct_22_2__303 ct_22_3__304 ct_22_4__305 ct_22_5__306 kp_24_0 kp_24_1 kp_24_2 kp_24_3 kp_24_4 kp_24_5
      have hc_ := nt_40.out
      have hv_ : (Value.slice (some ⟨w_p_24.heap.size, 0, none⟩) 5 5 : Value) = Value.slice (some ⟨w_p_24.heap.size, 0, none⟩) t_40.length 5 := by rw [hc_]
      try rw [hv_]
      replace Ot_40 := Lib.hid (own_len hc_ Ot_40.out)
      clear hc_ hv_
      go_wp2_with fail
      go_at_call 55
      refine (Go.Proofs.YtgimcnpkngpmiaaGreatDoor.GsL1CurAmong.C (t_21_tp) (t_40) (some ⟨w_p_24.heap.size, 0, none⟩) 5 (g0) (Ac0) (cc0) (bc0) _   (Lib.hid (own_cells Ot_40.out)) (Lib.hid (own_max Ot_40.out)) Kt_21 (Lib.hid (fun _ => Dt_40_c0.out)) qt_41).mono ?_
      rintro e_t_41 wt_41 ⟨rfl, kt_41, gt_41⟩
      have Kt_41 := Lib.hid kt_41
      have Gt_41 : Hid (w_t_40.grownBy wt_41 (Value.slice (some ⟨g0, 0, none⟩) 1 1).ownBlock) := Lib.hid gt_41
      clear kt_41 gt_41
      have HBwt_41 := Lib.hid (Aid.grown_tr HBw_t_40.out Gt_41.out)
      replace ct_22_0__307 := cell_other ct_22_0__307 Gt_41.out (Go.Proofs.YtgimcnpkngpmiaaGreatDoor.GoC.apart_x X1.out (by have := lt_22; omega))
      replace ct_22_1__308 := cell_other ct_22_1__308 Gt_41.out (Go.Proofs.YtgimcnpkngpmiaaGreatDoor.GoC.apart_x X1.out (by have := lt_22; omega))
      replace ct_22_2__309 := cell_other ct_22_2__309 Gt_41.out (Go.Proofs.YtgimcnpkngpmiaaGreatDoor.GoC.apart_x X1.out (by have := lt_22; omega))
      replace ct_22_3__310 := cell_other ct_22_3__310 Gt_41.out (Go.Proofs.YtgimcnpkngpmiaaGreatDoor.GoC.apart_x X1.out (by have := lt_22; omega))
      replace ct_22_4__311 := cell_other ct_22_4__311 Gt_41.out (Go.Proofs.YtgimcnpkngpmiaaGreatDoor.GoC.apart_x X1.out (by have := lt_22; omega))
      replace ct_22_5__312 := cell_other ct_22_5__312 Gt_41.out (Go.Proofs.YtgimcnpkngpmiaaGreatDoor.GoC.apart_x X1.out (by have := lt_22; omega))
      replace kp_24_0__313 := cell_other kp_24_0__313 Gt_41.out (Apart.symm Dp_24_c0.out)
      replace kp_24_1__314 := cell_other kp_24_1__314 Gt_41.out (Apart.symm Dp_24_c0.out)
      replace kp_24_2__315 := cell_other kp_24_2__315 Gt_41.out (Apart.symm Dp_24_c0.out)
      replace kp_24_3__316 := cell_other kp_24_3__316 Gt_41.out (Apart.symm Dp_24_c0.out)
      replace kp_24_4__317 := cell_other kp_24_4__317 Gt_41.out (Apart.symm Dp_24_c0.out)
      replace kp_24_5__318 := cell_other kp_24_5__318 Gt_41.out (Apart.symm Dp_24_c0.out)
      replace Ot_40 := Lib.hid (own_other Ot_40.out Gt_41.out (Apart.symm Dt_40_c0.out))
      clear Kt_21 Gt_41
      replace H := bind_hid H
      obtain ⟨t_42, qt_42, H⟩ := H
      go_wp2_with fail
      go_at_call 29
      refine (Go.Proofs.YtgimcnpkngpmiaaGreatDoor.GsL1Most.C (0) (t_41)  _    qt_42).mono ?_
      rintro e_t_42 wt_42 ⟨rfl, bt_42⟩
      have HBwt_42 := Lib.hid (grown_below HBwt_41.out bt_42)
      replace ct_22_0__307 := cell_below bt_42 ct_22_0__307
      replace ct_22_1__308 := cell_below bt_42 ct_22_1__308
      replace ct_22_2__309 := cell_below bt_42 ct_22_2__309
      replace ct_22_3__310 := cell_below bt_42 ct_22_3__310
      replace ct_22_4__311 := cell_below bt_42 ct_22_4__311
      replace ct_22_5__312 := cell_below bt_42 ct_22_5__312
      replace kp_24_0__313 := cell_below bt_42 kp_24_0__313
      replace kp_24_1__314 := cell_below bt_42 kp_24_1__314
      replace kp_24_2__315 := cell_below bt_42 kp_24_2__315
      replace kp_24_3__316 := cell_below bt_42 kp_24_3__316
      replace kp_24_4__317 := cell_below bt_42 kp_24_4__317
      replace kp_24_5__318 := cell_below bt_42 kp_24_5__318
      replace Ot_40 := Lib.hid (own_below Ot_40.out bt_42)
      replace Kt_41 := Lib.hid (Go.Proofs.YtgimcnpkngpmiaaGreatDoor.GoC.cur_below Kt_41.out bt_42)
      clear bt_42
      replace H := bind_hid H
      obtain ⟨t_43, qt_43, H⟩ := H
      go_wp2_with fail
      go_at_call 30
      refine (Go.Proofs.YtgimcnpkngpmiaaGreatDoor.GsL1Least.C (4000) (t_42)  _    qt_43).mono ?_
      rintro e_t_43 wt_43 ⟨rfl, bt_43⟩
      have HBwt_43 := Lib.hid (grown_below HBwt_42.out bt_43)
      replace ct_22_0__307 := cell_below bt_43 ct_22_0__307
      replace ct_22_1__308 := cell_below bt_43 ct_22_1__308
      replace ct_22_2__309 := cell_below bt_43 ct_22_2__309
      replace ct_22_3__310 := cell_below bt_43 ct_22_3__310
      replace ct_22_4__311 := cell_below bt_43 ct_22_4__311
      replace ct_22_5__312 := cell_below bt_43 ct_22_5__312
      replace kp_24_0__313 := cell_below bt_43 kp_24_0__313
      replace kp_24_1__314 := cell_below bt_43 kp_24_1__314
      replace kp_24_2__315 := cell_below bt_43 kp_24_2__315
      replace kp_24_3__316 := cell_below bt_43 kp_24_3__316
      replace kp_24_4__317 := cell_below bt_43 kp_24_4__317
      replace kp_24_5__318 := cell_below bt_43 kp_24_5__318
      replace Ot_40 := Lib.hid (own_below Ot_40.out bt_43)
      replace Kt_41 := Lib.hid (Go.Proofs.YtgimcnpkngpmiaaGreatDoor.GoC.cur_below Kt_41.out bt_43)
      clear bt_43
      cases ret_hid H
      go_wp2_with fail
      go_ret
      exact ⟨rfl, Kt_41.out, HBwt_43.out⟩
    | true =>
      replace H := ite_t H
      replace H := let_hid H
      obtain ⟨t_9, ht_9, H⟩ := H
      obtain ⟨w_t_9, hw_t_9⟩ : ∃ x, wt_6.alloc (.cells #[.int .i64 0, .int .i64 150, .int .i64 4000, .int .i64 (-1), .int .i64 4001] 3) = x := ⟨_, rfl⟩
      have bw_t_9 : Below wt_6.heap.size wt_6 w_t_9 := by rw [← hw_t_9]; exact (Below.refl _ _).alloc (Nat.le_refl _) _
      have hs_t_9 := HBwt_6.out.size
      have nt_9 : t_9.length = 5 := by rw [← ht_9]; rfl
      have Ot_9 : Hid (w_t_9.ownsRow w.heap.size 3 1 (.slice (some ⟨wt_6.heap.size, 0, none⟩) 5 5) 5 (Go.Proofs.YtgimcnpkngpmiaaGreatDoor.HelpInt.iv t_9)) := by
        rw [← hw_t_9, ← ht_9]
        have e_ : ([.int .i64 0, .int .i64 150, .int .i64 4000, .int .i64 (-1), .int .i64 4001] : List Value) = (Go.Proofs.YtgimcnpkngpmiaaGreatDoor.HelpInt.iv ([0, 150, 4000, (-1), 4001] : List Int)) := rfl
        exact Lib.hid (own_laid (n := 5) hs_t_9 e_ rfl (by unfold maxLen; omega))
      clear hs_t_9
      have hht_9 := Lib.hid ht_9
      clear ht_9
      replace nt_9 := Lib.hid nt_9
      have Dt_9_c0 := Lib.hid (Go.Proofs.YtgimcnpkngpmiaaGreatDoor.GoC.apart_cur Kt_6.out)
      have HBw_t_9 := Lib.hid (grown_below HBwt_6.out bw_t_9)
      replace Kt_6 := Lib.hid (Go.Proofs.YtgimcnpkngpmiaaGreatDoor.GoC.cur_below Kt_6.out bw_t_9)
      clear bw_t_9
      replace H := bind2_hid H
      obtain ⟨t_11, t_11_tp, qt_11, H⟩ := H
      go_wp2_with fail
      go_at_call 52
      refine (Go.Proofs.YtgimcnpkngpmiaaGreatDoor.GsL1CurPick.C (t_6_tp) (24) (g0) (Ac0) (cc0) (bc0) _   Kt_6 qt_11).mono ?_
      rintro e_t_11 wt_11 ⟨rfl, kt_11, gt_11⟩
      have Kt_11 := Lib.hid kt_11
      have Gt_11 : Hid (w_t_9.grownBy wt_11 (Value.slice (some ⟨g0, 0, none⟩) 1 1).ownBlock) := Lib.hid gt_11
      clear kt_11 gt_11
      have HBwt_11 := Lib.hid (Aid.grown_tr HBw_t_9.out Gt_11.out)
      replace Ot_9 := Lib.hid (own_other Ot_9.out Gt_11.out (Apart.symm Dt_9_c0.out))
      clear Kt_6 Gt_11
      replace H := let_hid H
      obtain ⟨t_12, ht_12, H⟩ := H
      replace H := let_hid H
      obtain ⟨t_13, ht_13, H⟩ := H
      replace H := guard_hid H
      obtain ⟨hl_t_14, H⟩ := H
      replace H := let_hid H
      obtain ⟨t_14, ht_14, H⟩ := H
      have dt_14 : ((Go.Proofs.YtgimcnpkngpmiaaGreatDoor.HelpInt.iv t_9)).take (Int.toNat t_13 * 1) = (Go.Proofs.YtgimcnpkngpmiaaGreatDoor.HelpInt.iv t_14) := by
        rw [← ht_14]
        simp [Go.Proofs.YtgimcnpkngpmiaaGreatDoor.HelpInt.iv, List.map_take]
      have nt_14 : Int.toNat t_13 = t_14.length := by rw [← ht_14, List.length_take]; have h_ := nt_9.out; omega
      replace hl_t_14 : (0 : Int) ≤ t_13 ∧ (t_13 : Int) ≤ ((5 : Nat) : Int) := by have h_ := nt_9.out; omega
      obtain ⟨rt_14, Ot_14⟩ := slice_head (P := Tryz.prog) (t := 71) (e := 3) (k := .i64) (by kernel_rfl) (by kernel_rfl) hi_3 hz1_3 Ot_9.out hl_t_14 nt_14 dt_14
      replace Ot_14 := Lib.hid Ot_14
      clear dt_14 nt_14 hl_t_14
      have hht_14 := Lib.hid ht_14
      clear ht_14
      replace H := bind2_hid H
      obtain ⟨t_15, t_15_tp, qt_15, H⟩ := H
      go_wp2_with fail
      go_at_call 55
      refine (Go.Proofs.YtgimcnpkngpmiaaGreatDoor.GsL1CurAmong.C (t_11_tp) (t_14) (some ⟨wt_6.heap.size, 0, none⟩) 5 (g0) (Ac0) (cc0) (bc0) _   (Lib.hid (own_cells Ot_14.out)) (Lib.hid (own_max Ot_14.out)) Kt_11 (Lib.hid (fun _ => Dt_9_c0.out)) qt_15).mono ?_
      rintro e_t_15 wt_15 ⟨rfl, kt_15, gt_15⟩
      have Kt_15 := Lib.hid kt_15
      have Gt_15 : Hid (wt_11.grownBy wt_15 (Value.slice (some ⟨g0, 0, none⟩) 1 1).ownBlock) := Lib.hid gt_15
      clear kt_15 gt_15
      have HBwt_15 := Lib.hid (Aid.grown_tr HBwt_11.out Gt_15.out)
      replace Ot_14 := Lib.hid (own_other Ot_14.out Gt_15.out (Apart.symm Dt_9_c0.out))
      clear Kt_11 Gt_15
      cases ret_hid H
      go_wp2_with fail
      go_ret
      exact ⟨rfl, Kt_15.out, HBwt_15.out⟩
  | true =>
    have Hht_3 : Hid (list.length = 0) := Lib.hid (by have := eq_of_beq ht_3; omega)
    have nht_3 : (list.length == 0) = true := beq_iff_eq.2 Hht_3.out
    replace H := ite_t H
    replace H := app_hid H
    replace H := unp2_hid H
    replace H := ite_t H
    replace H := let_hid H
    obtain ⟨t_9, ht_9, H⟩ := H
    obtain ⟨w_t_9, hw_t_9⟩ : ∃ x, w.alloc (.cells #[.int .i64 0, .int .i64 150, .int .i64 4000, .int .i64 (-1), .int .i64 4001] 3) = x := ⟨_, rfl⟩
    have bw_t_9 : Below w.heap.size w w_t_9 := by rw [← hw_t_9]; exact (Below.refl _ _).alloc (Nat.le_refl _) _
    have hs_t_9 := HB.out.size
    have nt_9 : t_9.length = 5 := by rw [← ht_9]; rfl
    have Ot_9 : Hid (w_t_9.ownsRow w.heap.size 3 1 (.slice (some ⟨w.heap.size, 0, none⟩) 5 5) 5 (Go.Proofs.YtgimcnpkngpmiaaGreatDoor.HelpInt.iv t_9)) := by
      rw [← hw_t_9, ← ht_9]
      have e_ : ([.int .i64 0, .int .i64 150, .int .i64 4000, .int .i64 (-1), .int .i64 4001] : List Value) = (Go.Proofs.YtgimcnpkngpmiaaGreatDoor.HelpInt.iv ([0, 150, 4000, (-1), 4001] : List Int)) := rfl
      exact Lib.hid (own_laid (n := 5) hs_t_9 e_ rfl (by unfold maxLen; omega))
    clear hs_t_9
    have hht_9 := Lib.hid ht_9
    clear ht_9
    replace nt_9 := Lib.hid nt_9
    have Dt_9_c0 := Lib.hid (Go.Proofs.YtgimcnpkngpmiaaGreatDoor.GoC.apart_cur K0.out)
    have HBw_t_9 := Lib.hid (grown_below HB.out bw_t_9)
    replace K0 := Lib.hid (Go.Proofs.YtgimcnpkngpmiaaGreatDoor.GoC.cur_below K0.out bw_t_9)
    clear bw_t_9
    replace H := bind2_hid H
    obtain ⟨t_11, t_11_tp, qt_11, H⟩ := H
    go_wp2_with fail
    go_at_call 52
    refine (Go.Proofs.YtgimcnpkngpmiaaGreatDoor.GsL1CurPick.C (c) (24) (g0) (Ac0) (cc0) (bc0) _   K0 qt_11).mono ?_
    rintro e_t_11 wt_11 ⟨rfl, kt_11, gt_11⟩
    have Kt_11 := Lib.hid kt_11
    have Gt_11 : Hid (w_t_9.grownBy wt_11 (Value.slice (some ⟨g0, 0, none⟩) 1 1).ownBlock) := Lib.hid gt_11
    clear kt_11 gt_11
    have HBwt_11 := Lib.hid (Aid.grown_tr HBw_t_9.out Gt_11.out)
    replace Ot_9 := Lib.hid (own_other Ot_9.out Gt_11.out (Apart.symm Dt_9_c0.out))
    clear K0 Gt_11
    replace H := let_hid H
    obtain ⟨t_12, ht_12, H⟩ := H
    replace H := let_hid H
    obtain ⟨t_13, ht_13, H⟩ := H
    replace H := guard_hid H
    obtain ⟨hl_t_14, H⟩ := H
    replace H := let_hid H
    obtain ⟨t_14, ht_14, H⟩ := H
    have dt_14 : ((Go.Proofs.YtgimcnpkngpmiaaGreatDoor.HelpInt.iv t_9)).take (Int.toNat t_13 * 1) = (Go.Proofs.YtgimcnpkngpmiaaGreatDoor.HelpInt.iv t_14) := by
      rw [← ht_14]
      simp [Go.Proofs.YtgimcnpkngpmiaaGreatDoor.HelpInt.iv, List.map_take]
    have nt_14 : Int.toNat t_13 = t_14.length := by rw [← ht_14, List.length_take]; have h_ := nt_9.out; omega
    replace hl_t_14 : (0 : Int) ≤ t_13 ∧ (t_13 : Int) ≤ ((5 : Nat) : Int) := by have h_ := nt_9.out; omega
    obtain ⟨rt_14, Ot_14⟩ := slice_head (P := Tryz.prog) (t := 71) (e := 3) (k := .i64) (by kernel_rfl) (by kernel_rfl) hi_3 hz1_3 Ot_9.out hl_t_14 nt_14 dt_14
    replace Ot_14 := Lib.hid Ot_14
    clear dt_14 nt_14 hl_t_14
    have hht_14 := Lib.hid ht_14
    clear ht_14
    replace H := bind2_hid H
    obtain ⟨t_15, t_15_tp, qt_15, H⟩ := H
    go_wp2_with fail
    go_at_call 55
    refine (Go.Proofs.YtgimcnpkngpmiaaGreatDoor.GsL1CurAmong.C (t_11_tp) (t_14) (some ⟨w.heap.size, 0, none⟩) 5 (g0) (Ac0) (cc0) (bc0) _   (Lib.hid (own_cells Ot_14.out)) (Lib.hid (own_max Ot_14.out)) Kt_11 (Lib.hid (fun _ => Dt_9_c0.out)) qt_15).mono ?_
    rintro e_t_15 wt_15 ⟨rfl, kt_15, gt_15⟩
    have Kt_15 := Lib.hid kt_15
    have Gt_15 : Hid (wt_11.grownBy wt_15 (Value.slice (some ⟨g0, 0, none⟩) 1 1).ownBlock) := Lib.hid gt_15
    clear kt_15 gt_15
    have HBwt_15 := Lib.hid (Aid.grown_tr HBwt_11.out Gt_15.out)
    replace Ot_14 := Lib.hid (own_other Ot_14.out Gt_15.out (Apart.symm Dt_9_c0.out))
    clear Kt_11 Gt_15
    cases ret_hid H
    go_wp2_with fail
    go_ret
    exact ⟨rfl, Kt_15.out, HBwt_15.out⟩
end Go.Proofs.YtgimcnpkngpmiaaGreatDoor.GsL1CurDay11

/- loop.example/g01062/spec.DrawExtendUse as a plain function, and the contract of the program's: where the plain one has an answer, the program has it. Conditions: slices read as lists. -/
namespace Go.Proofs.YtgimcnpkngpmiaaGreatDoor.GsDrawExtendUse
set_option linter.unusedVariables false
set_option linter.unusedSimpArgs false
open Go.RowKit
open Go.Proofs.YtgimcnpkngpmiaaGreatDoor.Rowed Go.Proofs.YtgimcnpkngpmiaaGreatDoor.Turn Go.Proofs.YtgimcnpkngpmiaaGreatDoor.Aid Go.Proofs.YtgimcnpkngpmiaaGreatDoor.GoP Go.Proofs.YtgimcnpkngpmiaaGreatDoor.GoM

def P (fuel : Nat) (tapes : List Int → Go.Proofs.YtgimcnpkngpmiaaGreatDoor.GoC.Tape) (code : (List Int)) : Option ((List Go.Proofs.YtgimcnpkngpmiaaGreatDoor.PPostmark.Postmark) × Int × Int) :=
  letK (tapes code) fun (t_5 : Go.Proofs.YtgimcnpkngpmiaaGreatDoor.GoC.Tape) =>
  bind2 (Go.Proofs.YtgimcnpkngpmiaaGreatDoor.GsL1CurPostmarks11.P fuel t_5) fun (t_8 : (List Go.Proofs.YtgimcnpkngpmiaaGreatDoor.PPostmark.Postmark)) (t_8_tp : Go.Proofs.YtgimcnpkngpmiaaGreatDoor.GoC.Tape) =>
  bind2 (Go.Proofs.YtgimcnpkngpmiaaGreatDoor.GsL1CurPostmarkId.P t_8_tp t_8) fun (t_13 : Int) (t_13_tp : Go.Proofs.YtgimcnpkngpmiaaGreatDoor.GoC.Tape) =>
  bind2 (Go.Proofs.YtgimcnpkngpmiaaGreatDoor.GsL1CurDay11.P t_13_tp t_8) fun (t_16 : Int) (t_16_tp : Go.Proofs.YtgimcnpkngpmiaaGreatDoor.GoC.Tape) =>
  some (t_8, t_13, t_16)

set_option maxRecDepth 100000 in
set_option maxHeartbeats 2000000 in
theorem C (fuel : Nat) (tapes : List Int → Go.Proofs.YtgimcnpkngpmiaaGreatDoor.GoC.Tape) (code : (List Int)) (A0 : Option Addr) (c0 : Nat)  (w : World) (HE : Hid (Go.Proofs.YtgimcnpkngpmiaaGreatDoor.GoC.Tells tapes)) (M0 : Hid (Cells w 1 A0 code.length (Go.Proofs.YtgimcnpkngpmiaaGreatDoor.GoC.u8s code))) (N0 : Hid (code.length ≤ 9223372036854775807)) (V0 : Hid (∀ z ∈ code, 0 ≤ z ∧ z ≤ 255))  {r0 : (List Go.Proofs.YtgimcnpkngpmiaaGreatDoor.PPostmark.Postmark)} {r1 : Int} {r2 : Int} (H : Hid (P fuel tapes code = some (r0, r1, r2))) :
    Calls Tryz.prog 5 #[.slice A0 code.length c0] w (fun e w' => ∃ A_r0 c_r0, e = .returned (.tuple #[.slice A_r0 r0.length c_r0, .int .i64 r1, .int .i64 r2]) ∧ w'.ownsRow w.heap.size 34 6 (.slice A_r0 r0.length c_r0) r0.length (Go.Proofs.YtgimcnpkngpmiaaGreatDoor.PPostmark.flat r0) ∧ Below w.heap.size w w') := by
  have HB := Lib.hid (Below.refl w.heap.size w)
  unfold P at H
  have N0o := N0.out
  go_enter Tryz.func5, Tryz.ntmps5
  replace H := let_hid H
  obtain ⟨t_5, ht_5, H⟩ := H
  obtain ⟨w_t_5, hw_t_5⟩ : ∃ x, w.alloc (.cells #[.slice A0 code.length c0, .int .i64 0, .int .u64 0] 49) = x := ⟨_, rfl⟩
  have bw_t_5 : Below w.heap.size w w_t_5 := by rw [← hw_t_5]; exact (Below.refl _ _).alloc (Nat.le_refl _) _
  have Kt_5 : Hid (Go.Proofs.YtgimcnpkngpmiaaGreatDoor.GoC.CurIs w_t_5 w.heap.size w.heap.size A0 c0 t_5) := Lib.hid (by rw [← hw_t_5, ← ht_5]; exact Go.Proofs.YtgimcnpkngpmiaaGreatDoor.GoC.cur_new HB.out.size (Cells.below M0.out HB.out) (fun a_ ha_ h0_ => by subst ha_; exact Go.Proofs.YtgimcnpkngpmiaaGreatDoor.GoC.cells_lt M0.out (by unfold Go.Proofs.YtgimcnpkngpmiaaGreatDoor.GoC.u8s; rw [List.length_map]; exact h0_)) (HE.out.2.2 code V0.out N0.out))
  have hht_5 := Lib.hid ht_5
  clear ht_5
  have HBw_t_5 := Lib.hid (Below.step HB.out bw_t_5)
  clear bw_t_5
  replace H := bind2_hid H
  obtain ⟨t_8, t_8_tp, qt_8, H⟩ := H
  go_wp2_with fail
  go_at_call 20
  refine (Go.Proofs.YtgimcnpkngpmiaaGreatDoor.GsL1CurPostmarks11.C fuel (t_5) (w.heap.size) (A0) (c0) (w.heap.size) _   Kt_5 qt_8).mono ?_
  rintro e_t_8 wt_8 ⟨At_8, ct_8, rfl, ot_8, kt_8, gt_8⟩
  have Dt_8_t_5 := Lib.hid (Go.Proofs.YtgimcnpkngpmiaaGreatDoor.GoC.apart_callcur ot_8 Kt_5.out)
  have Ot_8 := Lib.hid (own_lower ot_8 HBw_t_5.out.size)
  clear ot_8
  have Kt_8 := Lib.hid kt_8
  have Gt_8 : Hid (w_t_5.grownBy wt_8 (Value.slice (some ⟨w.heap.size, 0, none⟩) 1 1).ownBlock) := Lib.hid gt_8
  clear kt_8 gt_8
  have HBwt_8 := Lib.hid (Go.Proofs.YtgimcnpkngpmiaaGreatDoor.GoC.below_cur HBw_t_5.out Gt_8.out HBw_t_5.out.size (Go.Proofs.YtgimcnpkngpmiaaGreatDoor.GoC.cur_lt Kt_5.out).1)
  clear Kt_5 Gt_8
  replace H := bind2_hid H
  obtain ⟨t_13, t_13_tp, qt_13, H⟩ := H
  go_wp2_with fail
  go_at_call 21
  refine (Go.Proofs.YtgimcnpkngpmiaaGreatDoor.GsL1CurPostmarkId.C (t_8_tp) (t_8) At_8 ct_8 (w.heap.size) (A0) (c0) (w.heap.size) _   (Lib.hid (own_cells Ot_8.out)) (Lib.hid (own_max Ot_8.out)) Kt_8 (Lib.hid (fun _ => Dt_8_t_5.out)) qt_13).mono ?_
  rintro e_t_13 wt_13 ⟨rfl, kt_13, gt_13⟩
  have Kt_13 := Lib.hid kt_13
  have Gt_13 : Hid (wt_8.grownBy wt_13 (Value.slice (some ⟨w.heap.size, 0, none⟩) 1 1).ownBlock) := Lib.hid gt_13
  clear kt_13 gt_13
  have HBwt_13 := Lib.hid (Go.Proofs.YtgimcnpkngpmiaaGreatDoor.GoC.below_cur HBwt_8.out Gt_13.out HBwt_8.out.size (Go.Proofs.YtgimcnpkngpmiaaGreatDoor.GoC.cur_lt Kt_8.out).1)
  replace Ot_8 := Lib.hid (own_other Ot_8.out Gt_13.out (Apart.symm Dt_8_t_5.out))
  clear Kt_8 Gt_13
  replace H := bind2_hid H
  obtain ⟨t_16, t_16_tp, qt_16, H⟩ := H
  go_wp2_with fail
  go_at_call 22
  refine (Go.Proofs.YtgimcnpkngpmiaaGreatDoor.GsL1CurDay11.C (t_13_tp) (t_8) At_8 ct_8 (w.heap.size) (A0) (c0) (w.heap.size) _   (Lib.hid (own_cells Ot_8.out)) (Lib.hid (own_max Ot_8.out)) Kt_13 (Lib.hid (fun _ => Dt_8_t_5.out)) qt_16).mono ?_
  rintro e_t_16 wt_16 ⟨rfl, kt_16, gt_16⟩
  have Kt_16 := Lib.hid kt_16
  have Gt_16 : Hid (wt_13.grownBy wt_16 (Value.slice (some ⟨w.heap.size, 0, none⟩) 1 1).ownBlock) := Lib.hid gt_16
  clear kt_16 gt_16
  have HBwt_16 := Lib.hid (Go.Proofs.YtgimcnpkngpmiaaGreatDoor.GoC.below_cur HBwt_13.out Gt_16.out HBwt_13.out.size (Go.Proofs.YtgimcnpkngpmiaaGreatDoor.GoC.cur_lt Kt_13.out).1)
  replace Ot_8 := Lib.hid (own_other Ot_8.out Gt_16.out (Apart.symm Dt_8_t_5.out))
  clear Kt_13 Gt_16
  cases ret_hid H
  go_wp2_with fail
  go_ret3
  exact ⟨At_8, ct_8, rfl, Ot_8.out, HBwt_16.out⟩
end Go.Proofs.YtgimcnpkngpmiaaGreatDoor.GsDrawExtendUse

/- loop.example/g01062/impl.within as a plain function, and the contract of the program's: where the plain one has an answer, the program has it. Conditions: slices read as lists. -/
namespace Go.Proofs.YtgimcnpkngpmiaaGreatDoor.GiWithin
set_option linter.unusedVariables false
set_option linter.unusedSimpArgs false
open Go.RowKit
open Go.Proofs.YtgimcnpkngpmiaaGreatDoor.Rowed Go.Proofs.YtgimcnpkngpmiaaGreatDoor.Turn Go.Proofs.YtgimcnpkngpmiaaGreatDoor.Aid Go.Proofs.YtgimcnpkngpmiaaGreatDoor.GoP Go.Proofs.YtgimcnpkngpmiaaGreatDoor.GoM

def P (n_0 : Int) (low : Int) (high : Int) : Option (Bool) :=
  letK (decide (low ≤ n_0)) fun (t_3 : Bool) =>
  joinK (fun (t_8 : Bool) =>
  some t_8) fun jt_8 => iteK t_3 (letK (decide (n_0 ≤ high)) fun (t_7 : Bool) =>
  appK jt_8 t_7) (appK jt_8 false)

set_option maxRecDepth 100000 in
set_option maxHeartbeats 2000000 in
theorem C (n_0 : Int) (low : Int) (high : Int)   (w : World)   {r : Bool} (H : Hid (P n_0 low high = some r)) :
    Calls Tryz.prog 58 #[.int .i64 n_0, .int .i64 low, .int .i64 high] w (Gives (.bool r) w) := by
  have HB := Lib.hid (Below.refl w.heap.size w)
  unfold P at H
  go_enter Tryz.func58, Tryz.ntmps58
  replace H := let_hid H
  obtain ⟨t_3, ht_3, H⟩ := H
  replace H := join_hid H
  cases t_3 with
  | false =>
    replace H := ite_f H
    replace H := app_hid H
    obtain rfl := ret_hid H
    go_wp2_with fail
    go_ret
    exact ⟨rfl, HB.out⟩
  | true =>
    replace H := ite_t H
    replace H := let_hid H
    obtain ⟨t_7, ht_7, H⟩ := H
    replace H := app_hid H
    obtain rfl := ret_hid H
    go_wp2_with fail
    go_ret
    exact ⟨rfl, HB.out⟩

set_option maxRecDepth 100000 in
set_option maxHeartbeats 2000000 in
theorem C0 (n_0 : Int) (low : Int) (high : Int)   (w : World)   {r : Bool} (H : Hid (P n_0 low high = some r)) :
    Calls Tryz.prog 58 #[.int .i64 n_0, .int .i64 low, .int .i64 high] w (fun e w'' => e = .returned (.bool r) ∧ w'' = w) := by
  have HB := Lib.hid (Below.refl w.heap.size w)
  unfold P at H
  go_enter Tryz.func58, Tryz.ntmps58
  replace H := let_hid H
  obtain ⟨t_3, ht_3, H⟩ := H
  replace H := join_hid H
  cases t_3 with
  | false =>
    replace H := ite_f H
    replace H := app_hid H
    obtain rfl := ret_hid H
    go_wp2_with fail
    go_ret
    exact ⟨rfl, rfl⟩
  | true =>
    replace H := ite_t H
    replace H := let_hid H
    obtain ⟨t_7, ht_7, H⟩ := H
    replace H := app_hid H
    obtain rfl := ret_hid H
    go_wp2_with fail
    go_ret
    exact ⟨rfl, rfl⟩
end Go.Proofs.YtgimcnpkngpmiaaGreatDoor.GiWithin

/- loop.example/g01062/impl.isLetter as a plain function, and the contract of the program's: where the plain one has an answer, the program has it. Conditions: slices read as lists. -/
namespace Go.Proofs.YtgimcnpkngpmiaaGreatDoor.GiIsLetter
set_option linter.unusedVariables false
set_option linter.unusedSimpArgs false
open Go.RowKit
open Go.Proofs.YtgimcnpkngpmiaaGreatDoor.Rowed Go.Proofs.YtgimcnpkngpmiaaGreatDoor.Turn Go.Proofs.YtgimcnpkngpmiaaGreatDoor.Aid Go.Proofs.YtgimcnpkngpmiaaGreatDoor.GoP Go.Proofs.YtgimcnpkngpmiaaGreatDoor.GoM

def P (c : Int) : Option (Bool) :=
  letK (decide (97 ≤ c)) fun (t_2 : Bool) =>
  joinK (fun (t_6 : Bool) =>
  some t_6) fun jt_6 => iteK t_2 (letK (decide (c ≤ 122)) fun (t_5 : Bool) =>
  appK jt_6 t_5) (appK jt_6 false)

set_option maxRecDepth 100000 in
set_option maxHeartbeats 2000000 in
theorem C (c : Int)   (w : World)   {r : Bool} (H : Hid (P c = some r)) :
    Calls Tryz.prog 93 #[.int .u8 c] w (Gives (.bool r) w) := by
  have HB := Lib.hid (Below.refl w.heap.size w)
  unfold P at H
  go_enter Tryz.func93, Tryz.ntmps93
  replace H := let_hid H
  obtain ⟨t_2, ht_2, H⟩ := H
  replace H := join_hid H
  cases t_2 with
  | false =>
    replace H := ite_f H
    replace H := app_hid H
    obtain rfl := ret_hid H
    go_wp2_with fail
    go_ret
    exact ⟨rfl, HB.out⟩
  | true =>
    replace H := ite_t H
    replace H := let_hid H
    obtain ⟨t_5, ht_5, H⟩ := H
    replace H := app_hid H
    obtain rfl := ret_hid H
    go_wp2_with fail
    go_ret
    exact ⟨rfl, HB.out⟩

set_option maxRecDepth 100000 in
set_option maxHeartbeats 2000000 in
theorem C0 (c : Int)   (w : World)   {r : Bool} (H : Hid (P c = some r)) :
    Calls Tryz.prog 93 #[.int .u8 c] w (fun e w'' => e = .returned (.bool r) ∧ w'' = w) := by
  have HB := Lib.hid (Below.refl w.heap.size w)
  unfold P at H
  go_enter Tryz.func93, Tryz.ntmps93
  replace H := let_hid H
  obtain ⟨t_2, ht_2, H⟩ := H
  replace H := join_hid H
  cases t_2 with
  | false =>
    replace H := ite_f H
    replace H := app_hid H
    obtain rfl := ret_hid H
    go_wp2_with fail
    go_ret
    exact ⟨rfl, rfl⟩
  | true =>
    replace H := ite_t H
    replace H := let_hid H
    obtain ⟨t_5, ht_5, H⟩ := H
    replace H := app_hid H
    obtain rfl := ret_hid H
    go_wp2_with fail
    go_ret
    exact ⟨rfl, rfl⟩
end Go.Proofs.YtgimcnpkngpmiaaGreatDoor.GiIsLetter

/- loop.example/g01062/impl.isWord as a plain function, and the contract of the program's: where the plain one has an answer, the program has it. Conditions: slices read as lists. -/
namespace Go.Proofs.YtgimcnpkngpmiaaGreatDoor.GiIsWord
set_option linter.unusedVariables false
set_option linter.unusedSimpArgs false
open Go.RowKit
open Go.Proofs.YtgimcnpkngpmiaaGreatDoor.Rowed Go.Proofs.YtgimcnpkngpmiaaGreatDoor.Turn Go.Proofs.YtgimcnpkngpmiaaGreatDoor.Aid Go.Proofs.YtgimcnpkngpmiaaGreatDoor.GoP Go.Proofs.YtgimcnpkngpmiaaGreatDoor.GoM

def l0 (s_0 : ByteArray) (k0 : Nat) (s : Unit) (nx0 bk0 : Unit → Option (Bool)) : Option (Bool) :=
  
  Option.bind (idx s_0.toList (k0 : Int)) fun (yt_14 : UInt8) =>
  letK ((yt_14.toNat : Int)) fun (t_14 : Int) =>
  Option.bind (Go.Proofs.YtgimcnpkngpmiaaGreatDoor.GiIsLetter.P t_14) fun (t_15 : Bool) =>
  letK (!t_15) fun (t_16 : Bool) =>
  iteK t_16
  (some false)
  (appK nx0 ())

def e0  (s : Unit) : Option (Bool) :=
  
  some true

def P (s_0 : ByteArray) : Option (Bool) :=
  Option.bind (Go.Proofs.YtgimcnpkngpmiaaGreatDoor.GiWithin.P (s_0.size : Int) 1 10) fun (t_3 : Bool) =>
  letK (!t_3) fun (t_4 : Bool) =>
  iteK t_4
  (some false)
  (guardK (s_0.size ≤ 9223372036854775807) <|
  cntK (l0 s_0) (s_0.size) 0 () (e0 ))

set_option maxRecDepth 100000 in
set_option maxHeartbeats 2000000 in
theorem C (s_0 : ByteArray)   (w : World)   {r : Bool} (H : Hid (P s_0 = some r)) :
    Calls Tryz.prog 70 #[.string s_0] w (Gives (.bool r) w) := by
  have HB := Lib.hid (Below.refl w.heap.size w)
  unfold P at H
  go_enter Tryz.func70, Tryz.ntmps70
  replace H := bind_hid H
  obtain ⟨t_3, qt_3, H⟩ := H
  go_wp2_with fail
  go_at_call 58
  refine (Go.Proofs.YtgimcnpkngpmiaaGreatDoor.GiWithin.C ((s_0.size : Int)) (1) (10)  _    qt_3).mono ?_
  rintro e_t_3 wt_3 ⟨rfl, bt_3⟩
  have HBwt_3 := Lib.hid (Below.step HB.out bt_3)
  clear bt_3
  cases t_3 with
  | false =>
    replace H := let_hid H
    obtain ⟨t_4, ht_4, H⟩ := H
    obtain rfl : t_4 = true := ht_4.symm
    replace H := ite_t H
    obtain rfl := ret_hid H
    go_wp2_with fail
    go_ret
    exact ⟨rfl, HBwt_3.out⟩
  | true =>
    replace H := let_hid H
    obtain ⟨t_4, ht_4, H⟩ := H
    obtain rfl : t_4 = false := ht_4.symm
    replace H := ite_f H
    replace H := guard_hid H
    obtain ⟨hg0, H⟩ := H
    go_wp2_with fail
    go_loopg [10] (s_0.size) (fun m_ v10_ wr => ∃ (k0 : Nat) , k0 + m_ = s_0.size ∧ v10_ = .int .i64 (k0 : Int) ∧ Hid (cntK (l0 s_0) m_ k0 () (e0 ) = some r) ∧ Hid (Below w.heap.size w wr))
    case atStart => exact ⟨0, by omega, rfl, H, HBwt_3⟩
    case round =>
      obtain ⟨k0, hkm0, rfl, H, HBwr0⟩ := hrel
      rename World => wr0
      cases gk with
      | zero =>
        obtain rfl : k0 = s_0.size := by omega
        have hc0 : decide (((s_0.size : Nat) : Int) < ((s_0.size : Nat) : Int)) = false := by simp
        replace H := cnt_zero H
        unfold e0 at H
        obtain rfl := ret_hid H
        go_wp2_with fail
        go_ret
        exact ⟨rfl, HBwr0.out⟩
      | succ m0 =>
        have hlt0 : k0 < s_0.size := by omega
        have hc0 : decide ((k0 : Int) < ((s_0.size : Nat) : Int)) = true := by simp; omega
        replace H := cnt_succ H
        unfold l0 at H
        replace H := idx_hid H
        obtain ⟨nt_14, yt_14, et_14, lt_14, gt_14, H⟩ := H
        obtain rfl : k0 = nt_14 := by omega
        clear et_14
        have rt_14 := byte_rule lt_14 gt_14.out
        have b0t_14 : (0 : Int) ≤ (k0 : Int) := by omega
        have b1t_14 : (k0 : Int) < (s_0.size : Int) := by have := size_list s_0; omega
        have b2t_14 : ((k0 : Int)).toNat = k0 := by omega
        have b3t_14 : k0 < s_0.size := by have := size_list s_0; omega
        replace H := let_hid H
        obtain ⟨t_14, ht_14, H⟩ := H
        replace H := bind_hid H
        obtain ⟨t_15, qt_15, H⟩ := H
        go_wp2_with fail
        go_at_call 93
        refine (Go.Proofs.YtgimcnpkngpmiaaGreatDoor.GiIsLetter.C (t_14)  _    qt_15).mono ?_
        rintro e_t_15 wt_15 ⟨rfl, bt_15⟩
        have HBwt_15 := Lib.hid (Below.step HBwr0.out bt_15)
        clear bt_15
        cases t_15 with
        | false =>
          replace H := let_hid H
          obtain ⟨t_16, ht_16, H⟩ := H
          obtain rfl : t_16 = true := ht_16.symm
          replace H := ite_t H
          obtain rfl := ret_hid H
          go_wp2_with fail
          go_ret
          exact ⟨rfl, HBwt_15.out⟩
        | true =>
          replace H := let_hid H
          obtain ⟨t_16, ht_16, H⟩ := H
          obtain rfl : t_16 = false := ht_16.symm
          replace H := ite_f H
          replace H := app_hid H
          go_wp2_with fail
          go_roundg m0
          case measure => omega
          case rel => exact ⟨k0 + 1, by omega, by go_num, H, HBwt_15⟩
end Go.Proofs.YtgimcnpkngpmiaaGreatDoor.GiIsWord

/- loop.example/g01062/impl.isDay as a plain function, and the contract of the program's: where the plain one has an answer, the program has it. Conditions: slices read as lists. -/
namespace Go.Proofs.YtgimcnpkngpmiaaGreatDoor.GiIsDay
set_option linter.unusedVariables false
set_option linter.unusedSimpArgs false
open Go.RowKit
open Go.Proofs.YtgimcnpkngpmiaaGreatDoor.Rowed Go.Proofs.YtgimcnpkngpmiaaGreatDoor.Turn Go.Proofs.YtgimcnpkngpmiaaGreatDoor.Aid Go.Proofs.YtgimcnpkngpmiaaGreatDoor.GoP Go.Proofs.YtgimcnpkngpmiaaGreatDoor.GoM

def P (day : Int) : Option (Bool) :=
  Option.bind (Go.Proofs.YtgimcnpkngpmiaaGreatDoor.GiWithin.P day 0 4000) fun (t_2 : Bool) =>
  some t_2

set_option maxRecDepth 100000 in
set_option maxHeartbeats 2000000 in
theorem C (day : Int)   (w : World)   {r : Bool} (H : Hid (P day = some r)) :
    Calls Tryz.prog 24 #[.int .i64 day] w (Gives (.bool r) w) := by
  have HB := Lib.hid (Below.refl w.heap.size w)
  unfold P at H
  go_enter Tryz.func24, Tryz.ntmps24
  replace H := bind_hid H
  obtain ⟨t_2, qt_2, H⟩ := H
  go_wp2_with fail
  go_at_call 58
  refine (Go.Proofs.YtgimcnpkngpmiaaGreatDoor.GiWithin.C (day) (0) (4000)  _    qt_2).mono ?_
  rintro e_t_2 wt_2 ⟨rfl, bt_2⟩
  have HBwt_2 := Lib.hid (Below.step HB.out bt_2)
  clear bt_2
  obtain rfl := ret_hid H
  go_wp2_with fail
  go_ret
  exact ⟨rfl, HBwt_2.out⟩
end Go.Proofs.YtgimcnpkngpmiaaGreatDoor.GiIsDay

/- strings.Count at one letter as a plain function; the contract of the program's. No condition. -/
namespace Go.Proofs.YtgimcnpkngpmiaaGreatDoor.GxStringsCount
set_option linter.unusedVariables false
open Go.RowKit
open Go.Proofs.YtgimcnpkngpmiaaGreatDoor.Turn
def P (s c : ByteArray) : Option Int := match c.data.toList with
  | [x] => some (Lib.countByte s.data.toList x : Int)
  | _ => none
theorem C (s c : ByteArray) (w : World) {r : Int} (H : Hid (P s c = some r)) : Calls Tryz.prog 94 #[.string s, .string c] w (Gives (.int .i64 r) w) := by
  have h : P s c = some r := H
  unfold P at h
  split at h
  · rename_i x hx
    obtain rfl := Option.some.inj h
    have hc : c = ⟨#[x]⟩ := by
      obtain ⟨⟨l⟩⟩ := c
      simp only at hx
      subst hx; rfl
    rw [hc]
    refine (Tryz.strings_Count_one s x w).mono ?_
    rintro e w' ⟨rfl, rfl⟩
    exact ⟨rfl, Below.refl _ _⟩
  · simp at h
end Go.Proofs.YtgimcnpkngpmiaaGreatDoor.GxStringsCount

/- loop.example/g01062/impl.isLoss as a plain function, and the contract of the program's: where the plain one has an answer, the program has it. Conditions: slices read as lists. -/
namespace Go.Proofs.YtgimcnpkngpmiaaGreatDoor.GiIsLoss
set_option linter.unusedVariables false
set_option linter.unusedSimpArgs false
open Go.RowKit
open Go.Proofs.YtgimcnpkngpmiaaGreatDoor.Rowed Go.Proofs.YtgimcnpkngpmiaaGreatDoor.Turn Go.Proofs.YtgimcnpkngpmiaaGreatDoor.Aid Go.Proofs.YtgimcnpkngpmiaaGreatDoor.GoP Go.Proofs.YtgimcnpkngpmiaaGreatDoor.GoM

def P (lost : ByteArray) (town : ByteArray) : Option (Bool) :=
  Option.bind (Go.Proofs.YtgimcnpkngpmiaaGreatDoor.GxStringsCount.P lost (⟨#[46]⟩ : ByteArray)) fun (t_2 : Int) =>
  letK ((lost.size : Int) == (town.size : Int)) fun (t_8 : Bool) =>
  joinK (fun (t_12 : Bool) =>
  joinK (fun (t_21 : Bool) =>
  some t_21) fun jt_21 => iteK t_12 (Option.bind (Go.Proofs.YtgimcnpkngpmiaaGreatDoor.GxStringsCount.P lost (⟨#[120]⟩ : ByteArray)) fun (t_16 : Int) =>
  letK (IntKind.i64.wrap (t_2 + t_16)) fun (t_17 : Int) =>
  letK (t_17 == (lost.size : Int)) fun (t_20 : Bool) =>
  appK jt_21 t_20) (appK jt_21 false)) fun jt_12 => iteK t_8 (letK (decide (0 < t_2)) fun (t_11 : Bool) =>
  appK jt_12 t_11) (appK jt_12 false)

set_option maxRecDepth 100000 in
set_option maxHeartbeats 2000000 in
theorem C (lost : ByteArray) (town : ByteArray)   (w : World)   {r : Bool} (H : Hid (P lost town = some r)) :
    Calls Tryz.prog 71 #[.string lost, .string town] w (Gives (.bool r) w) := by
  have HB := Lib.hid (Below.refl w.heap.size w)
  unfold P at H
  go_enter Tryz.func71, Tryz.ntmps71
  replace H := bind_hid H
  obtain ⟨t_2, qt_2, H⟩ := H
  go_wp2_with fail
  go_at_call 94
  refine (Go.Proofs.YtgimcnpkngpmiaaGreatDoor.GxStringsCount.C (lost) ((⟨#[46]⟩ : ByteArray))  _    qt_2).mono ?_
  rintro e_t_2 wt_2 ⟨rfl, bt_2⟩
  have HBwt_2 := Lib.hid (Below.step HB.out bt_2)
  clear bt_2
  replace H := let_hid H
  obtain ⟨t_8, ht_8, H⟩ := H
  replace H := join_hid H
  cases t_8 with
  | false =>
    have nht_8 : ¬ (lost.size = town.size) := by have := ne_of_beq_false ht_8; omega
    replace H := ite_f H
    replace H := app_hid H
    replace H := join_hid H
    replace H := ite_f H
    replace H := app_hid H
    obtain rfl := ret_hid H
    go_wp2_with fail
    go_ret
    exact ⟨rfl, HBwt_2.out⟩
  | true =>
    have Hht_8 : Hid (lost.size = town.size) := Lib.hid (by have := eq_of_beq ht_8; omega)
    have nht_8 : (lost.size == town.size) = true := beq_iff_eq.2 Hht_8.out
    replace H := ite_t H
    replace H := let_hid H
    obtain ⟨t_11, ht_11, H⟩ := H
    replace H := app_hid H
    replace H := join_hid H
    cases t_11 with
    | false =>
      replace H := ite_f H
      replace H := app_hid H
      obtain rfl := ret_hid H
      go_wp2_with fail
      go_ret
      exact ⟨rfl, HBwt_2.out⟩
    | true =>
      replace H := ite_t H
      replace H := bind_hid H
      obtain ⟨t_16, qt_16, H⟩ := H
      go_wp2_with fail
      go_at_call 94
      refine (Go.Proofs.YtgimcnpkngpmiaaGreatDoor.GxStringsCount.C (lost) ((⟨#[120]⟩ : ByteArray))  _    qt_16).mono ?_
      rintro e_t_16 wt_16 ⟨rfl, bt_16⟩
      have HBwt_16 := Lib.hid (Below.step HBwt_2.out bt_16)
      clear bt_16
      replace H := let_hid H
      obtain ⟨t_17, ht_17, H⟩ := H
      replace H := let_hid H
      obtain ⟨t_20, ht_20, H⟩ := H
      replace H := app_hid H
      obtain rfl := ret_hid H
      go_wp2_with fail
      go_ret
      exact ⟨rfl, HBwt_16.out⟩
end Go.Proofs.YtgimcnpkngpmiaaGreatDoor.GiIsLoss

/- loop.example/g01062/impl.IsPostmark as a plain function, and the contract of the program's: where the plain one has an answer, the program has it. Conditions: slices read as lists. -/
namespace Go.Proofs.YtgimcnpkngpmiaaGreatDoor.GiIsPostmark
set_option linter.unusedVariables false
set_option linter.unusedSimpArgs false
open Go.RowKit
open Go.Proofs.YtgimcnpkngpmiaaGreatDoor.Rowed Go.Proofs.YtgimcnpkngpmiaaGreatDoor.Turn Go.Proofs.YtgimcnpkngpmiaaGreatDoor.Aid Go.Proofs.YtgimcnpkngpmiaaGreatDoor.GoP Go.Proofs.YtgimcnpkngpmiaaGreatDoor.GoM

def P (p : Go.Proofs.YtgimcnpkngpmiaaGreatDoor.PPostmark.Postmark) : Option (Bool) :=
  unPostmark p fun (p_id : Int) (p_town : ByteArray) (p_kind_ : Int) (p_first : Int) (p_last : Int) (p_lost : ByteArray) =>
  Option.bind (Go.Proofs.YtgimcnpkngpmiaaGreatDoor.GiWithin.P p_id 1 999) fun (t_4 : Bool) =>
  joinK (fun (t_9 : Bool) =>
  joinK (fun (t_14 : Bool) =>
  joinK (fun (t_19 : Bool) =>
  joinK (fun (t_24 : Bool) =>
  joinK (fun (t_31 : Bool) =>
  joinK (fun (t_38 : Bool) =>
  some t_38) fun jt_38 => iteK t_31 (Option.bind (Go.Proofs.YtgimcnpkngpmiaaGreatDoor.GiIsLoss.P p_lost p_town) fun (t_37 : Bool) =>
  appK jt_38 t_37) (appK jt_38 false)) fun jt_31 => iteK t_24 (letK (decide (p_first ≤ p_last)) fun (t_30 : Bool) =>
  appK jt_31 t_30) (appK jt_31 false)) fun jt_24 => iteK t_19 (Option.bind (Go.Proofs.YtgimcnpkngpmiaaGreatDoor.GiIsDay.P p_last) fun (t_23 : Bool) =>
  appK jt_24 t_23) (appK jt_24 false)) fun jt_19 => iteK t_14 (Option.bind (Go.Proofs.YtgimcnpkngpmiaaGreatDoor.GiIsDay.P p_first) fun (t_18 : Bool) =>
  appK jt_19 t_18) (appK jt_19 false)) fun jt_14 => iteK t_9 (Option.bind (Go.Proofs.YtgimcnpkngpmiaaGreatDoor.GiWithin.P p_kind_ 1 5) fun (t_13 : Bool) =>
  appK jt_14 t_13) (appK jt_14 false)) fun jt_9 => iteK t_4 (Option.bind (Go.Proofs.YtgimcnpkngpmiaaGreatDoor.GiIsWord.P p_town) fun (t_8 : Bool) =>
  appK jt_9 t_8) (appK jt_9 false)

set_option maxRecDepth 100000 in
set_option maxHeartbeats 2000000 in
theorem C (p : Go.Proofs.YtgimcnpkngpmiaaGreatDoor.PPostmark.Postmark)   (w : World)   {r : Bool} (H : Hid (P p = some r)) :
    Calls Tryz.prog 46 #[p.val] w (Gives (.bool r) w) := by
  have HB := Lib.hid (Below.refl w.heap.size w)
  unfold P at H
  obtain ⟨p_id, p_town, p_kind_, p_first, p_last, p_lost⟩ := p
  replace H := unPostmark_hid H
  unfold Go.Proofs.YtgimcnpkngpmiaaGreatDoor.PPostmark.Postmark.val
  go_enter Tryz.func46, Tryz.ntmps46
  obtain ⟨w_p_0, hw_p_0⟩ : ∃ x, w.alloc (.cells #[.int .i64 p_id, .string p_town, .int .i64 p_kind_, .int .i64 p_first, .int .i64 p_last, .string p_lost] 34) = x := ⟨_, rfl⟩
  have bw_p_0 : Below w.heap.size w w_p_0 := by rw [← hw_p_0]; exact (Below.refl _ _).alloc (Nat.le_refl _) _
  have HBw_p_0 := Lib.hid (Below.step HB.out bw_p_0)
  clear bw_p_0
  have kp_0_0 : w_p_0.cell? ⟨w.heap.size, 0, none⟩ = some (.int .i64 p_id) := by rw [← hw_p_0]; exact box_new _ _ _ 0 _ rfl
  have kp_0_1 : w_p_0.cell? ⟨w.heap.size, 1, none⟩ = some (.string p_town) := by rw [← hw_p_0]; exact box_new _ _ _ 1 _ rfl
  have kp_0_2 : w_p_0.cell? ⟨w.heap.size, 2, none⟩ = some (.int .i64 p_kind_) := by rw [← hw_p_0]; exact box_new _ _ _ 2 _ rfl
  have kp_0_3 : w_p_0.cell? ⟨w.heap.size, 3, none⟩ = some (.int .i64 p_first) := by rw [← hw_p_0]; exact box_new _ _ _ 3 _ rfl
  have kp_0_4 : w_p_0.cell? ⟨w.heap.size, 4, none⟩ = some (.int .i64 p_last) := by rw [← hw_p_0]; exact box_new _ _ _ 4 _ rfl
  have kp_0_5 : w_p_0.cell? ⟨w.heap.size, 5, none⟩ = some (.string p_lost) := by rw [← hw_p_0]; exact box_new _ _ _ 5 _ rfl
  replace H := bind_hid H
  obtain ⟨t_4, qt_4, H⟩ := H
  go_wp2_with fail
  go_at_call 58
  refine (Go.Proofs.YtgimcnpkngpmiaaGreatDoor.GiWithin.C (p_id) (1) (999)  _    qt_4).mono ?_
  rintro e_t_4 wt_4 ⟨rfl, bt_4⟩
  have HBwt_4 := Lib.hid (Below.step HBw_p_0.out bt_4)
  replace kp_0_0 := cell_below bt_4 kp_0_0
  replace kp_0_1 := cell_below bt_4 kp_0_1
  replace kp_0_2 := cell_below bt_4 kp_0_2
  replace kp_0_3 := cell_below bt_4 kp_0_3
  replace kp_0_4 := cell_below bt_4 kp_0_4
  replace kp_0_5 := cell_below bt_4 kp_0_5
  clear bt_4
  replace H := join_hid H
  cases t_4 with
  | false =>
    replace H := ite_f H
    replace H := app_hid H
    replace H := join_hid H
    replace H := ite_f H
    replace H := app_hid H
    replace H := join_hid H
    replace H := ite_f H
    replace H := app_hid H
    replace H := join_hid H
    replace H := ite_f H
    replace H := app_hid H
    replace H := join_hid H
    replace H := ite_f H
    replace H := app_hid H
    replace H := join_hid H
    replace H := ite_f H
    replace H := app_hid H
    obtain rfl := ret_hid H
    go_wp2_with fail
    go_ret
    exact ⟨rfl, HBwt_4.out⟩
  | true =>
    replace H := ite_t H
    replace H := bind_hid H
    obtain ⟨t_8, qt_8, H⟩ := H
    go_wp2_with fail
    go_at_call 70
    refine (Go.Proofs.YtgimcnpkngpmiaaGreatDoor.GiIsWord.C (p_town)  _    qt_8).mono ?_
    rintro e_t_8 wt_8 ⟨rfl, bt_8⟩
    have HBwt_8 := Lib.hid (Below.step HBwt_4.out bt_8)
    replace kp_0_0 := cell_below bt_8 kp_0_0
    replace kp_0_1 := cell_below bt_8 kp_0_1
    replace kp_0_2 := cell_below bt_8 kp_0_2
    replace kp_0_3 := cell_below bt_8 kp_0_3
    replace kp_0_4 := cell_below bt_8 kp_0_4
    replace kp_0_5 := cell_below bt_8 kp_0_5
    clear bt_8
    replace H := app_hid H
    replace H := join_hid H
    cases t_8 with
    | false =>
      replace H := ite_f H
      replace H := app_hid H
      replace H := join_hid H
      replace H := ite_f H
      replace H := app_hid H
      replace H := join_hid H
      replace H := ite_f H
      replace H := app_hid H
      replace H := join_hid H
      replace H := ite_f H
      replace H := app_hid H
      replace H := join_hid H
      replace H := ite_f H
      replace H := app_hid H
      obtain rfl := ret_hid H
      go_wp2_with fail
      go_ret
      exact ⟨rfl, HBwt_8.out⟩
    | true =>
      replace H := ite_t H
      replace H := bind_hid H
      obtain ⟨t_13, qt_13, H⟩ := H
      go_wp2_with fail
      go_at_call 58
      refine (Go.Proofs.YtgimcnpkngpmiaaGreatDoor.GiWithin.C (p_kind_) (1) (5)  _    qt_13).mono ?_
      rintro e_t_13 wt_13 ⟨rfl, bt_13⟩
      have HBwt_13 := Lib.hid (Below.step HBwt_8.out bt_13)
      replace kp_0_0 := cell_below bt_13 kp_0_0
      replace kp_0_1 := cell_below bt_13 kp_0_1
      replace kp_0_2 := cell_below bt_13 kp_0_2
      replace kp_0_3 := cell_below bt_13 kp_0_3
      replace kp_0_4 := cell_below bt_13 kp_0_4
      replace kp_0_5 := cell_below bt_13 kp_0_5
      clear bt_13
      replace H := app_hid H
      replace H := join_hid H
      cases t_13 with
      | false =>
        replace H := ite_f H
        replace H := app_hid H
        replace H := join_hid H
        replace H := ite_f H
        replace H := app_hid H
        replace H := join_hid H
        replace H := ite_f H
        replace H := app_hid H
        replace H := join_hid H
        replace H := ite_f H
        replace H := app_hid H
        obtain rfl := ret_hid H
        go_wp2_with fail
        go_ret
        exact ⟨rfl, HBwt_13.out⟩
      | true =>
        replace H := ite_t H
        replace H := bind_hid H
        obtain ⟨t_18, qt_18, H⟩ := H
        go_wp2_with fail
        go_at_call 24
        refine (Go.Proofs.YtgimcnpkngpmiaaGreatDoor.GiIsDay.C (p_first)  _    qt_18).mono ?_
        rintro e_t_18 wt_18 ⟨rfl, bt_18⟩
        have HBwt_18 := Lib.hid (Below.step HBwt_13.out bt_18)
        replace kp_0_0 := cell_below bt_18 kp_0_0
        replace kp_0_1 := cell_below bt_18 kp_0_1
        replace kp_0_2 := cell_below bt_18 kp_0_2
        replace kp_0_3 := cell_below bt_18 kp_0_3
        replace kp_0_4 := cell_below bt_18 kp_0_4
        replace kp_0_5 := cell_below bt_18 kp_0_5
        clear bt_18
        replace H := app_hid H
        replace H := join_hid H
        cases t_18 with
        | false =>
          replace H := ite_f H
          replace H := app_hid H
          replace H := join_hid H
          replace H := ite_f H
          replace H := app_hid H
          replace H := join_hid H
          replace H := ite_f H
          replace H := app_hid H
          obtain rfl := ret_hid H
          go_wp2_with fail
          go_ret
          exact ⟨rfl, HBwt_18.out⟩
        | true =>
          replace H := ite_t H
          replace H := bind_hid H
          obtain ⟨t_23, qt_23, H⟩ := H
          go_wp2_with fail
          go_at_call 24
          refine (Go.Proofs.YtgimcnpkngpmiaaGreatDoor.GiIsDay.C (p_last)  _    qt_23).mono ?_
          rintro e_t_23 wt_23 ⟨rfl, bt_23⟩
          have HBwt_23 := Lib.hid (Below.step HBwt_18.out bt_23)
          replace kp_0_0 := cell_below bt_23 kp_0_0
          replace kp_0_1 := cell_below bt_23 kp_0_1
          replace kp_0_2 := cell_below bt_23 kp_0_2
          replace kp_0_3 := cell_below bt_23 kp_0_3
          replace kp_0_4 := cell_below bt_23 kp_0_4
          replace kp_0_5 := cell_below bt_23 kp_0_5
          clear bt_23
          replace H := app_hid H
          replace H := join_hid H
          cases t_23 with
          | false =>
            replace H := ite_f H
            replace H := app_hid H
            replace H := join_hid H
            replace H := ite_f H
            replace H := app_hid H
            obtain rfl := ret_hid H
            go_wp2_with fail
            go_ret
            exact ⟨rfl, HBwt_23.out⟩
          | true =>
            replace H := ite_t H
            replace H := let_hid H
            obtain ⟨t_30, ht_30, H⟩ := H
            replace H := app_hid H
            replace H := join_hid H
            cases t_30 with
            | false =>
              replace H := ite_f H
              replace H := app_hid H
              obtain rfl := ret_hid H
              go_wp2_with fail
              go_ret
              exact ⟨rfl, HBwt_23.out⟩
            | true =>
              replace H := ite_t H
              replace H := bind_hid H
              obtain ⟨t_37, qt_37, H⟩ := H
              go_wp2_with fail
              go_at_call 71
              refine (Go.Proofs.YtgimcnpkngpmiaaGreatDoor.GiIsLoss.C (p_lost) (p_town)  _    qt_37).mono ?_
              rintro e_t_37 wt_37 ⟨rfl, bt_37⟩
              have HBwt_37 := Lib.hid (Below.step HBwt_23.out bt_37)
              replace kp_0_0 := cell_below bt_37 kp_0_0
              replace kp_0_1 := cell_below bt_37 kp_0_1
              replace kp_0_2 := cell_below bt_37 kp_0_2
              replace kp_0_3 := cell_below bt_37 kp_0_3
              replace kp_0_4 := cell_below bt_37 kp_0_4
              replace kp_0_5 := cell_below bt_37 kp_0_5
              clear bt_37
              replace H := app_hid H
              obtain rfl := ret_hid H
              go_wp2_with fail
              go_ret
              exact ⟨rfl, HBwt_37.out⟩
end Go.Proofs.YtgimcnpkngpmiaaGreatDoor.GiIsPostmark

/- loop.example/g01062/impl.idOfPostmark as a plain function, and the contract of the program's: where the plain one has an answer, the program has it. Conditions: slices read as lists. -/
namespace Go.Proofs.YtgimcnpkngpmiaaGreatDoor.GiIdOfPostmark
set_option linter.unusedVariables false
set_option linter.unusedSimpArgs false
open Go.RowKit
open Go.Proofs.YtgimcnpkngpmiaaGreatDoor.Rowed Go.Proofs.YtgimcnpkngpmiaaGreatDoor.Turn Go.Proofs.YtgimcnpkngpmiaaGreatDoor.Aid Go.Proofs.YtgimcnpkngpmiaaGreatDoor.GoP Go.Proofs.YtgimcnpkngpmiaaGreatDoor.GoM

def P (p : Go.Proofs.YtgimcnpkngpmiaaGreatDoor.PPostmark.Postmark) : Option (Int) :=
  unPostmark p fun (p_id : Int) (p_town : ByteArray) (p_kind_ : Int) (p_first : Int) (p_last : Int) (p_lost : ByteArray) =>
  some p_id

set_option maxRecDepth 100000 in
set_option maxHeartbeats 2000000 in
theorem C (p : Go.Proofs.YtgimcnpkngpmiaaGreatDoor.PPostmark.Postmark)   (w : World)   {r : Int} (H : Hid (P p = some r)) :
    Calls Tryz.prog 61 #[p.val] w (Gives (.int .i64 r) w) := by
  have HB := Lib.hid (Below.refl w.heap.size w)
  unfold P at H
  obtain ⟨p_id, p_town, p_kind_, p_first, p_last, p_lost⟩ := p
  replace H := unPostmark_hid H
  unfold Go.Proofs.YtgimcnpkngpmiaaGreatDoor.PPostmark.Postmark.val
  go_enter Tryz.func61, Tryz.ntmps61
  obtain ⟨w_p_0, hw_p_0⟩ : ∃ x, w.alloc (.cells #[.int .i64 p_id, .string p_town, .int .i64 p_kind_, .int .i64 p_first, .int .i64 p_last, .string p_lost] 34) = x := ⟨_, rfl⟩
  have bw_p_0 : Below w.heap.size w w_p_0 := by rw [← hw_p_0]; exact (Below.refl _ _).alloc (Nat.le_refl _) _
  have HBw_p_0 := Lib.hid (Below.step HB.out bw_p_0)
  clear bw_p_0
  have kp_0_0 : w_p_0.cell? ⟨w.heap.size, 0, none⟩ = some (.int .i64 p_id) := by rw [← hw_p_0]; exact box_new _ _ _ 0 _ rfl
  have kp_0_1 : w_p_0.cell? ⟨w.heap.size, 1, none⟩ = some (.string p_town) := by rw [← hw_p_0]; exact box_new _ _ _ 1 _ rfl
  have kp_0_2 : w_p_0.cell? ⟨w.heap.size, 2, none⟩ = some (.int .i64 p_kind_) := by rw [← hw_p_0]; exact box_new _ _ _ 2 _ rfl
  have kp_0_3 : w_p_0.cell? ⟨w.heap.size, 3, none⟩ = some (.int .i64 p_first) := by rw [← hw_p_0]; exact box_new _ _ _ 3 _ rfl
  have kp_0_4 : w_p_0.cell? ⟨w.heap.size, 4, none⟩ = some (.int .i64 p_last) := by rw [← hw_p_0]; exact box_new _ _ _ 4 _ rfl
  have kp_0_5 : w_p_0.cell? ⟨w.heap.size, 5, none⟩ = some (.string p_lost) := by rw [← hw_p_0]; exact box_new _ _ _ 5 _ rfl
  obtain rfl := ret_hid H
  go_wp2_with fail
  go_ret
  exact ⟨rfl, HBw_p_0.out⟩
end Go.Proofs.YtgimcnpkngpmiaaGreatDoor.GiIdOfPostmark

