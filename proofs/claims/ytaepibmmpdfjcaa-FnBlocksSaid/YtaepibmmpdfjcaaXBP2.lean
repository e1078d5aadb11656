/- Texts on which the proofs of several laws stand, one behind the other (2 of 9). No condition of their own. -/
import Derived.Test.YtaepibmmpdfjcaaChecked
import Derived.Test.YtaepibmmpdfjcaaXBP1
import Derived.WalkKit
import Derived.WalkSpells
import Derived.WalkLawsBesides
import Derived.BigQuiet
import Derived.OwnWalk
import Derived.Deep.LoopGhost
import Derived.Deep.QuietTactic
import Derived.IntWalk
import Derived.Lib.QuietBelow
/- (*loop.example/g01062/spec.l1Cur).block as a plain function, and the contract of the program's: where the plain one has an answer, the program has it. Conditions: slices read as lists. -/
namespace Go.Proofs.Ytaepibmmpdfjcaa.GsL1CurBlock
set_option linter.unusedVariables false
set_option linter.unusedSimpArgs false
open Go.RowKit
open Go.Proofs.Ytaepibmmpdfjcaa.Rowed Go.Proofs.Ytaepibmmpdfjcaa.Turn Go.Proofs.Ytaepibmmpdfjcaa.Aid Go.Proofs.Ytaepibmmpdfjcaa.GoP Go.Proofs.Ytaepibmmpdfjcaa.GoM

def l1 (t_6 : Int) (s : ByteArray × Int × Go.Proofs.Ytaepibmmpdfjcaa.GoC.Tape) (nx1 bk1 : ByteArray × Int × Go.Proofs.Ytaepibmmpdfjcaa.GoC.Tape → Option (Go.Proofs.Ytaepibmmpdfjcaa.PBlock.Block × Go.Proofs.Ytaepibmmpdfjcaa.GoC.Tape)) : Option (Go.Proofs.Ytaepibmmpdfjcaa.PBlock.Block × Go.Proofs.Ytaepibmmpdfjcaa.GoC.Tape) :=
  unp3 s fun s_7l1 k_8l1 c0_c0l1 =>
  letK (decide (k_8l1 < t_6)) fun (t_19 : Bool) =>
  iteK t_19
  (letK ([(⟨#[97]⟩ : ByteArray), (⟨#[97]⟩ : ByteArray), (⟨#[98]⟩ : ByteArray), (⟨#[99]⟩ : ByteArray), (⟨#[46]⟩ : ByteArray)]) fun (t_22 : (List ByteArray)) =>
  bind2 (Go.Proofs.Ytaepibmmpdfjcaa.GsL1CurOf.P c0_c0l1 t_22) fun (t_23 : ByteArray) (t_23_tp : Go.Proofs.Ytaepibmmpdfjcaa.GoC.Tape) =>
  guardK (s_7l1.size + t_23.size ≤ maxLen) <|
  letK (s_7l1 ++ t_23) fun (t_24 : ByteArray) =>
  letK (IntKind.i64.wrap (k_8l1 + 1)) fun (t_27 : Int) =>
  appK nx1 (t_24, t_27, t_23_tp))
  (appK bk1 (s_7l1, k_8l1, c0_c0l1))

def e1 (nx0 : ((List ByteArray) × Int × Go.Proofs.Ytaepibmmpdfjcaa.GoC.Tape) → Option (Go.Proofs.Ytaepibmmpdfjcaa.PBlock.Block × Go.Proofs.Ytaepibmmpdfjcaa.GoC.Tape)) (out_5l0 : (List ByteArray)) (i_6l0 : Int) (s : ByteArray × Int × Go.Proofs.Ytaepibmmpdfjcaa.GoC.Tape) : Option (Go.Proofs.Ytaepibmmpdfjcaa.PBlock.Block × Go.Proofs.Ytaepibmmpdfjcaa.GoC.Tape) :=
  unp3 s fun s_7l1 k_8l1 c0_c0l1 =>
  guardK (out_5l0.length ≤ 1099511627776) <|
  letK (out_5l0 ++ [s_7l1]) fun (t_32 : (List ByteArray)) =>
  letK (IntKind.i64.wrap (i_6l0 + 1)) fun (t_35 : Int) =>
  appK nx0 (t_32, t_35, c0_c0l1)

def l0 (fuel : Nat) (t_3 : Int) (t_6 : Int) (s : (List ByteArray) × Int × Go.Proofs.Ytaepibmmpdfjcaa.GoC.Tape) (nx0 bk0 : (List ByteArray) × Int × Go.Proofs.Ytaepibmmpdfjcaa.GoC.Tape → Option (Go.Proofs.Ytaepibmmpdfjcaa.PBlock.Block × Go.Proofs.Ytaepibmmpdfjcaa.GoC.Tape)) : Option (Go.Proofs.Ytaepibmmpdfjcaa.PBlock.Block × Go.Proofs.Ytaepibmmpdfjcaa.GoC.Tape) :=
  unp3 s fun out_5l0 i_6l0 c0_c0l0 =>
  letK (decide (i_6l0 < t_3)) fun (t_14 : Bool) =>
  iteK t_14
  (loopK (l1 t_6) fuel ((⟨#[]⟩ : ByteArray), 0, c0_c0l0) (e1 nx0 out_5l0 i_6l0))
  (appK bk0 (out_5l0, i_6l0, c0_c0l0))

def e0  (s : (List ByteArray) × Int × Go.Proofs.Ytaepibmmpdfjcaa.GoC.Tape) : Option (Go.Proofs.Ytaepibmmpdfjcaa.PBlock.Block × Go.Proofs.Ytaepibmmpdfjcaa.GoC.Tape) :=
  unp3 s fun out_5l0 i_6l0 c0_c0l0 =>
  bind2 (Go.Proofs.Ytaepibmmpdfjcaa.GsL1CurPick.P c0_c0l0 48) fun (t_38 : Int) (t_38_tp : Go.Proofs.Ytaepibmmpdfjcaa.GoC.Tape) =>
  letK (t_38 == 0) fun (t_39 : Bool) =>
  iteK t_39
  (letK ([(⟨#[]⟩ : ByteArray), (⟨#[97]⟩ : ByteArray), (⟨#[65]⟩ : ByteArray), (⟨#[97, 98, 99, 100]⟩ : ByteArray)]) fun (t_43 : (List ByteArray)) =>
  bind2 (Go.Proofs.Ytaepibmmpdfjcaa.GsL1CurOf.P t_38_tp t_43) fun (t_44 : ByteArray) (t_44_tp : Go.Proofs.Ytaepibmmpdfjcaa.GoC.Tape) =>
  guardK (out_5l0.length ≤ 1099511627776) <|
  letK (out_5l0 ++ [t_44]) fun (t_46 : (List ByteArray)) =>
  some ((Go.Proofs.Ytaepibmmpdfjcaa.PBlock.Block.mk t_46), t_44_tp))
  (letK (t_38 == 1) fun (t_48 : Bool) =>
  iteK t_48
  (some ((Go.Proofs.Ytaepibmmpdfjcaa.PBlock.Block.mk ([] : List ByteArray)), t_38_tp))
  (some ((Go.Proofs.Ytaepibmmpdfjcaa.PBlock.Block.mk out_5l0), t_38_tp)))

def P (fuel : Nat) (c : Go.Proofs.Ytaepibmmpdfjcaa.GoC.Tape) : Option (Go.Proofs.Ytaepibmmpdfjcaa.PBlock.Block × Go.Proofs.Ytaepibmmpdfjcaa.GoC.Tape) :=
  bind2 (Go.Proofs.Ytaepibmmpdfjcaa.GsL1CurPick.P c 3) fun (t_2 : Int) (t_2_tp : Go.Proofs.Ytaepibmmpdfjcaa.GoC.Tape) =>
  letK (IntKind.i64.wrap (1 + t_2)) fun (t_3 : Int) =>
  bind2 (Go.Proofs.Ytaepibmmpdfjcaa.GsL1CurPick.P t_2_tp 3) fun (t_5 : Int) (t_5_tp : Go.Proofs.Ytaepibmmpdfjcaa.GoC.Tape) =>
  letK (IntKind.i64.wrap (1 + t_5)) fun (t_6 : Int) =>
  loopK (l0 fuel t_3 t_6) fuel (([] : List ByteArray), 0, t_5_tp) (e0 )

set_option maxRecDepth 100000 in
set_option maxHeartbeats 2000000 in
theorem C (fuel : Nat) (c : Go.Proofs.Ytaepibmmpdfjcaa.GoC.Tape)   (g0 : Nat) (Ac0 : Option Addr) (cc0 : Nat) (bc0 : Nat) (w : World)   (K0 : Hid (Go.Proofs.Ytaepibmmpdfjcaa.GoC.CurIs w bc0 g0 Ac0 cc0 c)) {r_rows : (List ByteArray)} {t_ : Go.Proofs.Ytaepibmmpdfjcaa.GoC.Tape} (H : Hid (P fuel c = some ((Go.Proofs.Ytaepibmmpdfjcaa.PBlock.Block.mk r_rows), t_))) :
    Calls Try.prog 50 #[.pointer (some ⟨g0, 0, none⟩)] w (fun e w' => ∃ A_r_rows c_r_rows, e = .returned (.agg #[.slice A_r_rows r_rows.length c_r_rows]) ∧ w'.ownsRow w.heap.size 9 1 (.slice A_r_rows r_rows.length c_r_rows) r_rows.length (r_rows.map Value.string) ∧ Go.Proofs.Ytaepibmmpdfjcaa.GoC.CurIs w' bc0 g0 Ac0 cc0 t_ ∧ w.grownBy w' (Value.slice (some ⟨g0, 0, none⟩) 1 1).ownBlock) := by
  have HB := Lib.hid (Aid.grown_refl w (Value.slice (some ⟨g0, 0, none⟩) 1 1).ownBlock)
  unfold P at H
  have L0 : bc0 ≤ w.heap.size := by have := Go.Proofs.Ytaepibmmpdfjcaa.GoC.cur_lt K0.out; omega
  obtain ⟨i0_9, hi_9, hz0_9, hz1_9, hz2_9⟩ := Aid.info_parts (P := Try.prog) (T := 9) (z := .string ByteArray.empty) (s := 1) (b := 16) (by kernel_rfl)
  go_enter Try.func50, Try.ntmps50
  obtain ⟨w_t_0, hw_t_0⟩ : ∃ x, w.alloc (.cells #[.slice none 0 0] 26) = x := ⟨_, rfl⟩
  have bw_t_0 : Below w.heap.size w w_t_0 := by rw [← hw_t_0]; exact (Below.refl _ _).alloc (Nat.le_refl _) _
  have Dt_0_c0 := Lib.hid (Go.Proofs.Ytaepibmmpdfjcaa.GoC.apart_cur K0.out)
  have HBw_t_0 := Lib.hid (grown_below HB.out bw_t_0)
  replace K0 := Lib.hid (Go.Proofs.Ytaepibmmpdfjcaa.GoC.cur_below K0.out bw_t_0)
  clear bw_t_0
  have kt_0_0 : w_t_0.cell? ⟨w.heap.size, 0, none⟩ = some (.slice none 0 0) := by rw [← hw_t_0]; exact box_new _ _ _ 0 _ rfl
  have Ot_0 : Hid (w_t_0.ownsRow w.heap.size 26 1 (.slice (some ⟨w.heap.size, 0, none⟩) 1 1) 1 [.slice none 0 0]) := Lib.hid (by rw [← hw_t_0]; exact own_laid (n := 1) HB.out.size rfl rfl (by unfold maxLen; omega))
  replace H := bind2_hid H
  obtain ⟨t_2, t_2_tp, qt_2, H⟩ := H
  go_wp2_with fail
  go_at_call 59
  refine (Go.Proofs.Ytaepibmmpdfjcaa.GsL1CurPick.C (c) (3) (g0) (Ac0) (cc0) (bc0) _   K0 qt_2).mono ?_
  rintro e_t_2 wt_2 ⟨rfl, kt_2, gt_2⟩
  have Kt_2 := Lib.hid kt_2
  have Gt_2 : Hid (w_t_0.grownBy wt_2 (Value.slice (some ⟨g0, 0, none⟩) 1 1).ownBlock) := Lib.hid gt_2
  clear kt_2 gt_2
  have HBwt_2 := Lib.hid (Aid.grown_tr HBw_t_0.out Gt_2.out)
  replace kt_0_0 := cell_other kt_0_0 Gt_2.out (Apart.symm Dt_0_c0.out)
  replace Ot_0 := Lib.hid (own_other Ot_0.out Gt_2.out (Apart.symm Dt_0_c0.out))
  clear K0 Gt_2
  replace H := let_hid H
  obtain ⟨t_3, ht_3, H⟩ := H
  replace H := bind2_hid H
  obtain ⟨t_5, t_5_tp, qt_5, H⟩ := H
  go_wp2_with fail
  go_at_call 59
  refine (Go.Proofs.Ytaepibmmpdfjcaa.GsL1CurPick.C (t_2_tp) (3) (g0) (Ac0) (cc0) (bc0) _   Kt_2 qt_5).mono ?_
  rintro e_t_5 wt_5 ⟨rfl, kt_5, gt_5⟩
  have Kt_5 := Lib.hid kt_5
  have Gt_5 : Hid (wt_2.grownBy wt_5 (Value.slice (some ⟨g0, 0, none⟩) 1 1).ownBlock) := Lib.hid gt_5
  clear kt_5 gt_5
  have HBwt_5 := Lib.hid (Aid.grown_tr HBwt_2.out Gt_5.out)
  replace kt_0_0 := cell_other kt_0_0 Gt_5.out (Apart.symm Dt_0_c0.out)
  replace Ot_0 := Lib.hid (own_other Ot_0.out Gt_5.out (Apart.symm Dt_0_c0.out))
  clear Kt_2 Gt_5
  replace H := let_hid H
  obtain ⟨t_6, ht_6, H⟩ := H
  obtain ⟨w_t_7, hw_t_7⟩ : ∃ x, wt_5.alloc (.cells #[] 9) = x := ⟨_, rfl⟩
  have bw_t_7 : Below wt_5.heap.size wt_5 w_t_7 := by rw [← hw_t_7]; exact (Below.refl _ _).alloc (Nat.le_refl _) _
  have Ot_7 : Hid (w_t_7.ownsRow w.heap.size 9 1 (.slice (some ⟨wt_5.heap.size, 0, none⟩) 0 0) 0 []) := Lib.hid (by rw [← hw_t_7]; exact own_empty HBwt_5.out.size)
  have Dt_7_c0 := Lib.hid (Go.Proofs.Ytaepibmmpdfjcaa.GoC.apart_cur Kt_5.out)
  have Dt_7_t_0 := Lib.hid (apart_box kt_0_0)
  have HBw_t_7 := Lib.hid (grown_below HBwt_5.out bw_t_7)
  have kt_0_0__1 := cell_below bw_t_7 kt_0_0
  replace Kt_5 := Lib.hid (Go.Proofs.Ytaepibmmpdfjcaa.GoC.cur_below Kt_5.out bw_t_7)
  replace Ot_0 := Lib.hid (own_below Ot_0.out bw_t_7)
  clear bw_t_7
  go_wp2_with fail
  clear kt_0_0
  go_loopg [5, 6] (fuel) (fun m_ v5_ v6_ wr => ∃ (out_5l0 : (List ByteArray)) (i_6l0 : Int) (c0_c0l0 : Go.Proofs.Ytaepibmmpdfjcaa.GoC.Tape) (Aout_5l0 : Option Addr) (cout_5l0 : Nat), v5_ = .slice Aout_5l0 out_5l0.length cout_5l0 ∧ v6_ = .int .i64 i_6l0 ∧ Hid (loopK (l0 fuel t_3 t_6) m_ (out_5l0, i_6l0, c0_c0l0) (e0 ) = some ((Go.Proofs.Ytaepibmmpdfjcaa.PBlock.Block.mk r_rows), t_)) ∧ Hid (w.grownBy wr (Value.slice (some ⟨g0, 0, none⟩) 1 1).ownBlock) ∧ wr.cell? ⟨w.heap.size, 0, none⟩ = some (.slice none 0 0) ∧ Hid (wr.ownsRow w.heap.size 26 1 (.slice (some ⟨w.heap.size, 0, none⟩) 1 1) 1 [.slice none 0 0]) ∧ Hid (wr.ownsRow w.heap.size 9 1 (.slice Aout_5l0 out_5l0.length cout_5l0) out_5l0.length (out_5l0.map Value.string)) ∧ Hid (Apart Aout_5l0 (some ⟨w.heap.size, 0, none⟩)) ∧ Hid (Apart Aout_5l0 (some ⟨g0, 0, none⟩)) ∧ Hid (Go.Proofs.Ytaepibmmpdfjcaa.GoC.CurIs wr bc0 g0 Ac0 cc0 c0_c0l0))
  case atStart => exact ⟨_, _, _, _, _, rfl, rfl, H, HBw_t_7, kt_0_0__1, Ot_0, Ot_7, Lib.hid Dt_7_t_0.out, Lib.hid Dt_7_c0.out, Kt_5⟩
  case round =>
    obtain ⟨out_5l0, i_6l0, c0_c0l0, Aout_5l0, cout_5l0, rfl, rfl, H, HBwr0, kt_0_0__1, Ot_0, Oout_5l0, Dout_5l0_t_0, Dout_5l0_c0, Kl0_0⟩ := hrel
    rename World => wr0
    cases gk with
    | zero => exact (loop_zero H).elim
    | succ m0 =>
      replace H := loop_succ H
      unfold l0 at H
      replace H := unp3_hid H
      replace H := let_hid H
      obtain ⟨t_14, ht_14, H⟩ := H
      cases t_14 with
      | false =>
        replace H := ite_f H
        replace H := app_hid H
        unfold e0 at H
        replace H := unp3_hid H
        replace H := bind2_hid H
        obtain ⟨t_38, t_38_tp, qt_38, H⟩ := H
        go_wp2_with fail
        go_at_call 59
        refine (Go.Proofs.Ytaepibmmpdfjcaa.GsL1CurPick.C (c0_c0l0) (48) (g0) (Ac0) (cc0) (bc0) _   Kl0_0 qt_38).mono ?_
        rintro e_t_38 wt_38 ⟨rfl, kt_38, gt_38⟩
        have Kt_38 := Lib.hid kt_38
        have Gt_38 : Hid (wr0.grownBy wt_38 (Value.slice (some ⟨g0, 0, none⟩) 1 1).ownBlock) := Lib.hid gt_38
        clear kt_38 gt_38
        have HBwt_38 := Lib.hid (Aid.grown_tr HBwr0.out Gt_38.out)
        replace kt_0_0__1 := cell_other kt_0_0__1 Gt_38.out (Apart.symm Dt_0_c0.out)
        replace Ot_0 := Lib.hid (own_other Ot_0.out Gt_38.out (Apart.symm Dt_0_c0.out))
        replace Oout_5l0 := Lib.hid (own_other Oout_5l0.out Gt_38.out (Apart.symm Dout_5l0_c0.out))
        clear Kl0_0 Gt_38
        replace H := let_hid H
        obtain ⟨t_39, ht_39, H⟩ := H
        cases t_39 with
        | false =>
          replace H := ite_f H
          replace H := let_hid H
          obtain ⟨t_48, ht_48, H⟩ := H
          cases t_48 with
          | false =>
            replace H := ite_f H
            obtain ⟨wb54_54, hwb54_54⟩ : ∃ x, (wt_38).setCell ⟨w.heap.size, 0, none⟩ (.slice Aout_5l0 out_5l0.length cout_5l0) = x := ⟨_, rfl⟩
            have z0b54_54 := Ot_0.out.frozenAt 0
            have Sb54_54 := Lib.hid (own_stores [(0, .slice Aout_5l0 out_5l0.length cout_5l0)] Ot_0.out)
            have Pb54_54 : Hid (wb54_54.ownsRow w.heap.size 26 1 (.slice (some ⟨w.heap.size, 0, none⟩) 1 1) 1 [.slice Aout_5l0 out_5l0.length cout_5l0]) := Lib.hid (by rw [← hwb54_54]; exact Sb54_54.out.1)
            have Gb54_54 : Hid (wt_38.grownBy wb54_54 (Value.slice (some ⟨w.heap.size, 0, none⟩) 1 1).ownBlock) := Lib.hid (by rw [← hwb54_54]; exact Sb54_54.out.2)
            have HBwb54_54 := Lib.hid (Go.Proofs.Ytaepibmmpdfjcaa.GoC.grown_new HBwt_38.out Gb54_54.out (Go.Proofs.Ytaepibmmpdfjcaa.GoC.own_ge Ot_0.out))
            clear Sb54_54
            replace Oout_5l0 := Lib.hid (own_other Oout_5l0.out Gb54_54.out (Apart.symm Dout_5l0_t_0.out))
            replace Kt_38 := Lib.hid (Go.Proofs.Ytaepibmmpdfjcaa.GoC.cur_otherO Kt_38.out Gb54_54.out Dt_0_c0.out L0 Ot_0.out)
            clear Ot_0 Gb54_54
            have kt_0_0__2 : wb54_54.cell? ⟨w.heap.size, 0, none⟩ = some (.slice Aout_5l0 out_5l0.length cout_5l0) := Pb54_54.out.cells rfl 0 _ rfl
            have hR_ := ret_hid H
            simp only [Prod.mk.injEq, Go.Proofs.Ytaepibmmpdfjcaa.PBlock.Block.mk.injEq] at hR_
            obtain ⟨rfl, rfl⟩ := hR_
            go_wp2_with fail
            (try simp only [Exit.inBlock, Exit.then])
            refine bodyPost_ret (v := .agg #[.slice Aout_5l0 out_5l0.length cout_5l0]) ?hr_ ?hd_ ?_
            case hd_ => rfl
            case hr_ => simp [results, Try.results50, kt_0_0__2, go_sem]
            exact ⟨Aout_5l0, cout_5l0, rfl, Oout_5l0.out, Kt_38.out, HBwb54_54.out⟩
          | true =>
            replace H := ite_t H
            obtain ⟨w_t_50, hw_t_50⟩ : ∃ x, wt_38.alloc (.cells #[] 9) = x := ⟨_, rfl⟩
            have bw_t_50 : Below wt_38.heap.size wt_38 w_t_50 := by rw [← hw_t_50]; exact (Below.refl _ _).alloc (Nat.le_refl _) _
            have Ot_50 : Hid (w_t_50.ownsRow w.heap.size 9 1 (.slice (some ⟨wt_38.heap.size, 0, none⟩) 0 0) 0 []) := Lib.hid (by rw [← hw_t_50]; exact own_empty HBwt_38.out.size)
            have Dt_50_out_5l0 := Lib.hid (apart_fresh Oout_5l0.out)
            have Dt_50_c0 := Lib.hid (Go.Proofs.Ytaepibmmpdfjcaa.GoC.apart_cur Kt_38.out)
            have Dt_50_t_0 := Lib.hid (apart_box kt_0_0__1)
            have HBw_t_50 := Lib.hid (grown_below HBwt_38.out bw_t_50)
            have kt_0_0__3 := cell_below bw_t_50 kt_0_0__1
            replace Oout_5l0 := Lib.hid (own_below Oout_5l0.out bw_t_50)
            replace Kt_38 := Lib.hid (Go.Proofs.Ytaepibmmpdfjcaa.GoC.cur_below Kt_38.out bw_t_50)
            replace Ot_0 := Lib.hid (own_below Ot_0.out bw_t_50)
            clear bw_t_50
            obtain ⟨wb54_54, hwb54_54⟩ : ∃ x, (w_t_50).setCell ⟨w.heap.size, 0, none⟩ (.slice (some ⟨wt_38.heap.size, 0, none⟩) 0 0) = x := ⟨_, rfl⟩
            have z0b54_54 := Ot_0.out.frozenAt 0
            have Sb54_54 := Lib.hid (own_stores [(0, .slice (some ⟨wt_38.heap.size, 0, none⟩) 0 0)] Ot_0.out)
            have Pb54_54 : Hid (wb54_54.ownsRow w.heap.size 26 1 (.slice (some ⟨w.heap.size, 0, none⟩) 1 1) 1 [.slice (some ⟨wt_38.heap.size, 0, none⟩) 0 0]) := Lib.hid (by rw [← hwb54_54]; exact Sb54_54.out.1)
            have Gb54_54 : Hid (w_t_50.grownBy wb54_54 (Value.slice (some ⟨w.heap.size, 0, none⟩) 1 1).ownBlock) := Lib.hid (by rw [← hwb54_54]; exact Sb54_54.out.2)
            have HBwb54_54 := Lib.hid (Go.Proofs.Ytaepibmmpdfjcaa.GoC.grown_new HBw_t_50.out Gb54_54.out (Go.Proofs.Ytaepibmmpdfjcaa.GoC.own_ge Ot_0.out))
            clear Sb54_54
            replace Oout_5l0 := Lib.hid (own_other Oout_5l0.out Gb54_54.out (Apart.symm Dout_5l0_t_0.out))
            replace Ot_50 := Lib.hid (own_other Ot_50.out Gb54_54.out (Apart.symm Dt_50_t_0.out))
            replace Kt_38 := Lib.hid (Go.Proofs.Ytaepibmmpdfjcaa.GoC.cur_otherO Kt_38.out Gb54_54.out Dt_0_c0.out L0 Ot_0.out)
            clear Ot_0 Gb54_54
            have kt_0_0__4 : wb54_54.cell? ⟨w.heap.size, 0, none⟩ = some (.slice (some ⟨wt_38.heap.size, 0, none⟩) 0 0) := Pb54_54.out.cells rfl 0 _ rfl
            have hR_ := ret_hid H
            simp only [Prod.mk.injEq, Go.Proofs.Ytaepibmmpdfjcaa.PBlock.Block.mk.injEq] at hR_
            obtain ⟨rfl, rfl⟩ := hR_
            go_wp2_with fail
            (try simp only [Exit.inBlock, Exit.then])
            refine bodyPost_ret (v := .agg #[.slice (some ⟨wt_38.heap.size, 0, none⟩) 0 0]) ?hr_ ?hd_ ?_
            case hd_ => rfl
            case hr_ => simp [results, Try.results50, kt_0_0__4, go_sem]
            exact ⟨(some ⟨wt_38.heap.size, 0, none⟩), 0, rfl, Ot_50.out, Kt_38.out, HBwb54_54.out⟩
        | true =>
          replace H := ite_t H
          replace H := let_hid H
          obtain ⟨t_43, ht_43, H⟩ := H
          obtain ⟨w_t_43, hw_t_43⟩ : ∃ x, wt_38.alloc (.cells #[.string (⟨#[]⟩ : ByteArray), .string (⟨#[97]⟩ : ByteArray), .string (⟨#[65]⟩ : ByteArray), .string (⟨#[97, 98, 99, 100]⟩ : ByteArray)] 9) = x := ⟨_, rfl⟩
          have bw_t_43 : Below wt_38.heap.size wt_38 w_t_43 := by rw [← hw_t_43]; exact (Below.refl _ _).alloc (Nat.le_refl _) _
          have hs_t_43 := HBwt_38.out.size
          have nt_43 : t_43.length = 4 := by rw [← ht_43]; rfl
          have Ot_43 : Hid (w_t_43.ownsRow w.heap.size 9 1 (.slice (some ⟨wt_38.heap.size, 0, none⟩) 4 4) 4 (t_43.map Value.string)) := by
            rw [← hw_t_43, ← ht_43]
            have e_ : ([.string (⟨#[]⟩ : ByteArray), .string (⟨#[97]⟩ : ByteArray), .string (⟨#[65]⟩ : ByteArray), .string (⟨#[97, 98, 99, 100]⟩ : ByteArray)] : List Value) = (([(⟨#[]⟩ : ByteArray), (⟨#[97]⟩ : ByteArray), (⟨#[65]⟩ : ByteArray), (⟨#[97, 98, 99, 100]⟩ : ByteArray)] : List ByteArray).map Value.string) := rfl
            exact Lib.hid (own_laid (n := 4) hs_t_43 e_ rfl (by unfold maxLen; omega))
          clear hs_t_43
          have hht_43 := Lib.hid ht_43
          clear ht_43
          replace nt_43 := Lib.hid nt_43
          have Dt_43_out_5l0 := Lib.hid (apart_fresh Oout_5l0.out)
          have Dt_43_c0 := Lib.hid (Go.Proofs.Ytaepibmmpdfjcaa.GoC.apart_cur Kt_38.out)
          have Dt_43_t_0 := Lib.hid (apart_box kt_0_0__1)
          have HBw_t_43 := Lib.hid (grown_below HBwt_38.out bw_t_43)
          have kt_0_0__5 := cell_below bw_t_43 kt_0_0__1
          replace Oout_5l0 := Lib.hid (own_below Oout_5l0.out bw_t_43)
          replace Kt_38 := Lib.hid (Go.Proofs.Ytaepibmmpdfjcaa.GoC.cur_below Kt_38.out bw_t_43)
          replace Ot_0 := Lib.hid (own_below Ot_0.out bw_t_43)
          clear bw_t_43
          replace H := bind2_hid H
          obtain ⟨t_44, t_44_tp, qt_44, H⟩ := H
          go_wp2_with fail
          clear kt_0_0__1
          have hc0_ := nt_43.out
          have Oct_44_1 := Lib.hid (own_len hc0_ Ot_43.out)
          have con_ := Go.Proofs.Ytaepibmmpdfjcaa.GsL1CurOf.C (t_38_tp) (t_43) (some ⟨wt_38.heap.size, 0, none⟩) 4 (g0) (Ac0) (cc0) (bc0) _   (Lib.hid (own_cells Oct_44_1.out)) (Lib.hid (own_max Oct_44_1.out)) Kt_38 (Lib.hid (fun _ => Dt_43_c0.out)) qt_44
          rw [hc0_] at con_
          clear hc0_ Oct_44_1
          go_at_call 87
          refine con_.mono ?_
          rintro e_t_44 wt_44 ⟨rfl, kt_44, gt_44⟩
          have Kt_44 := Lib.hid kt_44
          have Gt_44 : Hid (w_t_43.grownBy wt_44 (Value.slice (some ⟨g0, 0, none⟩) 1 1).ownBlock) := Lib.hid gt_44
          clear kt_44 gt_44
          have HBwt_44 := Lib.hid (Aid.grown_tr HBw_t_43.out Gt_44.out)
          replace kt_0_0__5 := cell_other kt_0_0__5 Gt_44.out (Apart.symm Dt_0_c0.out)
          replace Ot_0 := Lib.hid (own_other Ot_0.out Gt_44.out (Apart.symm Dt_0_c0.out))
          replace Oout_5l0 := Lib.hid (own_other Oout_5l0.out Gt_44.out (Apart.symm Dout_5l0_c0.out))
          replace Ot_43 := Lib.hid (own_other Ot_43.out Gt_44.out (Apart.symm Dt_43_c0.out))
          clear Kt_38 Gt_44
          obtain ⟨w_t_45, hw_t_45⟩ : ∃ x, wt_44.alloc (.cells #[.string t_44] 9) = x := ⟨_, rfl⟩
          have bw_t_45 : Below wt_44.heap.size wt_44 w_t_45 := by rw [← hw_t_45]; exact (Below.refl _ _).alloc (Nat.le_refl _) _
          have HBw_t_45 := Lib.hid (grown_below HBwt_44.out bw_t_45)
          have kt_0_0__6 := cell_below bw_t_45 kt_0_0__5
          replace Oout_5l0 := Lib.hid (own_below Oout_5l0.out bw_t_45)
          replace Ot_43 := Lib.hid (own_below Ot_43.out bw_t_45)
          replace Kt_44 := Lib.hid (Go.Proofs.Ytaepibmmpdfjcaa.GoC.cur_below Kt_44.out bw_t_45)
          replace Ot_0 := Lib.hid (own_below Ot_0.out bw_t_45)
          clear bw_t_45
          replace H := guard_hid H
          obtain ⟨hlt_46, H⟩ := H
          replace H := let_hid H
          obtain ⟨t_46, ht_46, H⟩ := H
          have hht_46 := Lib.hid ht_46
          clear ht_46
          have hst_46 := HBw_t_45.out.size
          go_wp2_with (at_builtin; refine wpList_append_own_at _ rfl _ _ 24 rfl w.heap.size 9 i0_9 (.string ByteArray.empty) 1 16 Try.underlying24 hi_9 hz0_9 hz1_9 hz2_9 rfl (by decide) _ _ _ rfl Oout_5l0.out ⟨wt_44.heap.size, 0, none⟩ 1 1 [.string t_44] rfl rfl (news_new hw_t_45) (one_cells rfl) (by unfold maxLen; omega) (by omega) hst_46 ?_; intro vt_46 wt_46 ot_46 gt_46 zt_46 yt_46; clear zt_46; obtain ⟨qt_46, ct_46, rfl, pt_46⟩ := own_push hht_46.out (by simp) rfl ot_46; have Pt_46 := Lib.hid pt_46; have Yt_46 := Lib.hid yt_46; have Gt_46 := Lib.hid gt_46; clear ot_46 gt_46 pt_46 yt_46; refine stop_in ?_)
          refine stop_out ?_
          have HBwt_46 := Lib.hid (Go.Proofs.Ytaepibmmpdfjcaa.GoC.grown_new HBw_t_45.out Gt_46.out (Go.Proofs.Ytaepibmmpdfjcaa.GoC.own_ge Oout_5l0.out))
          clear hst_46
          have Dt_46_t_0 : Hid (Apart (some ⟨qt_46, 0, none⟩) _) := Lib.hid (apart_app Dout_5l0_t_0.out (fun a_ ha_ => by cases ha_; exact cell_lt kt_0_0__6) Yt_46.out)
          have Dt_46_c0 : Hid (Apart (some ⟨qt_46, 0, none⟩) _) := Lib.hid (apart_app Dout_5l0_c0.out (fun a_ ha_ => by cases ha_; exact (Go.Proofs.Ytaepibmmpdfjcaa.GoC.cur_lt Kt_44.out).2) Yt_46.out)
          have Dt_46_t_43 : Hid (Apart (some ⟨qt_46, 0, none⟩) _) := Lib.hid (apart_app (Apart.symm Dt_43_out_5l0.out) (fun a_ ha_ => (own_lt Ot_43.out a_ ha_).2) Yt_46.out)
          replace kt_0_0__6 := cell_other kt_0_0__6 Gt_46.out Dout_5l0_t_0.out
          replace Ot_0 := Lib.hid (own_other Ot_0.out Gt_46.out Dout_5l0_t_0.out)
          replace Ot_43 := Lib.hid (own_other Ot_43.out Gt_46.out (Apart.symm Dt_43_out_5l0.out))
          replace Kt_44 := Lib.hid (Go.Proofs.Ytaepibmmpdfjcaa.GoC.cur_otherO Kt_44.out Gt_46.out Dout_5l0_c0.out L0 Oout_5l0.out)
          clear kt_0_0__5
          clear Oout_5l0 Yt_46 Gt_46
          obtain ⟨wb54_54, hwb54_54⟩ : ∃ x, (wt_46).setCell ⟨w.heap.size, 0, none⟩ (.slice (some ⟨qt_46, 0, none⟩) t_46.length ct_46) = x := ⟨_, rfl⟩
          have z0b54_54 := Ot_0.out.frozenAt 0
          have Sb54_54 := Lib.hid (own_stores [(0, .slice (some ⟨qt_46, 0, none⟩) t_46.length ct_46)] Ot_0.out)
          have Pb54_54 : Hid (wb54_54.ownsRow w.heap.size 26 1 (.slice (some ⟨w.heap.size, 0, none⟩) 1 1) 1 [.slice (some ⟨qt_46, 0, none⟩) t_46.length ct_46]) := Lib.hid (by rw [← hwb54_54]; exact Sb54_54.out.1)
          have Gb54_54 : Hid (wt_46.grownBy wb54_54 (Value.slice (some ⟨w.heap.size, 0, none⟩) 1 1).ownBlock) := Lib.hid (by rw [← hwb54_54]; exact Sb54_54.out.2)
          have HBwb54_54 := Lib.hid (Go.Proofs.Ytaepibmmpdfjcaa.GoC.grown_new HBwt_46.out Gb54_54.out (Go.Proofs.Ytaepibmmpdfjcaa.GoC.own_ge Ot_0.out))
          clear Sb54_54
          replace Ot_43 := Lib.hid (own_other Ot_43.out Gb54_54.out (Apart.symm Dt_43_t_0.out))
          replace Pt_46 := Lib.hid (own_other Pt_46.out Gb54_54.out (Apart.symm Dt_46_t_0.out))
          replace Kt_44 := Lib.hid (Go.Proofs.Ytaepibmmpdfjcaa.GoC.cur_otherO Kt_44.out Gb54_54.out Dt_0_c0.out L0 Ot_0.out)
          clear Ot_0 Gb54_54
          have kt_0_0__7 : wb54_54.cell? ⟨w.heap.size, 0, none⟩ = some (.slice (some ⟨qt_46, 0, none⟩) t_46.length ct_46) := Pb54_54.out.cells rfl 0 _ rfl
          have hR_ := ret_hid H
          simp only [Prod.mk.injEq, Go.Proofs.Ytaepibmmpdfjcaa.PBlock.Block.mk.injEq] at hR_
          obtain ⟨rfl, rfl⟩ := hR_
          go_wp2_with fail
          (try simp only [Exit.inBlock, Exit.then])
          refine bodyPost_ret (v := .agg #[.slice (some ⟨qt_46, 0, none⟩) t_46.length ct_46]) ?hr_ ?hd_ ?_
          case hd_ => rfl
          case hr_ => simp [results, Try.results50, kt_0_0__7, go_sem]
          exact ⟨(some ⟨qt_46, 0, none⟩), ct_46, rfl, Pt_46.out, Kt_44.out, HBwb54_54.out⟩
      | true =>
        replace H := ite_t H
        go_wp2_with fail
        go_loopg [7, 8] (fuel) (fun m_ v7_ v8_ wr => ∃ (s_7l1 : ByteArray) (k_8l1 : Int) (c0_c0l1 : Go.Proofs.Ytaepibmmpdfjcaa.GoC.Tape), v7_ = .string s_7l1 ∧ v8_ = .int .i64 k_8l1 ∧ Hid (loopK (l1 t_6) m_ (s_7l1, k_8l1, c0_c0l1) (e1 (fun s' => loopK (l0 fuel t_3 t_6) m0 s' (e0 )) out_5l0 i_6l0) = some ((Go.Proofs.Ytaepibmmpdfjcaa.PBlock.Block.mk r_rows), t_)) ∧ Hid (w.grownBy wr (Value.slice (some ⟨g0, 0, none⟩) 1 1).ownBlock) ∧ wr.cell? ⟨w.heap.size, 0, none⟩ = some (.slice none 0 0) ∧ Hid (wr.ownsRow w.heap.size 26 1 (.slice (some ⟨w.heap.size, 0, none⟩) 1 1) 1 [.slice none 0 0]) ∧ Hid (wr.ownsRow w.heap.size 9 1 (.slice Aout_5l0 out_5l0.length cout_5l0) out_5l0.length (out_5l0.map Value.string)) ∧ Hid (Go.Proofs.Ytaepibmmpdfjcaa.GoC.CurIs wr bc0 g0 Ac0 cc0 c0_c0l1))
        case atStart => exact ⟨_, _, _, rfl, rfl, H, HBwr0, kt_0_0__1, Ot_0, Oout_5l0, Kl0_0⟩
        case round =>
          obtain ⟨s_7l1, k_8l1, c0_c0l1, rfl, rfl, H, HBwr1, kt_0_0__1, Ot_0, Oout_5l0, Kl1_0⟩ := hrel
          rename World => wr1
          cases gk with
          | zero => exact (loop_zero H).elim
          | succ m1 =>
            replace H := loop_succ H
            unfold l1 at H
            replace H := unp3_hid H
            replace H := let_hid H
            obtain ⟨t_19, ht_19, H⟩ := H
            cases t_19 with
            | false =>
              replace H := ite_f H
              replace H := app_hid H
              unfold e1 at H
              replace H := unp3_hid H
              obtain ⟨w_t_31, hw_t_31⟩ : ∃ x, wr1.alloc (.cells #[.string s_7l1] 9) = x := ⟨_, rfl⟩
              have bw_t_31 : Below wr1.heap.size wr1 w_t_31 := by rw [← hw_t_31]; exact (Below.refl _ _).alloc (Nat.le_refl _) _
              have HBw_t_31 := Lib.hid (grown_below HBwr1.out bw_t_31)
              have kt_0_0__8 := cell_below bw_t_31 kt_0_0__1
              replace Oout_5l0 := Lib.hid (own_below Oout_5l0.out bw_t_31)
              replace Kl1_0 := Lib.hid (Go.Proofs.Ytaepibmmpdfjcaa.GoC.cur_below Kl1_0.out bw_t_31)
              replace Ot_0 := Lib.hid (own_below Ot_0.out bw_t_31)
              clear bw_t_31
              replace H := guard_hid H
              obtain ⟨hlt_32, H⟩ := H
              replace H := let_hid H
              obtain ⟨t_32, ht_32, H⟩ := H
              have hht_32 := Lib.hid ht_32
              clear ht_32
              have hst_32 := HBw_t_31.out.size
              go_wp2_with (at_builtin; refine wpList_append_own_at _ rfl _ _ 24 rfl w.heap.size 9 i0_9 (.string ByteArray.empty) 1 16 Try.underlying24 hi_9 hz0_9 hz1_9 hz2_9 rfl (by decide) _ _ _ rfl Oout_5l0.out ⟨wr1.heap.size, 0, none⟩ 1 1 [.string s_7l1] rfl rfl (news_new hw_t_31) (one_cells rfl) (by unfold maxLen; omega) (by omega) hst_32 ?_; intro vt_32 wt_32 ot_32 gt_32 zt_32 yt_32; clear zt_32; obtain ⟨qt_32, ct_32, rfl, pt_32⟩ := own_push hht_32.out (by simp) rfl ot_32; have Pt_32 := Lib.hid pt_32; have Yt_32 := Lib.hid yt_32; have Gt_32 := Lib.hid gt_32; clear ot_32 gt_32 pt_32 yt_32; refine stop_in ?_)
              refine stop_out ?_
              have HBwt_32 := Lib.hid (Go.Proofs.Ytaepibmmpdfjcaa.GoC.grown_new HBw_t_31.out Gt_32.out (Go.Proofs.Ytaepibmmpdfjcaa.GoC.own_ge Oout_5l0.out))
              clear hst_32
              have Dt_32_t_0 : Hid (Apart (some ⟨qt_32, 0, none⟩) _) := Lib.hid (apart_app Dout_5l0_t_0.out (fun a_ ha_ => by cases ha_; exact cell_lt kt_0_0__8) Yt_32.out)
              have Dt_32_c0 : Hid (Apart (some ⟨qt_32, 0, none⟩) _) := Lib.hid (apart_app Dout_5l0_c0.out (fun a_ ha_ => by cases ha_; exact (Go.Proofs.Ytaepibmmpdfjcaa.GoC.cur_lt Kl1_0.out).2) Yt_32.out)
              replace kt_0_0__8 := cell_other kt_0_0__8 Gt_32.out Dout_5l0_t_0.out
              replace Ot_0 := Lib.hid (own_other Ot_0.out Gt_32.out Dout_5l0_t_0.out)
              replace Kl1_0 := Lib.hid (Go.Proofs.Ytaepibmmpdfjcaa.GoC.cur_otherO Kl1_0.out Gt_32.out Dout_5l0_c0.out L0 Oout_5l0.out)
              clear kt_0_0__1
              clear Oout_5l0 Yt_32 Gt_32
              replace H := let_hid H
              obtain ⟨t_35, ht_35, H⟩ := H
              replace H := app_hid H
              go_wp2_with fail
              go_roundg m0
              case measure => omega
              case rel => exact ⟨_, _, _, _, _, rfl, rfl, H, HBwt_32, kt_0_0__8, Ot_0, Pt_32, Lib.hid Dt_32_t_0.out, Lib.hid Dt_32_c0.out, Kl1_0⟩
            | true =>
              replace H := ite_t H
              replace H := let_hid H
              obtain ⟨t_22, ht_22, H⟩ := H
              obtain ⟨w_t_22, hw_t_22⟩ : ∃ x, wr1.alloc (.cells #[.string (⟨#[97]⟩ : ByteArray), .string (⟨#[97]⟩ : ByteArray), .string (⟨#[98]⟩ : ByteArray), .string (⟨#[99]⟩ : ByteArray), .string (⟨#[46]⟩ : ByteArray)] 9) = x := ⟨_, rfl⟩
              have bw_t_22 : Below wr1.heap.size wr1 w_t_22 := by rw [← hw_t_22]; exact (Below.refl _ _).alloc (Nat.le_refl _) _
              have hs_t_22 := HBwr1.out.size
              have nt_22 : t_22.length = 5 := by rw [← ht_22]; rfl
              have Ot_22 : Hid (w_t_22.ownsRow w.heap.size 9 1 (.slice (some ⟨wr1.heap.size, 0, none⟩) 5 5) 5 (t_22.map Value.string)) := by
                rw [← hw_t_22, ← ht_22]
                have e_ : ([.string (⟨#[97]⟩ : ByteArray), .string (⟨#[97]⟩ : ByteArray), .string (⟨#[98]⟩ : ByteArray), .string (⟨#[99]⟩ : ByteArray), .string (⟨#[46]⟩ : ByteArray)] : List Value) = (([(⟨#[97]⟩ : ByteArray), (⟨#[97]⟩ : ByteArray), (⟨#[98]⟩ : ByteArray), (⟨#[99]⟩ : ByteArray), (⟨#[46]⟩ : ByteArray)] : List ByteArray).map Value.string) := rfl
                exact Lib.hid (own_laid (n := 5) hs_t_22 e_ rfl (by unfold maxLen; omega))
              clear hs_t_22
              have hht_22 := Lib.hid ht_22
              clear ht_22
              replace nt_22 := Lib.hid nt_22
              have Dt_22_out_5l0 := Lib.hid (apart_fresh Oout_5l0.out)
              have Dt_22_c0 := Lib.hid (Go.Proofs.Ytaepibmmpdfjcaa.GoC.apart_cur Kl1_0.out)
              have Dt_22_t_0 := Lib.hid (apart_box kt_0_0__1)
              have HBw_t_22 := Lib.hid (grown_below HBwr1.out bw_t_22)
              have kt_0_0__9 := cell_below bw_t_22 kt_0_0__1
              replace Oout_5l0 := Lib.hid (own_below Oout_5l0.out bw_t_22)
              replace Kl1_0 := Lib.hid (Go.Proofs.Ytaepibmmpdfjcaa.GoC.cur_below Kl1_0.out bw_t_22)
              replace Ot_0 := Lib.hid (own_below Ot_0.out bw_t_22)
              clear bw_t_22
              replace H := bind2_hid H
              obtain ⟨t_23, t_23_tp, qt_23, H⟩ := H
              go_wp2_with fail
              clear kt_0_0__1
              have hc0_ := nt_22.out
              have Oct_23_1 := Lib.hid (own_len hc0_ Ot_22.out)
              have con_ := Go.Proofs.Ytaepibmmpdfjcaa.GsL1CurOf.C (c0_c0l1) (t_22) (some ⟨wr1.heap.size, 0, none⟩) 5 (g0) (Ac0) (cc0) (bc0) _   (Lib.hid (own_cells Oct_23_1.out)) (Lib.hid (own_max Oct_23_1.out)) Kl1_0 (Lib.hid (fun _ => Dt_22_c0.out)) qt_23
              rw [hc0_] at con_
              clear hc0_ Oct_23_1
              go_at_call 87
              refine con_.mono ?_
              rintro e_t_23 wt_23 ⟨rfl, kt_23, gt_23⟩
              have Kt_23 := Lib.hid kt_23
              have Gt_23 : Hid (w_t_22.grownBy wt_23 (Value.slice (some ⟨g0, 0, none⟩) 1 1).ownBlock) := Lib.hid gt_23
              clear kt_23 gt_23
              have HBwt_23 := Lib.hid (Aid.grown_tr HBw_t_22.out Gt_23.out)
              replace kt_0_0__9 := cell_other kt_0_0__9 Gt_23.out (Apart.symm Dt_0_c0.out)
              replace Ot_0 := Lib.hid (own_other Ot_0.out Gt_23.out (Apart.symm Dt_0_c0.out))
              replace Oout_5l0 := Lib.hid (own_other Oout_5l0.out Gt_23.out (Apart.symm Dout_5l0_c0.out))
              replace Ot_22 := Lib.hid (own_other Ot_22.out Gt_23.out (Apart.symm Dt_22_c0.out))
              clear Kl1_0 Gt_23
              replace H := guard_hid H
              obtain ⟨hl_t_24, H⟩ := H
              replace H := let_hid H
              obtain ⟨t_24, ht_24, H⟩ := H
              have ct_24 := cat_rule (P := Try.prog) ht_24 hl_t_24
              clear hl_t_24
              have hht_24 := Lib.hid ht_24
              clear ht_24
              replace H := let_hid H
              obtain ⟨t_27, ht_27, H⟩ := H
              replace H := app_hid H
              go_wp2_with fail
              go_roundg m1
              case measure => omega
              case rel => exact ⟨_, _, _, rfl, rfl, H, HBwt_23, kt_0_0__9, Ot_0, Oout_5l0, Kt_23⟩
end Go.Proofs.Ytaepibmmpdfjcaa.GsL1CurBlock

/- loop.example/g01062/spec.l1In as a plain function, and the contract of the program's: where the plain one has an answer, the program has it. Conditions: slices read as lists. -/
namespace Go.Proofs.Ytaepibmmpdfjcaa.GsL1In
set_option linter.unusedVariables false
set_option linter.unusedSimpArgs false
open Go.RowKit
open Go.Proofs.Ytaepibmmpdfjcaa.Rowed Go.Proofs.Ytaepibmmpdfjcaa.Turn Go.Proofs.Ytaepibmmpdfjcaa.Aid Go.Proofs.Ytaepibmmpdfjcaa.GoP Go.Proofs.Ytaepibmmpdfjcaa.GoM

def P (x : Int) (a : Int) (b : Int) : Option (Bool) :=
  letK (decide (a ≤ x)) fun (t_3 : Bool) =>
  joinK (fun (t_8 : Bool) =>
  some t_8) fun jt_8 => iteK t_3 (letK (decide (x ≤ b)) fun (t_7 : Bool) =>
  appK jt_8 t_7) (appK jt_8 false)

set_option maxRecDepth 100000 in
set_option maxHeartbeats 2000000 in
theorem C (x : Int) (a : Int) (b : Int)   (w : World)   {r : Bool} (H : Hid (P x a b = some r)) :
    Calls Try.prog 65 #[.int .i64 x, .int .i64 a, .int .i64 b] w (Gives (.bool r) w) := by
  have HB := Lib.hid (Below.refl w.heap.size w)
  unfold P at H
  go_enter Try.func65, Try.ntmps65
  replace H := let_hid H
  obtain ⟨t_3, ht_3, H⟩ := H
  replace H := join_hid H
  cases t_3 with
  | false =>
    replace H := ite_f H
    replace H := app_hid H
    obtain rfl := ret_hid H
    go_wp2_with fail
    go_ret
    exact ⟨rfl, HB.out⟩
  | true =>
    replace H := ite_t H
    replace H := let_hid H
    obtain ⟨t_7, ht_7, H⟩ := H
    replace H := app_hid H
    obtain rfl := ret_hid H
    go_wp2_with fail
    go_ret
    exact ⟨rfl, HB.out⟩

set_option maxRecDepth 100000 in
set_option maxHeartbeats 2000000 in
theorem C0 (x : Int) (a : Int) (b : Int)   (w : World)   {r : Bool} (H : Hid (P x a b = some r)) :
    Calls Try.prog 65 #[.int .i64 x, .int .i64 a, .int .i64 b] w (fun e w'' => e = .returned (.bool r) ∧ w'' = w) := by
  have HB := Lib.hid (Below.refl w.heap.size w)
  unfold P at H
  go_enter Try.func65, Try.ntmps65
  replace H := let_hid H
  obtain ⟨t_3, ht_3, H⟩ := H
  replace H := join_hid H
  cases t_3 with
  | false =>
    replace H := ite_f H
    replace H := app_hid H
    obtain rfl := ret_hid H
    go_wp2_with fail
    go_ret
    exact ⟨rfl, rfl⟩
  | true =>
    replace H := ite_t H
    replace H := let_hid H
    obtain ⟨t_7, ht_7, H⟩ := H
    replace H := app_hid H
    obtain rfl := ret_hid H
    go_wp2_with fail
    go_ret
    exact ⟨rfl, rfl⟩
end Go.Proofs.Ytaepibmmpdfjcaa.GsL1In

/- loop.example/g01062/spec.l4Rows as a plain function, and the contract of the program's: where the plain one has an answer, the program has it. Conditions: slices read as lists. -/
namespace Go.Proofs.Ytaepibmmpdfjcaa.GsL4Rows
set_option linter.unusedVariables false
set_option linter.unusedSimpArgs false
open Go.RowKit
open Go.Proofs.Ytaepibmmpdfjcaa.Rowed Go.Proofs.Ytaepibmmpdfjcaa.Turn Go.Proofs.Ytaepibmmpdfjcaa.Aid Go.Proofs.Ytaepibmmpdfjcaa.GoP Go.Proofs.Ytaepibmmpdfjcaa.GoM

def l1 (rows : (List ByteArray)) (k0 : Nat) (s : Int) (nx1 bk1 : Int → Option (Bool)) : Option (Bool) :=
  letK s fun k_6l1 =>
  Option.bind (idx rows (k0 : Int)) fun (yt_37 : ByteArray) =>
  letK (decide (k_6l1 < (yt_37.size : Int))) fun (t_40 : Bool) =>
  iteK t_40
  (Option.bind (idx rows (k0 : Int)) fun (yt_43 : ByteArray) =>
  Option.bind (idx yt_43.toList k_6l1) fun (yt_46 : UInt8) =>
  letK ((yt_46.toNat : Int)) fun (t_46 : Int) =>
  letK (t_46 != 46) fun (t_49 : Bool) =>
  joinK (fun (t_57 : Bool) =>
  iteK t_57
  (some false)
  (letK (IntKind.i64.wrap (k_6l1 + 1)) fun (t_60 : Int) =>
  appK nx1 (t_60))) fun jt_57 => iteK t_49 (letK (decide (t_46 < 97)) fun (t_52 : Bool) =>
  joinK (fun (t_56 : Bool) =>
  appK jt_57 t_56) fun jt_56 => iteK t_52 (appK jt_56 true) (letK (decide (122 < t_46)) fun (t_55 : Bool) =>
  appK jt_56 t_55)) (appK jt_57 false))
  (appK bk1 (k_6l1))

def e1 (nx0 : (Unit) → Option (Bool)) (s : Int) : Option (Bool) :=
  letK s fun k_6l1 =>
  appK nx0 ()

def l0 (rows : (List ByteArray)) (most : Int) (fuel : Nat) (k0 : Nat) (s : Unit) (nx0 bk0 : Unit → Option (Bool)) : Option (Bool) :=
  
  Option.bind (idx rows (k0 : Int)) fun (yt_14 : ByteArray) =>
  Option.bind (idx rows 0) fun (yt_18 : ByteArray) =>
  letK ((yt_14.size : Int) != (yt_18.size : Int)) fun (t_21 : Bool) =>
  joinK (fun (t_31 : Bool) =>
  iteK t_31
  (some false)
  (loopK (l1 rows k0) fuel (0) (e1 nx0))) fun jt_31 => iteK t_21 (appK jt_31 true) (Option.bind (idx rows (k0 : Int)) fun (yt_25 : ByteArray) =>
  Option.bind (Go.Proofs.Ytaepibmmpdfjcaa.GsL1In.P (yt_25.size : Int) 1 most) fun (t_29 : Bool) =>
  letK (!t_29) fun (t_30 : Bool) =>
  appK jt_31 t_30)

def e0  (s : Unit) : Option (Bool) :=
  
  some true

def P (fuel : Nat) (rows : (List ByteArray)) (most : Int) : Option (Bool) :=
  Option.bind (Go.Proofs.Ytaepibmmpdfjcaa.GsL1In.P (rows.length : Int) 1 most) fun (t_4 : Bool) =>
  letK (!t_4) fun (t_5 : Bool) =>
  iteK t_5
  (some false)
  (cntK (l0 rows most fuel) (rows.length) 0 () (e0 ))

set_option maxRecDepth 100000 in
set_option maxHeartbeats 2000000 in
theorem C (fuel : Nat) (rows : (List ByteArray)) (most : Int) (A0 : Option Addr) (c0 : Nat)  (w : World) (M0 : Hid (Cells w 1 A0 rows.length (rows.map Value.string))) (N0 : Hid (rows.length ≤ 9223372036854775807))  {r : Bool} (H : Hid (P fuel rows most = some r)) :
    Calls Try.prog 88 #[.slice A0 rows.length c0, .int .i64 most] w (Gives (.bool r) w) := by
  have HB := Lib.hid (Below.refl w.heap.size w)
  unfold P at H
  have N0o := N0.out
  go_enter Try.func88, Try.ntmps88
  replace H := bind_hid H
  obtain ⟨t_4, qt_4, H⟩ := H
  go_wp2_with fail
  go_at_call 65
  refine (Go.Proofs.Ytaepibmmpdfjcaa.GsL1In.C ((rows.length : Int)) (1) (most)  _    qt_4).mono ?_
  rintro e_t_4 wt_4 ⟨rfl, bt_4⟩
  have HBwt_4 := Lib.hid (Below.step HB.out bt_4)
  clear bt_4
  cases t_4 with
  | false =>
    replace H := let_hid H
    obtain ⟨t_5, ht_5, H⟩ := H
    obtain rfl : t_5 = true := ht_5.symm
    replace H := ite_t H
    obtain rfl := ret_hid H
    go_wp2_with fail
    go_ret
    exact ⟨rfl, HBwt_4.out⟩
  | true =>
    replace H := let_hid H
    obtain ⟨t_5, ht_5, H⟩ := H
    obtain rfl : t_5 = false := ht_5.symm
    replace H := ite_f H
    go_wp2_with fail
    go_loopg [5] (rows.length) (fun m_ v5_ wr => ∃ (k0 : Nat) , k0 + m_ = rows.length ∧ v5_ = .int .i64 (k0 : Int) ∧ Hid (cntK (l0 rows most fuel) m_ k0 () (e0 ) = some r) ∧ Hid (Below w.heap.size w wr))
    case atStart => exact ⟨0, by omega, rfl, H, HBwt_4⟩
    case round =>
      obtain ⟨k0, hkm0, rfl, H, HBwr0⟩ := hrel
      rename World => wr0
      cases gk with
      | zero =>
        obtain rfl : k0 = rows.length := by omega
        have hc0 : decide (((rows.length : Nat) : Int) < ((rows.length : Nat) : Int)) = false := by simp
        replace H := cnt_zero H
        unfold e0 at H
        obtain rfl := ret_hid H
        go_wp2_with fail
        go_ret
        exact ⟨rfl, HBwr0.out⟩
      | succ m0 =>
        have hlt0 : k0 < rows.length := by omega
        have hc0 : decide ((k0 : Int) < ((rows.length : Nat) : Int)) = true := by simp; omega
        replace H := cnt_succ H
        unfold l0 at H
        go_wp2_with fail
        replace H := idx_hid H
        obtain ⟨nt_14, yt_14, et_14, lt_14, gt_14, H⟩ := H
        obtain rfl : k0 = nt_14 := by omega
        clear et_14
        obtain ⟨ab_t_14, ao_t_14, zt_14, At_14, z_t_14, ct_14_0⟩ := strs_at M0.out lt_14
        obtain rfl := Option.some.inj (gt_14.out.symm.trans z_t_14)
        subst At_14
        have ltt_14 := cell_lt ct_14_0
        replace ct_14_0 := cell_below HBwr0.out ct_14_0
        clear z_t_14
        have b0t_14 : (0 : Int) ≤ (k0 : Int) := by omega
        have b1t_14 : (k0 : Int) < ((rows.length : Nat) : Int) := by omega
        have b2t_14 : ((k0 : Int)).toNat = k0 := by omega
        have Hct_14_0 := Lib.hid ct_14_0
        replace ct_14_0 := cell_regrown ct_14_0
        replace H := idx_hid H
        obtain ⟨nt_18, yt_18, et_18, lt_18, gt_18, H⟩ := H
        obtain rfl : 0 = nt_18 := by omega
        clear et_18
        obtain ⟨ab_t_18, ao_t_18, zt_18, At_18, z_t_18, ct_18_0⟩ := strs_at M0.out lt_18
        obtain rfl := Option.some.inj (gt_18.out.symm.trans z_t_18)
        simp only [Option.some.injEq, Addr.mk.injEq] at At_18
        obtain ⟨rfl, rfl, _⟩ := At_18
        have ltt_18 := cell_lt ct_18_0
        replace ct_18_0 := cell_below HBwr0.out ct_18_0
        clear z_t_18
        have b1t_18 : (0 : Int) < ((rows.length : Nat) : Int) := by omega
        have b3t_18 : 0 < rows.length := by omega
        try simp only [Nat.zero_mul, Nat.add_zero, Nat.zero_add, Nat.reduceMul] at ct_18_0
        have Hct_18_0 := Lib.hid ct_18_0
        replace ct_18_0 := cell_regrown ct_18_0
        replace H := let_hid H
        obtain ⟨t_21, ht_21, H⟩ := H
        replace H := join_hid H
        cases t_21 with
        | false =>
          have Hht_21 : Hid (yt_14.size = yt_18.size) := Lib.hid (by have := bne_eq_false_iff_eq.1 ht_21; omega)
          have nht_21 : (yt_14.size == yt_18.size) = true := beq_iff_eq.2 Hht_21.out
          replace H := ite_f H
          replace H := idx_hid H
          obtain ⟨nt_25, yt_25, et_25, lt_25, gt_25, H⟩ := H
          obtain rfl : k0 = nt_25 := by omega
          clear et_25
          obtain rfl := Option.some.inj (gt_14.out.symm.trans gt_25.out)
          clear gt_25 lt_25
          replace H := bind_hid H
          obtain ⟨t_29, qt_29, H⟩ := H
          have nt_29 : ∀ d os, Calls Try.prog 65 #[.int .i64 (yt_14.size : Int), .int .i64 1, .int .i64 most] (Go.Sort.grow (redrawn wr0 d) os) fun e w'' => e = .returned (.bool t_29) ∧ ∃ p : Regrown, w'' = Go.Sort.grow (redrawn wr0 p.d) p.os := fun d os => Calls.regrown_of (Go.Proofs.Ytaepibmmpdfjcaa.GsL1In.C ((yt_14.size : Int)) (1) (most)  _    qt_29)
          cases t_29 with
          | false =>
            replace H := let_hid H
            obtain ⟨t_30, ht_30, H⟩ := H
            obtain rfl : t_30 = true := ht_30.symm
            replace H := app_hid H
            refine wp_region_quiet_below (by kernel_rfl) (by kernel_rfl) ?_
            repeat (go_big_quiet_step (first | (go_at_call 65; exact nt_29 _ _)))
            refine wpQuiet_nil ?_
            intro Y6 hY6
            replace hY6 := below_class hY6
            clear nt_29
            replace ct_14_0 := Hct_14_0.out
            clear Hct_14_0
            replace ct_18_0 := Hct_18_0.out
            clear Hct_18_0
            have HBY6 := Lib.hid (Below.step HBwr0.out hY6)
            replace ct_14_0 := cell_below hY6 ct_14_0
            replace ct_18_0 := cell_below hY6 ct_18_0
            clear hY6
            replace H := ite_t H
            obtain rfl := ret_hid H
            go_wp2_with fail
            go_ret
            exact ⟨rfl, HBY6.out⟩
          | true =>
            replace H := let_hid H
            obtain ⟨t_30, ht_30, H⟩ := H
            obtain rfl : t_30 = false := ht_30.symm
            replace H := app_hid H
            refine wp_region_quiet_below (by kernel_rfl) (by kernel_rfl) ?_
            repeat (go_big_quiet_step (first | (go_at_call 65; exact nt_29 _ _)))
            refine wpQuiet_nil ?_
            intro Y6 hY6
            replace hY6 := below_class hY6
            clear nt_29
            replace ct_14_0 := Hct_14_0.out
            clear Hct_14_0
            replace ct_18_0 := Hct_18_0.out
            clear Hct_18_0
            have HBY6 := Lib.hid (Below.step HBwr0.out hY6)
            replace ct_14_0 := cell_below hY6 ct_14_0
            replace ct_18_0 := cell_below hY6 ct_18_0
            clear hY6
            replace H := ite_f H
            go_wp2_with fail
            go_loopg [6] (fuel) (fun m_ v6_ wr => ∃ (k_6l1 : Int), v6_ = .int .i64 k_6l1 ∧ Hid (loopK (l1 rows k0) m_ (k_6l1) (e1 (fun s' => cntK (l0 rows most fuel) m0 (k0 + 1) s' (e0 ))) = some r) ∧ Hid (Below w.heap.size w wr))
            case atStart => exact ⟨_, rfl, H, HBY6⟩
            case round =>
              obtain ⟨k_6l1, rfl, H, HBwr1⟩ := hrel
              rename World => wr1
              cases gk with
              | zero => exact (loop_zero H).elim
              | succ m1 =>
                replace H := loop_succ H
                unfold l1 at H
                replace H := let_hid H
                obtain ⟨_, rfl, H⟩ := H
                replace H := idx_hid H
                obtain ⟨nt_37, yt_37, et_37, lt_37, gt_37, H⟩ := H
                obtain rfl : k0 = nt_37 := by omega
                clear et_37
                obtain ⟨ab_t_37, ao_t_37, zt_37, At_37, z_t_37, ct_37_0⟩ := strs_at M0.out lt_37
                obtain rfl := Option.some.inj (gt_37.out.symm.trans z_t_37)
                simp only [Option.some.injEq, Addr.mk.injEq] at At_37
                obtain ⟨rfl, rfl, _⟩ := At_37
                have ltt_37 := cell_lt ct_37_0
                replace ct_37_0 := cell_below HBwr1.out ct_37_0
                clear z_t_37
                have b0t_37 : (0 : Int) ≤ (k0 : Int) := by omega
                have b1t_37 : (k0 : Int) < ((rows.length : Nat) : Int) := by omega
                have b2t_37 : ((k0 : Int)).toNat = k0 := by omega
                replace H := let_hid H
                obtain ⟨t_40, ht_40, H⟩ := H
                cases t_40 with
                | false =>
                  replace H := ite_f H
                  replace H := app_hid H
                  unfold e1 at H
                  replace H := let_hid H
                  obtain ⟨_, rfl, H⟩ := H
                  replace H := app_hid H
                  go_wp2_with fail
                  go_roundg m0
                  case measure => omega
                  case rel => exact ⟨k0 + 1, by omega, by go_num, H, HBwr1⟩
                | true =>
                  replace H := ite_t H
                  replace H := idx_hid H
                  obtain ⟨nt_43, yt_43, et_43, lt_43, gt_43, H⟩ := H
                  obtain rfl : k0 = nt_43 := by omega
                  clear et_43
                  obtain rfl := Option.some.inj (gt_37.out.symm.trans gt_43.out)
                  clear gt_43 lt_43
                  replace H := idx_hid H
                  obtain ⟨nt_46, yt_46, et_46, lt_46, gt_46, H⟩ := H
                  subst et_46
                  have nc_10 : nt_46 < yt_37.size := by have := of_decide_eq_true ht_40; omega
                  have rt_46 := byte_rule lt_46 gt_46.out
                  have b0t_46 : (0 : Int) ≤ (nt_46 : Int) := by omega
                  have b1t_46 : (nt_46 : Int) < (yt_37.size : Int) := by have := size_list yt_37; omega
                  have b2t_46 : ((nt_46 : Int)).toNat = nt_46 := by omega
                  have b3t_46 : nt_46 < yt_37.size := by have := size_list yt_37; omega
                  replace H := let_hid H
                  obtain ⟨t_46, ht_46, H⟩ := H
                  replace H := let_hid H
                  obtain ⟨t_49, ht_49, H⟩ := H
                  replace H := join_hid H
                  cases t_49 with
                  | false =>
                    replace H := ite_f H
                    replace H := app_hid H
                    replace H := ite_f H
                    replace H := let_hid H
                    obtain ⟨t_60, ht_60, H⟩ := H
                    replace H := app_hid H
                    go_wp2_with fail
                    go_roundg m1
                    case measure => omega
                    case rel => exact ⟨_, rfl, H, HBwr1⟩
                  | true =>
                    replace H := ite_t H
                    replace H := let_hid H
                    obtain ⟨t_52, ht_52, H⟩ := H
                    replace H := join_hid H
                    cases t_52 with
                    | false =>
                      replace H := ite_f H
                      replace H := let_hid H
                      obtain ⟨t_55, ht_55, H⟩ := H
                      replace H := app_hid H
                      replace H := app_hid H
                      cases t_55 with
                      | false =>
                        replace H := ite_f H
                        replace H := let_hid H
                        obtain ⟨t_60, ht_60, H⟩ := H
                        replace H := app_hid H
                        go_wp2_with fail
                        go_roundg m1
                        case measure => omega
                        case rel => exact ⟨_, rfl, H, HBwr1⟩
                      | true =>
                        replace H := ite_t H
                        obtain rfl := ret_hid H
                        go_wp2_with fail
                        go_ret
                        exact ⟨rfl, HBwr1.out⟩
                    | true =>
                      replace H := ite_t H
                      replace H := app_hid H
                      replace H := app_hid H
                      replace H := ite_t H
                      obtain rfl := ret_hid H
                      go_wp2_with fail
                      go_ret
                      exact ⟨rfl, HBwr1.out⟩
        | true =>
          have nht_21 : ¬ (yt_14.size = yt_18.size) := by have := bne_iff_ne.1 ht_21; omega
          replace H := ite_t H
          replace H := app_hid H
          refine wp_region_quiet_below (by kernel_rfl) (by kernel_rfl) ?_
          repeat (go_big_quiet_step (fail))
          refine wpQuiet_nil ?_
          intro Y6 hY6
          replace hY6 := below_class hY6
          replace ct_14_0 := Hct_14_0.out
          clear Hct_14_0
          replace ct_18_0 := Hct_18_0.out
          clear Hct_18_0
          have HBY6 := Lib.hid (Below.step HBwr0.out hY6)
          replace ct_14_0 := cell_below hY6 ct_14_0
          replace ct_18_0 := cell_below hY6 ct_18_0
          clear hY6
          replace H := ite_t H
          obtain rfl := ret_hid H
          go_wp2_with fail
          go_ret
          exact ⟨rfl, HBY6.out⟩
end Go.Proofs.Ytaepibmmpdfjcaa.GsL4Rows

/- loop.example/g01062/spec.IsSheet as a plain function, and the contract of the program's: where the plain one has an answer, the program has it. Conditions: slices read as lists. -/
namespace Go.Proofs.Ytaepibmmpdfjcaa.GsIsSheet
set_option linter.unusedVariables false
set_option linter.unusedSimpArgs false
open Go.RowKit
open Go.Proofs.Ytaepibmmpdfjcaa.Rowed Go.Proofs.Ytaepibmmpdfjcaa.Turn Go.Proofs.Ytaepibmmpdfjcaa.Aid Go.Proofs.Ytaepibmmpdfjcaa.GoP Go.Proofs.Ytaepibmmpdfjcaa.GoM

def P (fuel : Nat) (sheet : (List ByteArray)) : Option (Bool) :=
  Option.bind (Go.Proofs.Ytaepibmmpdfjcaa.GsL4Rows.P fuel sheet 5) fun (t_2 : Bool) =>
  some t_2

set_option maxRecDepth 100000 in
set_option maxHeartbeats 2000000 in
theorem C (fuel : Nat) (sheet : (List ByteArray)) (A0 : Option Addr) (c0 : Nat)  (w : World) (M0 : Hid (Cells w 1 A0 sheet.length (sheet.map Value.string))) (N0 : Hid (sheet.length ≤ 9223372036854775807))  {r : Bool} (H : Hid (P fuel sheet = some r)) :
    Calls Try.prog 52 #[.slice A0 sheet.length c0] w (Gives (.bool r) w) := by
  have HB := Lib.hid (Below.refl w.heap.size w)
  unfold P at H
  have N0o := N0.out
  go_enter Try.func52, Try.ntmps52
  replace H := bind_hid H
  obtain ⟨t_2, qt_2, H⟩ := H
  go_wp2_with fail
  go_at_call 88
  refine (Go.Proofs.Ytaepibmmpdfjcaa.GsL4Rows.C fuel (sheet) (5) A0 c0 _   (Lib.hid (Cells.below M0.out HB.out)) N0 qt_2).mono ?_
  rintro e_t_2 wt_2 ⟨rfl, bt_2⟩
  have HBwt_2 := Lib.hid (Below.step HB.out bt_2)
  clear bt_2
  obtain rfl := ret_hid H
  go_wp2_with fail
  go_ret
  exact ⟨rfl, HBwt_2.out⟩
end Go.Proofs.Ytaepibmmpdfjcaa.GsIsSheet

/- loop.example/g01062/spec.IsBlock as a plain function, and the contract of the program's: where the plain one has an answer, the program has it. Conditions: slices read as lists. -/
namespace Go.Proofs.Ytaepibmmpdfjcaa.GsIsBlock
set_option linter.unusedVariables false
set_option linter.unusedSimpArgs false
open Go.RowKit
open Go.Proofs.Ytaepibmmpdfjcaa.Rowed Go.Proofs.Ytaepibmmpdfjcaa.Turn Go.Proofs.Ytaepibmmpdfjcaa.Aid Go.Proofs.Ytaepibmmpdfjcaa.GoP Go.Proofs.Ytaepibmmpdfjcaa.GoM

def P (fuel : Nat) (b_rows : (List ByteArray)) : Option (Bool) :=
  Option.bind (Go.Proofs.Ytaepibmmpdfjcaa.GsL4Rows.P fuel b_rows 3) fun (t_4 : Bool) =>
  some t_4

set_option maxRecDepth 100000 in
set_option maxHeartbeats 2000000 in
theorem C (fuel : Nat) (b_rows : (List ByteArray)) (A0_0 : Option Addr) (c0_0 : Nat)  (w : World) (M0_0 : Hid (Cells w 1 A0_0 b_rows.length (b_rows.map Value.string))) (N0_0 : Hid (b_rows.length ≤ 9223372036854775807))  {r : Bool} (H : Hid (P fuel b_rows = some r)) :
    Calls Try.prog 53 #[.agg #[.slice A0_0 b_rows.length c0_0]] w (Gives (.bool r) w) := by
  have HB := Lib.hid (Below.refl w.heap.size w)
  unfold P at H
  have N0_0o := N0_0.out
  go_enter Try.func53, Try.ntmps53
  obtain ⟨w_b_0, hw_b_0⟩ : ∃ x, w.alloc (.cells #[.slice A0_0 b_rows.length c0_0] 26) = x := ⟨_, rfl⟩
  have bw_b_0 : Below w.heap.size w w_b_0 := by rw [← hw_b_0]; exact (Below.refl _ _).alloc (Nat.le_refl _) _
  have HBw_b_0 := Lib.hid (Below.step HB.out bw_b_0)
  clear bw_b_0
  have kb_0_0 : w_b_0.cell? ⟨w.heap.size, 0, none⟩ = some (.slice A0_0 b_rows.length c0_0) := by rw [← hw_b_0]; exact box_new _ _ _ 0 _ rfl
  replace H := bind_hid H
  obtain ⟨t_4, qt_4, H⟩ := H
  go_wp2_with fail
  go_at_call 88
  refine (Go.Proofs.Ytaepibmmpdfjcaa.GsL4Rows.C fuel (b_rows) (3) A0_0 c0_0 _   (Lib.hid (Cells.below M0_0.out HBw_b_0.out)) N0_0 qt_4).mono ?_
  rintro e_t_4 wt_4 ⟨rfl, bt_4⟩
  have HBwt_4 := Lib.hid (Below.step HBw_b_0.out bt_4)
  replace kb_0_0 := cell_below bt_4 kb_0_0
  clear bt_4
  obtain rfl := ret_hid H
  go_wp2_with fail
  go_ret
  exact ⟨rfl, HBwt_4.out⟩
end Go.Proofs.Ytaepibmmpdfjcaa.GsIsBlock

/- loop.example/g01062/spec.l4Fits as a plain function, and the contract of the program's: where the plain one has an answer, the program has it. Conditions: slices read as lists. -/
namespace Go.Proofs.Ytaepibmmpdfjcaa.GsL4Fits
set_option linter.unusedVariables false
set_option linter.unusedSimpArgs false
open Go.RowKit
open Go.Proofs.Ytaepibmmpdfjcaa.Rowed Go.Proofs.Ytaepibmmpdfjcaa.Turn Go.Proofs.Ytaepibmmpdfjcaa.Aid Go.Proofs.Ytaepibmmpdfjcaa.GoP Go.Proofs.Ytaepibmmpdfjcaa.GoM

def l1 (sheet : (List ByteArray)) (b_rows : (List ByteArray)) (row_2 : Int) (col : Int) (i_9l0 : Int) (s : Int) (nx1 bk1 : Int → Option (Bool)) : Option (Bool) :=
  letK s fun k_10l1 =>
  Option.bind (idx b_rows i_9l0) fun (yt_44 : ByteArray) =>
  letK (decide (k_10l1 < (yt_44.size : Int))) fun (t_47 : Bool) =>
  iteK t_47
  (Option.bind (idx b_rows i_9l0) fun (yt_51 : ByteArray) =>
  Option.bind (idx yt_51.toList k_10l1) fun (yt_54 : UInt8) =>
  letK ((yt_54.toNat : Int)) fun (t_54 : Int) =>
  letK (IntKind.i64.wrap (row_2 + i_9l0)) fun (t_58 : Int) =>
  Option.bind (idx sheet t_58) fun (yt_59 : ByteArray) =>
  letK (IntKind.i64.wrap (col + k_10l1)) fun (t_63 : Int) =>
  Option.bind (idx yt_59.toList t_63) fun (yt_64 : UInt8) =>
  letK ((yt_64.toNat : Int)) fun (t_64 : Int) =>
  letK (t_54 != 46) fun (t_68 : Bool) =>
  joinK (fun (t_72 : Bool) =>
  joinK (fun (t_77 : Bool) =>
  iteK t_77
  (some false)
  (letK (IntKind.i64.wrap (k_10l1 + 1)) fun (t_80 : Int) =>
  appK nx1 (t_80))) fun jt_77 => iteK t_72 (letK (t_54 != t_64) fun (t_76 : Bool) =>
  appK jt_77 t_76) (appK jt_77 false)) fun jt_72 => iteK t_68 (letK (t_64 != 46) fun (t_71 : Bool) =>
  appK jt_72 t_71) (appK jt_72 false))
  (appK bk1 (k_10l1))

def e1 (nx0 : (Int) → Option (Bool)) (i_9l0 : Int) (s : Int) : Option (Bool) :=
  letK s fun k_10l1 =>
  letK (IntKind.i64.wrap (i_9l0 + 1)) fun (t_83 : Int) =>
  appK nx0 (t_83)

def l0 (sheet : (List ByteArray)) (b_rows : (List ByteArray)) (row_2 : Int) (col : Int) (fuel : Nat) (s : Int) (nx0 bk0 : Int → Option (Bool)) : Option (Bool) :=
  letK s fun i_9l0 =>
  letK (decide (i_9l0 < (b_rows.length : Int))) fun (t_38 : Bool) =>
  iteK t_38
  (loopK (l1 sheet b_rows row_2 col i_9l0) fuel (0) (e1 nx0 i_9l0))
  (appK bk0 (i_9l0))

def e0  (s : Int) : Option (Bool) :=
  letK s fun i_9l0 =>
  some true

def P (fuel : Nat) (sheet : (List ByteArray)) (b_rows : (List ByteArray)) (row_2 : Int) (col : Int) : Option (Bool) :=
  letK (decide (row_2 < 0)) fun (t_3 : Bool) =>
  joinK (fun (t_13 : Bool) =>
  joinK (fun (t_17 : Bool) =>
  joinK (fun (t_31 : Bool) =>
  iteK t_31
  (some false)
  (loopK (l0 sheet b_rows row_2 col fuel) fuel (0) (e0 ))) fun jt_31 => iteK t_17 (appK jt_31 true) (Option.bind (idx sheet 0) fun (yt_21 : ByteArray) =>
  Option.bind (idx b_rows 0) fun (yt_26 : ByteArray) =>
  letK (IntKind.i64.wrap ((yt_21.size : Int) - (yt_26.size : Int))) fun (t_29 : Int) =>
  letK (decide (t_29 < col)) fun (t_30 : Bool) =>
  appK jt_31 t_30)) fun jt_17 => iteK t_13 (appK jt_17 true) (letK (decide (col < 0)) fun (t_16 : Bool) =>
  appK jt_17 t_16)) fun jt_13 => iteK t_3 (appK jt_13 true) (letK (IntKind.i64.wrap ((sheet.length : Int) - (b_rows.length : Int))) fun (t_11 : Int) =>
  letK (decide (t_11 < row_2)) fun (t_12 : Bool) =>
  appK jt_13 t_12)

set_option maxRecDepth 100000 in
set_option maxHeartbeats 2000000 in
theorem C (fuel : Nat) (sheet : (List ByteArray)) (b_rows : (List ByteArray)) (row_2 : Int) (col : Int) (A0 : Option Addr) (c0 : Nat) (A1_0 : Option Addr) (c1_0 : Nat)  (w : World) (M0 : Hid (Cells w 1 A0 sheet.length (sheet.map Value.string))) (N0 : Hid (sheet.length ≤ 9223372036854775807)) (M1_0 : Hid (Cells w 1 A1_0 b_rows.length (b_rows.map Value.string))) (N1_0 : Hid (b_rows.length ≤ 9223372036854775807))  {r : Bool} (H : Hid (P fuel sheet b_rows row_2 col = some r)) :
    Calls Try.prog 60 #[.slice A0 sheet.length c0, .agg #[.slice A1_0 b_rows.length c1_0], .int .i64 row_2, .int .i64 col] w (Gives (.bool r) w) := by
  have HB := Lib.hid (Below.refl w.heap.size w)
  unfold P at H
  have N0o := N0.out
  have N1_0o := N1_0.out
  go_enter Try.func60, Try.ntmps60
  obtain ⟨w_b_0, hw_b_0⟩ : ∃ x, w.alloc (.cells #[.slice A1_0 b_rows.length c1_0] 26) = x := ⟨_, rfl⟩
  have bw_b_0 : Below w.heap.size w w_b_0 := by rw [← hw_b_0]; exact (Below.refl _ _).alloc (Nat.le_refl _) _
  have HBw_b_0 := Lib.hid (Below.step HB.out bw_b_0)
  clear bw_b_0
  have kb_0_0 : w_b_0.cell? ⟨w.heap.size, 0, none⟩ = some (.slice A1_0 b_rows.length c1_0) := by rw [← hw_b_0]; exact box_new _ _ _ 0 _ rfl
  go_wp2_with fail
  have Hkb_0_0 := Lib.hid kb_0_0
  replace kb_0_0 := cell_regrown kb_0_0
  replace H := let_hid H
  obtain ⟨t_3, ht_3, H⟩ := H
  replace H := join_hid H
  cases t_3 with
  | false =>
    replace H := ite_f H
    replace H := let_hid H
    obtain ⟨t_11, ht_11, H⟩ := H
    replace H := let_hid H
    obtain ⟨t_12, ht_12, H⟩ := H
    replace H := app_hid H
    replace H := join_hid H
    cases t_12 with
    | false =>
      replace H := ite_f H
      replace H := let_hid H
      obtain ⟨t_16, ht_16, H⟩ := H
      replace H := app_hid H
      replace H := join_hid H
      cases t_16 with
      | false =>
        replace H := ite_f H
        replace H := idx_hid H
        obtain ⟨nt_21, yt_21, et_21, lt_21, gt_21, H⟩ := H
        obtain rfl : 0 = nt_21 := by omega
        clear et_21
        obtain ⟨ab_t_21, ao_t_21, zt_21, At_21, z_t_21, ct_21_0⟩ := strs_at M0.out lt_21
        obtain rfl := Option.some.inj (gt_21.out.symm.trans z_t_21)
        subst At_21
        have ltt_21 := cell_lt ct_21_0
        replace ct_21_0 := cell_below HBw_b_0.out ct_21_0
        clear z_t_21
        have b1t_21 : (0 : Int) < ((sheet.length : Nat) : Int) := by omega
        have b3t_21 : 0 < sheet.length := by omega
        try simp only [Nat.zero_mul, Nat.add_zero, Nat.zero_add, Nat.reduceMul] at ct_21_0
        have Hct_21_0 := Lib.hid ct_21_0
        replace ct_21_0 := cell_regrown ct_21_0
        replace H := idx_hid H
        obtain ⟨nt_26, yt_26, et_26, lt_26, gt_26, H⟩ := H
        obtain rfl : 0 = nt_26 := by omega
        clear et_26
        obtain ⟨ab_t_26, ao_t_26, zt_26, At_26, z_t_26, ct_26_0⟩ := strs_at M1_0.out lt_26
        obtain rfl := Option.some.inj (gt_26.out.symm.trans z_t_26)
        subst At_26
        have ltt_26 := cell_lt ct_26_0
        replace ct_26_0 := cell_below HBw_b_0.out ct_26_0
        clear z_t_26
        have b1t_26 : (0 : Int) < ((b_rows.length : Nat) : Int) := by omega
        have b3t_26 : 0 < b_rows.length := by omega
        try simp only [Nat.zero_mul, Nat.add_zero, Nat.zero_add, Nat.reduceMul] at ct_26_0
        have Hct_26_0 := Lib.hid ct_26_0
        replace ct_26_0 := cell_regrown ct_26_0
        replace H := let_hid H
        obtain ⟨t_29, ht_29, H⟩ := H
        replace H := let_hid H
        obtain ⟨t_30, ht_30, H⟩ := H
        replace H := app_hid H
        refine wp_region_quiet_below (by kernel_rfl) (by kernel_rfl) ?_
        repeat (go_big_quiet_step (fail))
        refine wpQuiet_nil ?_
        intro Y1 hY1
        replace hY1 := below_class hY1
        replace kb_0_0 := Hkb_0_0.out
        clear Hkb_0_0
        replace ct_21_0 := Hct_21_0.out
        clear Hct_21_0
        replace ct_26_0 := Hct_26_0.out
        clear Hct_26_0
        have HBY1 := Lib.hid (Below.step HBw_b_0.out hY1)
        replace kb_0_0 := cell_below hY1 kb_0_0
        replace ct_21_0 := cell_below hY1 ct_21_0
        replace ct_26_0 := cell_below hY1 ct_26_0
        clear hY1
        cases t_30 with
        | false =>
          replace H := ite_f H
          go_wp2_with fail
          go_loopg [9] (fuel) (fun m_ v9_ wr => ∃ (i_9l0 : Int), v9_ = .int .i64 i_9l0 ∧ Hid (loopK (l0 sheet b_rows row_2 col fuel) m_ (i_9l0) (e0 ) = some r) ∧ Hid (Below w.heap.size w wr) ∧ wr.cell? ⟨w.heap.size, 0, none⟩ = some (.slice (some ⟨ab_t_26, ao_t_26, none⟩) b_rows.length c1_0))
          case atStart => exact ⟨_, rfl, H, HBY1, kb_0_0⟩
          case round =>
            obtain ⟨i_9l0, rfl, H, HBwr0, kb_0_0⟩ := hrel
            rename World => wr0
            cases gk with
            | zero => exact (loop_zero H).elim
            | succ m0 =>
              replace H := loop_succ H
              unfold l0 at H
              replace H := let_hid H
              obtain ⟨_, rfl, H⟩ := H
              replace H := let_hid H
              obtain ⟨t_38, ht_38, H⟩ := H
              cases t_38 with
              | false =>
                replace H := ite_f H
                replace H := app_hid H
                unfold e0 at H
                replace H := let_hid H
                obtain ⟨_, rfl, H⟩ := H
                obtain rfl := ret_hid H
                go_wp2_with fail
                go_ret
                exact ⟨rfl, HBwr0.out⟩
              | true =>
                replace H := ite_t H
                go_wp2_with fail
                go_loopg [10] (fuel) (fun m_ v10_ wr => ∃ (k_10l1 : Int), v10_ = .int .i64 k_10l1 ∧ Hid (loopK (l1 sheet b_rows row_2 col i_9l0) m_ (k_10l1) (e1 (fun s' => loopK (l0 sheet b_rows row_2 col fuel) m0 s' (e0 )) i_9l0) = some r) ∧ Hid (Below w.heap.size w wr) ∧ wr.cell? ⟨w.heap.size, 0, none⟩ = some (.slice (some ⟨ab_t_26, ao_t_26, none⟩) b_rows.length c1_0))
                case atStart => exact ⟨_, rfl, H, HBwr0, kb_0_0⟩
                case round =>
                  obtain ⟨k_10l1, rfl, H, HBwr1, kb_0_0⟩ := hrel
                  rename World => wr1
                  cases gk with
                  | zero => exact (loop_zero H).elim
                  | succ m1 =>
                    replace H := loop_succ H
                    unfold l1 at H
                    replace H := let_hid H
                    obtain ⟨_, rfl, H⟩ := H
                    replace H := idx_hid H
                    obtain ⟨nt_44, yt_44, et_44, lt_44, gt_44, H⟩ := H
                    subst et_44
                    have nc_11 : nt_44 < b_rows.length := by have := of_decide_eq_true ht_38; omega
                    obtain ⟨ab_t_44, ao_t_44, zt_44, At_44, z_t_44, ct_44_0⟩ := strs_at M1_0.out lt_44
                    obtain rfl := Option.some.inj (gt_44.out.symm.trans z_t_44)
                    simp only [Option.some.injEq, Addr.mk.injEq] at At_44
                    obtain ⟨rfl, rfl, _⟩ := At_44
                    have ltt_44 := cell_lt ct_44_0
                    replace ct_44_0 := cell_below HBwr1.out ct_44_0
                    clear z_t_44
                    have b0t_44 : (0 : Int) ≤ (nt_44 : Int) := by omega
                    have b1t_44 : (nt_44 : Int) < ((b_rows.length : Nat) : Int) := by omega
                    have b2t_44 : ((nt_44 : Int)).toNat = nt_44 := by omega
                    replace H := let_hid H
                    obtain ⟨t_47, ht_47, H⟩ := H
                    cases t_47 with
                    | false =>
                      replace H := ite_f H
                      replace H := app_hid H
                      unfold e1 at H
                      replace H := let_hid H
                      obtain ⟨_, rfl, H⟩ := H
                      replace H := let_hid H
                      obtain ⟨t_83, ht_83, H⟩ := H
                      replace H := app_hid H
                      go_wp2_with fail
                      go_roundg m0
                      case measure => omega
                      case rel => exact ⟨_, rfl, H, HBwr1, kb_0_0⟩
                    | true =>
                      replace H := ite_t H
                      go_wp2_with fail
                      have Hkb_0_0 := Lib.hid kb_0_0
                      replace kb_0_0 := cell_regrown kb_0_0
                      have Hct_44_0 := Lib.hid ct_44_0
                      replace ct_44_0 := cell_regrown ct_44_0
                      replace H := idx_hid H
                      obtain ⟨nt_51, yt_51, et_51, lt_51, gt_51, H⟩ := H
                      obtain rfl : nt_44 = nt_51 := by omega
                      clear et_51
                      obtain rfl := Option.some.inj (gt_44.out.symm.trans gt_51.out)
                      clear gt_51 lt_51
                      replace H := idx_hid H
                      obtain ⟨nt_54, yt_54, et_54, lt_54, gt_54, H⟩ := H
                      subst et_54
                      have nc_12 : nt_54 < yt_44.size := by have := of_decide_eq_true ht_47; omega
                      have rt_54 := byte_rule lt_54 gt_54.out
                      have b0t_54 : (0 : Int) ≤ (nt_54 : Int) := by omega
                      have b1t_54 : (nt_54 : Int) < (yt_44.size : Int) := by have := size_list yt_44; omega
                      have b2t_54 : ((nt_54 : Int)).toNat = nt_54 := by omega
                      have b3t_54 : nt_54 < yt_44.size := by have := size_list yt_44; omega
                      replace H := let_hid H
                      obtain ⟨t_54, ht_54, H⟩ := H
                      replace H := let_hid H
                      obtain ⟨t_58, ht_58, H⟩ := H
                      replace H := idx_hid H
                      obtain ⟨nt_59, yt_59, et_59, lt_59, gt_59, H⟩ := H
                      subst et_59
                      obtain ⟨ab_t_59, ao_t_59, zt_59, At_59, z_t_59, ct_59_0⟩ := strs_at M0.out lt_59
                      obtain rfl := Option.some.inj (gt_59.out.symm.trans z_t_59)
                      simp only [Option.some.injEq, Addr.mk.injEq] at At_59
                      obtain ⟨rfl, rfl, _⟩ := At_59
                      have ltt_59 := cell_lt ct_59_0
                      replace ct_59_0 := cell_below HBwr1.out ct_59_0
                      clear z_t_59
                      have b0t_59 : (0 : Int) ≤ (nt_59 : Int) := by omega
                      have b1t_59 : (nt_59 : Int) < ((sheet.length : Nat) : Int) := by omega
                      have b2t_59 : ((nt_59 : Int)).toNat = nt_59 := by omega
                      have Hct_59_0 := Lib.hid ct_59_0
                      replace ct_59_0 := cell_regrown ct_59_0
                      replace H := let_hid H
                      obtain ⟨t_63, ht_63, H⟩ := H
                      replace H := idx_hid H
                      obtain ⟨nt_64, yt_64, et_64, lt_64, gt_64, H⟩ := H
                      subst et_64
                      have rt_64 := byte_rule lt_64 gt_64.out
                      have b0t_64 : (0 : Int) ≤ (nt_64 : Int) := by omega
                      have b1t_64 : (nt_64 : Int) < (yt_59.size : Int) := by have := size_list yt_59; omega
                      have b2t_64 : ((nt_64 : Int)).toNat = nt_64 := by omega
                      have b3t_64 : nt_64 < yt_59.size := by have := size_list yt_59; omega
                      replace H := let_hid H
                      obtain ⟨t_64, ht_64, H⟩ := H
                      refine wp_region_quiet_below (by kernel_rfl) (by kernel_rfl) ?_
                      repeat (go_big_quiet_step (fail))
                      refine wpQuiet_nil ?_
                      intro Y9 hY9
                      replace hY9 := below_class hY9
                      replace kb_0_0 := Hkb_0_0.out
                      clear Hkb_0_0
                      replace ct_44_0 := Hct_44_0.out
                      clear Hct_44_0
                      replace ct_59_0 := Hct_59_0.out
                      clear Hct_59_0
                      have HBY9 := Lib.hid (Below.step HBwr1.out hY9)
                      replace kb_0_0 := cell_below hY9 kb_0_0
                      replace ct_44_0 := cell_below hY9 ct_44_0
                      replace ct_59_0 := cell_below hY9 ct_59_0
                      clear hY9
                      replace H := let_hid H
                      obtain ⟨t_68, ht_68, H⟩ := H
                      replace H := join_hid H
                      cases t_68 with
                      | false =>
                        replace H := ite_f H
                        replace H := app_hid H
                        replace H := join_hid H
                        replace H := ite_f H
                        replace H := app_hid H
                        replace H := ite_f H
                        replace H := let_hid H
                        obtain ⟨t_80, ht_80, H⟩ := H
                        replace H := app_hid H
                        go_wp2_with fail
                        go_roundg m1
                        case measure => omega
                        case rel => exact ⟨_, rfl, H, HBY9, kb_0_0⟩
                      | true =>
                        replace H := ite_t H
                        replace H := let_hid H
                        obtain ⟨t_71, ht_71, H⟩ := H
                        replace H := app_hid H
                        replace H := join_hid H
                        cases t_71 with
                        | false =>
                          replace H := ite_f H
                          replace H := app_hid H
                          replace H := ite_f H
                          replace H := let_hid H
                          obtain ⟨t_80, ht_80, H⟩ := H
                          replace H := app_hid H
                          go_wp2_with fail
                          go_roundg m1
                          case measure => omega
                          case rel => exact ⟨_, rfl, H, HBY9, kb_0_0⟩
                        | true =>
                          replace H := ite_t H
                          replace H := let_hid H
                          obtain ⟨t_76, ht_76, H⟩ := H
                          replace H := app_hid H
                          cases t_76 with
                          | false =>
                            replace H := ite_f H
                            replace H := let_hid H
                            obtain ⟨t_80, ht_80, H⟩ := H
                            replace H := app_hid H
                            go_wp2_with fail
                            go_roundg m1
                            case measure => omega
                            case rel => exact ⟨_, rfl, H, HBY9, kb_0_0⟩
                          | true =>
                            replace H := ite_t H
                            obtain rfl := ret_hid H
                            go_wp2_with fail
                            go_ret
                            exact ⟨rfl, HBY9.out⟩
        | true =>
          replace H := ite_t H
          obtain rfl := ret_hid H
          go_wp2_with fail
          go_ret
          exact ⟨rfl, HBY1.out⟩
      | true =>
        replace H := ite_t H
        replace H := app_hid H
        refine wp_region_quiet_below (by kernel_rfl) (by kernel_rfl) ?_
        repeat (go_big_quiet_step (fail))
        refine wpQuiet_nil ?_
        intro Y1 hY1
        replace hY1 := below_class hY1
        replace kb_0_0 := Hkb_0_0.out
        clear Hkb_0_0
        have HBY1 := Lib.hid (Below.step HBw_b_0.out hY1)
        replace kb_0_0 := cell_below hY1 kb_0_0
        clear hY1
        replace H := ite_t H
        obtain rfl := ret_hid H
        go_wp2_with fail
        go_ret
        exact ⟨rfl, HBY1.out⟩
    | true =>
      replace H := ite_t H
      replace H := app_hid H
      replace H := join_hid H
      replace H := ite_t H
      replace H := app_hid H
      refine wp_region_quiet_below (by kernel_rfl) (by kernel_rfl) ?_
      repeat (go_big_quiet_step (fail))
      refine wpQuiet_nil ?_
      intro Y1 hY1
      replace hY1 := below_class hY1
      replace kb_0_0 := Hkb_0_0.out
      clear Hkb_0_0
      have HBY1 := Lib.hid (Below.step HBw_b_0.out hY1)
      replace kb_0_0 := cell_below hY1 kb_0_0
      clear hY1
      replace H := ite_t H
      obtain rfl := ret_hid H
      go_wp2_with fail
      go_ret
      exact ⟨rfl, HBY1.out⟩
  | true =>
    replace H := ite_t H
    replace H := app_hid H
    replace H := join_hid H
    replace H := ite_t H
    replace H := app_hid H
    replace H := join_hid H
    replace H := ite_t H
    replace H := app_hid H
    refine wp_region_quiet_below (by kernel_rfl) (by kernel_rfl) ?_
    repeat (go_big_quiet_step (fail))
    refine wpQuiet_nil ?_
    intro Y1 hY1
    replace hY1 := below_class hY1
    replace kb_0_0 := Hkb_0_0.out
    clear Hkb_0_0
    have HBY1 := Lib.hid (Below.step HBw_b_0.out hY1)
    replace kb_0_0 := cell_below hY1 kb_0_0
    clear hY1
    replace H := ite_t H
    obtain rfl := ret_hid H
    go_wp2_with fail
    go_ret
    exact ⟨rfl, HBY1.out⟩
end Go.Proofs.Ytaepibmmpdfjcaa.GsL4Fits

/- loop.example/g01062/spec.l4Lay as a plain function, and the contract of the program's: where the plain one has an answer, the program has it. Conditions: slices read as lists. -/
namespace Go.Proofs.Ytaepibmmpdfjcaa.GsL4Lay
set_option linter.unusedVariables false
set_option linter.unusedSimpArgs false
open Go.RowKit
open Go.Proofs.Ytaepibmmpdfjcaa.Rowed Go.Proofs.Ytaepibmmpdfjcaa.Turn Go.Proofs.Ytaepibmmpdfjcaa.Aid Go.Proofs.Ytaepibmmpdfjcaa.GoP Go.Proofs.Ytaepibmmpdfjcaa.GoM

def j0 (nx1 : (ByteArray × Int) → Option ((List ByteArray))) (s_11l1 : ByteArray) (k_12l1 : Int) (s : ByteArray) : Option ((List ByteArray)) :=
  guardK (s_11l1.size + s.size ≤ maxLen) <|
  letK (s_11l1 ++ s) fun (t_69 : ByteArray) =>
  letK (IntKind.i64.wrap (k_12l1 + 1)) fun (t_72 : Int) =>
  appK nx1 (t_69, t_72)

def l1 (sheet : (List ByteArray)) (b_rows : (List ByteArray)) (row_2 : Int) (col : Int) (k0 : Nat) (s : ByteArray × Int) (nx1 bk1 : ByteArray × Int → Option ((List ByteArray))) : Option ((List ByteArray)) :=
  unp2 s fun s_11l1 k_12l1 =>
  Option.bind (idx sheet (k0 : Int)) fun (yt_14 : ByteArray) =>
  letK (decide (k_12l1 < (yt_14.size : Int))) fun (t_17 : Bool) =>
  iteK t_17
  (Option.bind (idx sheet (k0 : Int)) fun (yt_20 : ByteArray) =>
  letK (IntKind.i64.wrap (k_12l1 + 1)) fun (t_24 : Int) =>
  guardK ((0 : Int) ≤ k_12l1 ∧ (k_12l1 : Int) ≤ t_24 ∧ (t_24 : Int) ≤ (yt_20.size : Int)) <|
  letK (ByteArray.extract yt_20 (Int.toNat k_12l1) (Int.toNat t_24)) fun (t_25 : ByteArray) =>
  letK (IntKind.i64.wrap ((k0 : Int) - row_2)) fun (t_29 : Int) =>
  letK (IntKind.i64.wrap ((b_rows.length : Int) - 1)) fun (t_33 : Int) =>
  Option.bind (Go.Proofs.Ytaepibmmpdfjcaa.GsL1In.P t_29 0 t_33) fun (t_34 : Bool) =>
  joinK (fun (t_46 : Bool) =>
  joinK (fun (t_50 : Bool) =>
  iteK t_50
  (letK (IntKind.i64.wrap ((k0 : Int) - row_2)) fun (t_55 : Int) =>
  Option.bind (idx b_rows t_55) fun (yt_56 : ByteArray) =>
  letK (IntKind.i64.wrap (k_12l1 - col)) fun (t_60 : Int) =>
  letK (IntKind.i64.wrap (k_12l1 - col)) fun (t_63 : Int) =>
  letK (IntKind.i64.wrap (t_63 + 1)) fun (t_64 : Int) =>
  guardK ((0 : Int) ≤ t_60 ∧ (t_60 : Int) ≤ t_64 ∧ (t_64 : Int) ≤ (yt_56.size : Int)) <|
  letK (ByteArray.extract yt_56 (Int.toNat t_60) (Int.toNat t_64)) fun (t_65 : ByteArray) =>
  j0 nx1 s_11l1 k_12l1 (t_65))
  (j0 nx1 s_11l1 k_12l1 (t_25))) fun jt_50 => iteK t_46 (letK (t_25.toList == (⟨#[46]⟩ : ByteArray).toList) fun (t_49 : Bool) =>
  appK jt_50 t_49) (appK jt_50 false)) fun jt_46 => iteK t_34 (letK (IntKind.i64.wrap (k_12l1 - col)) fun (t_38 : Int) =>
  Option.bind (idx b_rows 0) fun (yt_41 : ByteArray) =>
  letK (IntKind.i64.wrap ((yt_41.size : Int) - 1)) fun (t_44 : Int) =>
  Option.bind (Go.Proofs.Ytaepibmmpdfjcaa.GsL1In.P t_38 0 t_44) fun (t_45 : Bool) =>
  appK jt_46 t_45) (appK jt_46 false))
  (appK bk1 (s_11l1, k_12l1))

def e1 (nx0 : ((List ByteArray)) → Option ((List ByteArray))) (out_9l0 : (List ByteArray)) (s : ByteArray × Int) : Option ((List ByteArray)) :=
  unp2 s fun s_11l1 k_12l1 =>
  guardK (out_9l0.length ≤ 1099511627776) <|
  letK (out_9l0 ++ [s_11l1]) fun (t_77 : (List ByteArray)) =>
  appK nx0 (t_77)

def l0 (sheet : (List ByteArray)) (b_rows : (List ByteArray)) (row_2 : Int) (col : Int) (fuel : Nat) (k0 : Nat) (s : (List ByteArray)) (nx0 bk0 : (List ByteArray) → Option ((List ByteArray))) : Option ((List ByteArray)) :=
  letK s fun out_9l0 =>
  loopK (l1 sheet b_rows row_2 col k0) fuel ((⟨#[]⟩ : ByteArray), 0) (e1 nx0 out_9l0)

def e0  (s : (List ByteArray)) : Option ((List ByteArray)) :=
  letK s fun out_9l0 =>
  some out_9l0

def P (fuel : Nat) (sheet : (List ByteArray)) (b_rows : (List ByteArray)) (row_2 : Int) (col : Int) : Option ((List ByteArray)) :=
  cntK (l0 sheet b_rows row_2 col fuel) (sheet.length) 0 (([] : List ByteArray)) (e0 )

set_option maxRecDepth 100000 in
set_option maxHeartbeats 2000000 in
theorem C (fuel : Nat) (sheet : (List ByteArray)) (b_rows : (List ByteArray)) (row_2 : Int) (col : Int) (A0 : Option Addr) (c0 : Nat) (A1_0 : Option Addr) (c1_0 : Nat)  (w : World) (M0 : Hid (Cells w 1 A0 sheet.length (sheet.map Value.string))) (N0 : Hid (sheet.length ≤ 9223372036854775807)) (M1_0 : Hid (Cells w 1 A1_0 b_rows.length (b_rows.map Value.string))) (N1_0 : Hid (b_rows.length ≤ 9223372036854775807))  {r : (List ByteArray)} (H : Hid (P fuel sheet b_rows row_2 col = some r)) :
    Calls Try.prog 61 #[.slice A0 sheet.length c0, .agg #[.slice A1_0 b_rows.length c1_0], .int .i64 row_2, .int .i64 col] w (fun e w' => ∃ A_r c_r, e = .returned (.slice A_r r.length c_r) ∧ w'.ownsRow w.heap.size 9 1 (.slice A_r r.length c_r) r.length (r.map Value.string) ∧ Below w.heap.size w w') := by
  have HB := Lib.hid (Below.refl w.heap.size w)
  unfold P at H
  have N0o := N0.out
  have N1_0o := N1_0.out
  obtain ⟨i0_9, hi_9, hz0_9, hz1_9, hz2_9⟩ := Aid.info_parts (P := Try.prog) (T := 9) (z := .string ByteArray.empty) (s := 1) (b := 16) (by kernel_rfl)
  go_enter Try.func61, Try.ntmps61
  obtain ⟨w_b_0, hw_b_0⟩ : ∃ x, w.alloc (.cells #[.slice A1_0 b_rows.length c1_0] 26) = x := ⟨_, rfl⟩
  have bw_b_0 : Below w.heap.size w w_b_0 := by rw [← hw_b_0]; exact (Below.refl _ _).alloc (Nat.le_refl _) _
  have HBw_b_0 := Lib.hid (Below.step HB.out bw_b_0)
  clear bw_b_0
  have kb_0_0 : w_b_0.cell? ⟨w.heap.size, 0, none⟩ = some (.slice A1_0 b_rows.length c1_0) := by rw [← hw_b_0]; exact box_new _ _ _ 0 _ rfl
  obtain ⟨w_t_2, hw_t_2⟩ : ∃ x, w_b_0.alloc (.cells #[] 9) = x := ⟨_, rfl⟩
  have bw_t_2 : Below w_b_0.heap.size w_b_0 w_t_2 := by rw [← hw_t_2]; exact (Below.refl _ _).alloc (Nat.le_refl _) _
  have Ot_2 : Hid (w_t_2.ownsRow w.heap.size 9 1 (.slice (some ⟨w_b_0.heap.size, 0, none⟩) 0 0) 0 []) := Lib.hid (by rw [← hw_t_2]; exact own_empty HBw_b_0.out.size)
  have Dt_2_b_0 := Lib.hid (apart_box kb_0_0)
  have HBw_t_2 := Lib.hid (Below.step HBw_b_0.out bw_t_2)
  have kb_0_0__13 := cell_below bw_t_2 kb_0_0
  clear bw_t_2
  go_wp2_with fail
  clear kb_0_0
  go_loopg [10, 9] (sheet.length) (fun m_ v10_ v9_ wr => ∃ (k0 : Nat) (out_9l0 : (List ByteArray)) (Aout_9l0 : Option Addr) (cout_9l0 : Nat), k0 + m_ = sheet.length ∧ v10_ = .int .i64 (k0 : Int) ∧ v9_ = .slice Aout_9l0 out_9l0.length cout_9l0 ∧ Hid (cntK (l0 sheet b_rows row_2 col fuel) m_ k0 (out_9l0) (e0 ) = some r) ∧ Hid (Below w.heap.size w wr) ∧ wr.cell? ⟨w.heap.size, 0, none⟩ = some (.slice A1_0 b_rows.length c1_0) ∧ Hid (wr.ownsRow w.heap.size 9 1 (.slice Aout_9l0 out_9l0.length cout_9l0) out_9l0.length (out_9l0.map Value.string)) ∧ Hid (Apart Aout_9l0 (some ⟨w.heap.size, 0, none⟩)))
  case atStart => exact ⟨0, _, _, _, by omega, rfl, rfl, H, HBw_t_2, kb_0_0__13, Ot_2, Lib.hid Dt_2_b_0.out⟩
  case round =>
    obtain ⟨k0, out_9l0, Aout_9l0, cout_9l0, hkm0, rfl, rfl, H, HBwr0, kb_0_0__13, Oout_9l0, Dout_9l0_b_0⟩ := hrel
    rename World => wr0
    cases gk with
    | zero =>
      obtain rfl : k0 = sheet.length := by omega
      have hc0 : decide (((sheet.length : Nat) : Int) < ((sheet.length : Nat) : Int)) = false := by simp
      replace H := cnt_zero H
      unfold e0 at H
      replace H := let_hid H
      obtain ⟨_, rfl, H⟩ := H
      obtain rfl := ret_hid H
      go_wp2_with fail
      go_ret
      exact ⟨Aout_9l0, cout_9l0, rfl, Oout_9l0.out, HBwr0.out⟩
    | succ m0 =>
      have hlt0 : k0 < sheet.length := by omega
      have hc0 : decide ((k0 : Int) < ((sheet.length : Nat) : Int)) = true := by simp; omega
      replace H := cnt_succ H
      unfold l0 at H
      replace H := let_hid H
      obtain ⟨_, rfl, H⟩ := H
      go_wp2_with fail
      go_loopg [11, 12] (fuel) (fun m_ v11_ v12_ wr => ∃ (s_11l1 : ByteArray) (k_12l1 : Int), v11_ = .string s_11l1 ∧ v12_ = .int .i64 k_12l1 ∧ Hid (loopK (l1 sheet b_rows row_2 col k0) m_ (s_11l1, k_12l1) (e1 (fun s' => cntK (l0 sheet b_rows row_2 col fuel) m0 (k0 + 1) s' (e0 )) out_9l0) = some r) ∧ Hid (Below w.heap.size w wr) ∧ wr.cell? ⟨w.heap.size, 0, none⟩ = some (.slice A1_0 b_rows.length c1_0) ∧ Hid (wr.ownsRow w.heap.size 9 1 (.slice Aout_9l0 out_9l0.length cout_9l0) out_9l0.length (out_9l0.map Value.string)))
      case atStart => exact ⟨_, _, rfl, rfl, H, HBwr0, kb_0_0__13, Oout_9l0⟩
      case round =>
        obtain ⟨s_11l1, k_12l1, rfl, rfl, H, HBwr1, kb_0_0__13, Oout_9l0⟩ := hrel
        rename World => wr1
        cases gk with
        | zero => exact (loop_zero H).elim
        | succ m1 =>
          replace H := loop_succ H
          unfold l1 at H
          replace H := unp2_hid H
          replace H := idx_hid H
          obtain ⟨nt_14, yt_14, et_14, lt_14, gt_14, H⟩ := H
          obtain rfl : k0 = nt_14 := by omega
          clear et_14
          obtain ⟨ab_t_14, ao_t_14, zt_14, At_14, z_t_14, ct_14_0⟩ := strs_at M0.out lt_14
          obtain rfl := Option.some.inj (gt_14.out.symm.trans z_t_14)
          subst At_14
          have ltt_14 := cell_lt ct_14_0
          replace ct_14_0 := cell_below HBwr1.out ct_14_0
          clear z_t_14
          have b0t_14 : (0 : Int) ≤ (k0 : Int) := by omega
          have b1t_14 : (k0 : Int) < ((sheet.length : Nat) : Int) := by omega
          have b2t_14 : ((k0 : Int)).toNat = k0 := by omega
          replace H := let_hid H
          obtain ⟨t_17, ht_17, H⟩ := H
          cases t_17 with
          | false =>
            replace H := ite_f H
            replace H := app_hid H
            unfold e1 at H
            replace H := unp2_hid H
            obtain ⟨w_t_76, hw_t_76⟩ : ∃ x, wr1.alloc (.cells #[.string s_11l1] 9) = x := ⟨_, rfl⟩
            have bw_t_76 : Below wr1.heap.size wr1 w_t_76 := by rw [← hw_t_76]; exact (Below.refl _ _).alloc (Nat.le_refl _) _
            have HBw_t_76 := Lib.hid (Below.step HBwr1.out bw_t_76)
            have kb_0_0__14 := cell_below bw_t_76 kb_0_0__13
            have ct_14_0__15 := cell_below bw_t_76 ct_14_0
            replace Oout_9l0 := Lib.hid (own_below Oout_9l0.out bw_t_76)
            clear bw_t_76
            replace H := guard_hid H
            obtain ⟨hlt_77, H⟩ := H
            replace H := let_hid H
            obtain ⟨t_77, ht_77, H⟩ := H
            have hht_77 := Lib.hid ht_77
            clear ht_77
            have hst_77 := HBw_t_76.out.size
            go_wp2_with (at_builtin; refine wpList_append_own_at _ rfl _ _ 24 rfl w.heap.size 9 i0_9 (.string ByteArray.empty) 1 16 Try.underlying24 hi_9 hz0_9 hz1_9 hz2_9 rfl (by decide) _ _ _ rfl Oout_9l0.out ⟨wr1.heap.size, 0, none⟩ 1 1 [.string s_11l1] rfl rfl (news_new hw_t_76) (one_cells rfl) (by unfold maxLen; omega) (by omega) hst_77 ?_; intro vt_77 wt_77 ot_77 gt_77 zt_77 yt_77; clear zt_77; obtain ⟨qt_77, ct_77, rfl, pt_77⟩ := own_push hht_77.out (by simp) rfl ot_77; have Pt_77 := Lib.hid pt_77; have Yt_77 := Lib.hid yt_77; have Gt_77 := Lib.hid gt_77; clear ot_77 gt_77 pt_77 yt_77; refine stop_in ?_)
            refine stop_out ?_
            have HBwt_77 := Lib.hid (HBw_t_76.out.grown Gt_77.out hst_77 (fun q hq => (Oout_9l0.out.lt q hq).1))
            clear hst_77
            have Dt_77_b_0 : Hid (Apart (some ⟨qt_77, 0, none⟩) _) := Lib.hid (apart_app Dout_9l0_b_0.out (fun a_ ha_ => by cases ha_; exact cell_lt kb_0_0__14) Yt_77.out)
            replace kb_0_0__14 := cell_other kb_0_0__14 Gt_77.out Dout_9l0_b_0.out
            replace ct_14_0__15 := cell_other ct_14_0__15 Gt_77.out (apart_old Oout_9l0.out ltt_14)
            clear kb_0_0__13 ct_14_0
            clear Oout_9l0 Yt_77 Gt_77
            replace H := app_hid H
            go_wp2_with fail
            go_roundg m0
            case measure => omega
            case rel => exact ⟨k0 + 1, _, _, _, by omega, by go_num, rfl, H, HBwt_77, kb_0_0__14, Pt_77, Lib.hid Dt_77_b_0.out⟩
          | true =>
            replace H := ite_t H
            replace H := idx_hid H
            obtain ⟨nt_20, yt_20, et_20, lt_20, gt_20, H⟩ := H
            obtain rfl : k0 = nt_20 := by omega
            clear et_20
            obtain rfl := Option.some.inj (gt_14.out.symm.trans gt_20.out)
            clear gt_20 lt_20
            replace H := let_hid H
            obtain ⟨t_24, ht_24, H⟩ := H
            replace H := guard_hid H
            obtain ⟨hl_t_25, H⟩ := H
            replace H := let_hid H
            obtain ⟨t_25, ht_25, H⟩ := H
            have ct_25 := slice_both (P := Try.prog) (t := 9) (k := .i64) (k' := .i64) Try.underlying9 ht_25 hl_t_25
            clear hl_t_25
            have hht_25 := Lib.hid ht_25
            clear ht_25
            replace H := let_hid H
            obtain ⟨t_29, ht_29, H⟩ := H
            replace H := let_hid H
            obtain ⟨t_33, ht_33, H⟩ := H
            try have hv_t_33 : (b_rows.length : Int) - 1 = t_33 := by rw [← ht_33]; exact (IntWalk.i64_in _ (by omega)).symm
            try have hv2_t_33 : IntKind.i64.wrap t_33 = t_33 := by rw [← hv_t_33]; exact IntWalk.i64_in _ (by omega)
            replace H := bind_hid H
            obtain ⟨t_34, qt_34, H⟩ := H
            go_wp2_with fail
            go_at_call 65
            refine (Go.Proofs.Ytaepibmmpdfjcaa.GsL1In.C (t_29) (0) (t_33)  _    qt_34).mono ?_
            rintro e_t_34 wt_34 ⟨rfl, bt_34⟩
            have HBwt_34 := Lib.hid (Below.step HBwr1.out bt_34)
            replace kb_0_0__13 := cell_below bt_34 kb_0_0__13
            replace ct_14_0 := cell_below bt_34 ct_14_0
            replace Oout_9l0 := Lib.hid (own_below Oout_9l0.out bt_34)
            clear bt_34
            replace H := join_hid H
            cases t_34 with
            | false =>
              replace H := ite_f H
              replace H := app_hid H
              replace H := join_hid H
              replace H := ite_f H
              replace H := app_hid H
              replace H := ite_f H
              unfold j0 at H
              replace H := guard_hid H
              obtain ⟨hl_t_69, H⟩ := H
              replace H := let_hid H
              obtain ⟨t_69, ht_69, H⟩ := H
              have ct_69 := cat_rule (P := Try.prog) ht_69 hl_t_69
              clear hl_t_69
              have hht_69 := Lib.hid ht_69
              clear ht_69
              replace H := let_hid H
              obtain ⟨t_72, ht_72, H⟩ := H
              obtain rfl := ht_24.symm.trans ht_72
              replace H := app_hid H
              go_wp2_with fail
              go_roundg m1
              case measure => omega
              case rel => exact ⟨_, _, rfl, rfl, H, HBwt_34, kb_0_0__13, Oout_9l0⟩
            | true =>
              replace H := ite_t H
              replace H := let_hid H
              obtain ⟨t_38, ht_38, H⟩ := H
              replace H := idx_hid H
              obtain ⟨nt_41, yt_41, et_41, lt_41, gt_41, H⟩ := H
              obtain rfl : 0 = nt_41 := by omega
              clear et_41
              obtain ⟨ab_t_41, ao_t_41, zt_41, At_41, z_t_41, ct_41_0⟩ := strs_at M1_0.out lt_41
              obtain rfl := Option.some.inj (gt_41.out.symm.trans z_t_41)
              subst At_41
              have ltt_41 := cell_lt ct_41_0
              replace ct_41_0 := cell_below HBwt_34.out ct_41_0
              clear z_t_41
              have b1t_41 : (0 : Int) < ((b_rows.length : Nat) : Int) := by omega
              have b3t_41 : 0 < b_rows.length := by omega
              try simp only [Nat.zero_mul, Nat.add_zero, Nat.zero_add, Nat.reduceMul] at ct_41_0
              replace H := let_hid H
              obtain ⟨t_44, ht_44, H⟩ := H
              replace H := bind_hid H
              obtain ⟨t_45, qt_45, H⟩ := H
              go_wp2_with fail
              go_at_call 65
              refine (Go.Proofs.Ytaepibmmpdfjcaa.GsL1In.C (t_38) (0) (t_44)  _    qt_45).mono ?_
              rintro e_t_45 wt_45 ⟨rfl, bt_45⟩
              have HBwt_45 := Lib.hid (Below.step HBwt_34.out bt_45)
              replace kb_0_0__13 := cell_below bt_45 kb_0_0__13
              replace ct_14_0 := cell_below bt_45 ct_14_0
              replace ct_41_0 := cell_below bt_45 ct_41_0
              replace Oout_9l0 := Lib.hid (own_below Oout_9l0.out bt_45)
              clear bt_45
              replace H := app_hid H
              replace H := join_hid H
              cases t_45 with
              | false =>
                replace H := ite_f H
                replace H := app_hid H
                replace H := ite_f H
                unfold j0 at H
                replace H := guard_hid H
                obtain ⟨hl_t_69, H⟩ := H
                replace H := let_hid H
                obtain ⟨t_69, ht_69, H⟩ := H
                have ct_69 := cat_rule (P := Try.prog) ht_69 hl_t_69
                clear hl_t_69
                have hht_69 := Lib.hid ht_69
                clear ht_69
                replace H := let_hid H
                obtain ⟨t_72, ht_72, H⟩ := H
                obtain rfl := ht_24.symm.trans ht_72
                replace H := app_hid H
                go_wp2_with fail
                go_roundg m1
                case measure => omega
                case rel => exact ⟨_, _, rfl, rfl, H, HBwt_45, kb_0_0__13, Oout_9l0⟩
              | true =>
                replace H := ite_t H
                replace H := let_hid H
                obtain ⟨t_49, ht_49, H⟩ := H
                have kt_49 : (t_25.toList == [46]) = t_49 := by rw [← ht_49]; first | rfl | decide | simp
                replace H := app_hid H
                cases t_49 with
                | false =>
                  replace H := ite_f H
                  unfold j0 at H
                  replace H := guard_hid H
                  obtain ⟨hl_t_69, H⟩ := H
                  replace H := let_hid H
                  obtain ⟨t_69, ht_69, H⟩ := H
                  have ct_69 := cat_rule (P := Try.prog) ht_69 hl_t_69
                  clear hl_t_69
                  have hht_69 := Lib.hid ht_69
                  clear ht_69
                  replace H := let_hid H
                  obtain ⟨t_72, ht_72, H⟩ := H
                  obtain rfl := ht_24.symm.trans ht_72
                  replace H := app_hid H
                  go_wp2_with fail
                  go_roundg m1
                  case measure => omega
                  case rel => exact ⟨_, _, rfl, rfl, H, HBwt_45, kb_0_0__13, Oout_9l0⟩
                | true =>
                  replace H := ite_t H
                  replace H := let_hid H
                  obtain ⟨t_55, ht_55, H⟩ := H
                  obtain rfl := ht_29.symm.trans ht_55
                  replace H := idx_hid H
                  obtain ⟨nt_56, yt_56, et_56, lt_56, gt_56, H⟩ := H
                  subst et_56
                  obtain ⟨ab_t_56, ao_t_56, zt_56, At_56, z_t_56, ct_56_0⟩ := strs_at M1_0.out lt_56
                  obtain rfl := Option.some.inj (gt_56.out.symm.trans z_t_56)
                  simp only [Option.some.injEq, Addr.mk.injEq] at At_56
                  obtain ⟨rfl, rfl, _⟩ := At_56
                  have ltt_56 := cell_lt ct_56_0
                  replace ct_56_0 := cell_below HBwt_45.out ct_56_0
                  clear z_t_56
                  have b0t_56 : (0 : Int) ≤ (nt_56 : Int) := by omega
                  have b1t_56 : (nt_56 : Int) < ((b_rows.length : Nat) : Int) := by omega
                  have b2t_56 : ((nt_56 : Int)).toNat = nt_56 := by omega
                  replace H := let_hid H
                  obtain ⟨t_60, ht_60, H⟩ := H
                  obtain rfl := ht_38.symm.trans ht_60
                  replace H := let_hid H
                  obtain ⟨t_63, ht_63, H⟩ := H
                  obtain rfl := ht_38.symm.trans ht_63
                  replace H := let_hid H
                  obtain ⟨t_64, ht_64, H⟩ := H
                  replace H := guard_hid H
                  obtain ⟨hl_t_65, H⟩ := H
                  replace H := let_hid H
                  obtain ⟨t_65, ht_65, H⟩ := H
                  have ct_65 := slice_both (P := Try.prog) (t := 9) (k := .i64) (k' := .i64) Try.underlying9 ht_65 hl_t_65
                  clear hl_t_65
                  have hht_65 := Lib.hid ht_65
                  clear ht_65
                  unfold j0 at H
                  replace H := guard_hid H
                  obtain ⟨hl_t_69, H⟩ := H
                  replace H := let_hid H
                  obtain ⟨t_69, ht_69, H⟩ := H
                  have ct_69 := cat_rule (P := Try.prog) ht_69 hl_t_69
                  clear hl_t_69
                  have hht_69 := Lib.hid ht_69
                  clear ht_69
                  replace H := let_hid H
                  obtain ⟨t_72, ht_72, H⟩ := H
                  obtain rfl := ht_24.symm.trans ht_72
                  replace H := app_hid H
                  go_wp2_with fail
                  go_roundg m1
                  case measure => omega
                  case rel => exact ⟨_, _, rfl, rfl, H, HBwt_45, kb_0_0__13, Oout_9l0⟩
end Go.Proofs.Ytaepibmmpdfjcaa.GsL4Lay

/- loop.example/g01062/spec.LayBlock as a plain function, and the contract of the program's: where the plain one has an answer, the program has it. Conditions: slices read as lists. -/
namespace Go.Proofs.Ytaepibmmpdfjcaa.GsLayBlock
set_option linter.unusedVariables false
set_option linter.unusedSimpArgs false
open Go.RowKit
open Go.Proofs.Ytaepibmmpdfjcaa.Rowed Go.Proofs.Ytaepibmmpdfjcaa.Turn Go.Proofs.Ytaepibmmpdfjcaa.Aid Go.Proofs.Ytaepibmmpdfjcaa.GoP Go.Proofs.Ytaepibmmpdfjcaa.GoM

def P (fuel : Nat) (sheet : (List ByteArray)) (b_rows : (List ByteArray)) (row_2 : Int) (col : Int) : Option ((List ByteArray) × Bool) :=
  Option.bind (Go.Proofs.Ytaepibmmpdfjcaa.GsIsSheet.P fuel sheet) fun (t_4 : Bool) =>
  letK (!t_4) fun (t_5 : Bool) =>
  joinK (fun (t_10 : Bool) =>
  joinK (fun (t_18 : Bool) =>
  iteK t_18
  (some (([] : List ByteArray), false))
  (Option.bind (Go.Proofs.Ytaepibmmpdfjcaa.GsL4Lay.P fuel sheet b_rows row_2 col) fun (t_26 : (List ByteArray)) =>
  some (t_26, true))) fun jt_18 => iteK t_10 (appK jt_18 true) (Option.bind (Go.Proofs.Ytaepibmmpdfjcaa.GsL4Fits.P fuel sheet b_rows row_2 col) fun (t_16 : Bool) =>
  letK (!t_16) fun (t_17 : Bool) =>
  appK jt_18 t_17)) fun jt_10 => iteK t_5 (appK jt_10 true) (Option.bind (Go.Proofs.Ytaepibmmpdfjcaa.GsIsBlock.P fuel b_rows) fun (t_8 : Bool) =>
  letK (!t_8) fun (t_9 : Bool) =>
  appK jt_10 t_9)

set_option maxRecDepth 100000 in
set_option maxHeartbeats 2000000 in
theorem C (fuel : Nat) (sheet : (List ByteArray)) (b_rows : (List ByteArray)) (row_2 : Int) (col : Int) (A0 : Option Addr) (c0 : Nat) (A1_0 : Option Addr) (c1_0 : Nat)  (w : World) (M0 : Hid (Cells w 1 A0 sheet.length (sheet.map Value.string))) (N0 : Hid (sheet.length ≤ 9223372036854775807)) (M1_0 : Hid (Cells w 1 A1_0 b_rows.length (b_rows.map Value.string))) (N1_0 : Hid (b_rows.length ≤ 9223372036854775807))  {r0 : (List ByteArray)} {r1 : Bool} (H : Hid (P fuel sheet b_rows row_2 col = some (r0, r1))) :
    Calls Try.prog 20 #[.slice A0 sheet.length c0, .agg #[.slice A1_0 b_rows.length c1_0], .int .i64 row_2, .int .i64 col] w (fun e w' => ∃ A_r0 c_r0, e = .returned (.tuple #[.slice A_r0 r0.length c_r0, .bool r1]) ∧ w'.ownsRow w.heap.size 9 1 (.slice A_r0 r0.length c_r0) r0.length (r0.map Value.string) ∧ Below w.heap.size w w') := by
  have HB := Lib.hid (Below.refl w.heap.size w)
  unfold P at H
  have N0o := N0.out
  have N1_0o := N1_0.out
  go_enter Try.func20, Try.ntmps20
  obtain ⟨w_b_0, hw_b_0⟩ : ∃ x, w.alloc (.cells #[.slice A1_0 b_rows.length c1_0] 26) = x := ⟨_, rfl⟩
  have bw_b_0 : Below w.heap.size w w_b_0 := by rw [← hw_b_0]; exact (Below.refl _ _).alloc (Nat.le_refl _) _
  have HBw_b_0 := Lib.hid (Below.step HB.out bw_b_0)
  clear bw_b_0
  have kb_0_0 : w_b_0.cell? ⟨w.heap.size, 0, none⟩ = some (.slice A1_0 b_rows.length c1_0) := by rw [← hw_b_0]; exact box_new _ _ _ 0 _ rfl
  replace H := bind_hid H
  obtain ⟨t_4, qt_4, H⟩ := H
  go_wp2_with fail
  go_at_call 52
  refine (Go.Proofs.Ytaepibmmpdfjcaa.GsIsSheet.C fuel (sheet) A0 c0 _   (Lib.hid (Cells.below M0.out HBw_b_0.out)) N0 qt_4).mono ?_
  rintro e_t_4 wt_4 ⟨rfl, bt_4⟩
  have HBwt_4 := Lib.hid (Below.step HBw_b_0.out bt_4)
  replace kb_0_0 := cell_below bt_4 kb_0_0
  clear bt_4
  cases t_4 with
  | false =>
    replace H := let_hid H
    obtain ⟨t_5, ht_5, H⟩ := H
    obtain rfl : t_5 = true := ht_5.symm
    replace H := join_hid H
    replace H := ite_t H
    replace H := app_hid H
    replace H := join_hid H
    replace H := ite_t H
    replace H := app_hid H
    replace H := ite_t H
    obtain ⟨w_t_19, hw_t_19⟩ : ∃ x, wt_4.alloc (.cells #[] 9) = x := ⟨_, rfl⟩
    have bw_t_19 : Below wt_4.heap.size wt_4 w_t_19 := by rw [← hw_t_19]; exact (Below.refl _ _).alloc (Nat.le_refl _) _
    have Ot_19 : Hid (w_t_19.ownsRow w.heap.size 9 1 (.slice (some ⟨wt_4.heap.size, 0, none⟩) 0 0) 0 []) := Lib.hid (by rw [← hw_t_19]; exact own_empty HBwt_4.out.size)
    have Dt_19_b_0 := Lib.hid (apart_box kb_0_0)
    have HBw_t_19 := Lib.hid (Below.step HBwt_4.out bw_t_19)
    have kb_0_0__16 := cell_below bw_t_19 kb_0_0
    clear bw_t_19
    cases ret_hid H
    go_wp2_with fail
    go_ret2
    exact ⟨(some ⟨wt_4.heap.size, 0, none⟩), 0, rfl, Ot_19.out, HBw_t_19.out⟩
  | true =>
    replace H := let_hid H
    obtain ⟨t_5, ht_5, H⟩ := H
    obtain rfl : t_5 = false := ht_5.symm
    replace H := join_hid H
    replace H := ite_f H
    replace H := bind_hid H
    obtain ⟨t_8, qt_8, H⟩ := H
    go_wp2_with fail
    go_at_call 53
    refine (Go.Proofs.Ytaepibmmpdfjcaa.GsIsBlock.C fuel (b_rows) A1_0 c1_0 _   (Lib.hid (Cells.below M1_0.out HBwt_4.out)) N1_0 qt_8).mono ?_
    rintro e_t_8 wt_8 ⟨rfl, bt_8⟩
    have HBwt_8 := Lib.hid (Below.step HBwt_4.out bt_8)
    replace kb_0_0 := cell_below bt_8 kb_0_0
    clear bt_8
    cases t_8 with
    | false =>
      replace H := let_hid H
      obtain ⟨t_9, ht_9, H⟩ := H
      obtain rfl : t_9 = true := ht_9.symm
      replace H := app_hid H
      replace H := join_hid H
      replace H := ite_t H
      replace H := app_hid H
      replace H := ite_t H
      obtain ⟨w_t_19, hw_t_19⟩ : ∃ x, wt_8.alloc (.cells #[] 9) = x := ⟨_, rfl⟩
      have bw_t_19 : Below wt_8.heap.size wt_8 w_t_19 := by rw [← hw_t_19]; exact (Below.refl _ _).alloc (Nat.le_refl _) _
      have Ot_19 : Hid (w_t_19.ownsRow w.heap.size 9 1 (.slice (some ⟨wt_8.heap.size, 0, none⟩) 0 0) 0 []) := Lib.hid (by rw [← hw_t_19]; exact own_empty HBwt_8.out.size)
      have Dt_19_b_0 := Lib.hid (apart_box kb_0_0)
      have HBw_t_19 := Lib.hid (Below.step HBwt_8.out bw_t_19)
      have kb_0_0__17 := cell_below bw_t_19 kb_0_0
      clear bw_t_19
      cases ret_hid H
      go_wp2_with fail
      go_ret2
      exact ⟨(some ⟨wt_8.heap.size, 0, none⟩), 0, rfl, Ot_19.out, HBw_t_19.out⟩
    | true =>
      replace H := let_hid H
      obtain ⟨t_9, ht_9, H⟩ := H
      obtain rfl : t_9 = false := ht_9.symm
      replace H := app_hid H
      replace H := join_hid H
      replace H := ite_f H
      replace H := bind_hid H
      obtain ⟨t_16, qt_16, H⟩ := H
      go_wp2_with fail
      go_at_call 60
      refine (Go.Proofs.Ytaepibmmpdfjcaa.GsL4Fits.C fuel (sheet) (b_rows) (row_2) (col) A0 c0 A1_0 c1_0 _   (Lib.hid (Cells.below M0.out HBwt_8.out)) N0 (Lib.hid (Cells.below M1_0.out HBwt_8.out)) N1_0 qt_16).mono ?_
      rintro e_t_16 wt_16 ⟨rfl, bt_16⟩
      have HBwt_16 := Lib.hid (Below.step HBwt_8.out bt_16)
      replace kb_0_0 := cell_below bt_16 kb_0_0
      clear bt_16
      cases t_16 with
      | false =>
        replace H := let_hid H
        obtain ⟨t_17, ht_17, H⟩ := H
        obtain rfl : t_17 = true := ht_17.symm
        replace H := app_hid H
        replace H := ite_t H
        obtain ⟨w_t_19, hw_t_19⟩ : ∃ x, wt_16.alloc (.cells #[] 9) = x := ⟨_, rfl⟩
        have bw_t_19 : Below wt_16.heap.size wt_16 w_t_19 := by rw [← hw_t_19]; exact (Below.refl _ _).alloc (Nat.le_refl _) _
        have Ot_19 : Hid (w_t_19.ownsRow w.heap.size 9 1 (.slice (some ⟨wt_16.heap.size, 0, none⟩) 0 0) 0 []) := Lib.hid (by rw [← hw_t_19]; exact own_empty HBwt_16.out.size)
        have Dt_19_b_0 := Lib.hid (apart_box kb_0_0)
        have HBw_t_19 := Lib.hid (Below.step HBwt_16.out bw_t_19)
        have kb_0_0__18 := cell_below bw_t_19 kb_0_0
        clear bw_t_19
        cases ret_hid H
        go_wp2_with fail
        go_ret2
        exact ⟨(some ⟨wt_16.heap.size, 0, none⟩), 0, rfl, Ot_19.out, HBw_t_19.out⟩
      | true =>
        replace H := let_hid H
        obtain ⟨t_17, ht_17, H⟩ := H
        obtain rfl : t_17 = false := ht_17.symm
        replace H := app_hid H
        replace H := ite_f H
        replace H := bind_hid H
        obtain ⟨t_26, qt_26, H⟩ := H
        go_wp2_with fail
        go_at_call 61
        refine (Go.Proofs.Ytaepibmmpdfjcaa.GsL4Lay.C fuel (sheet) (b_rows) (row_2) (col) A0 c0 A1_0 c1_0 _   (Lib.hid (Cells.below M0.out HBwt_16.out)) N0 (Lib.hid (Cells.below M1_0.out HBwt_16.out)) N1_0 qt_26).mono ?_
        rintro e_t_26 wt_26 ⟨At_26, ct_26, rfl, ot_26, bt_26⟩
        have Dt_26_b_0 := Lib.hid (apart_callbox ot_26 kb_0_0)
        have Ot_26 := Lib.hid (own_lower ot_26 HBwt_16.out.size)
        clear ot_26
        have HBwt_26 := Lib.hid (Below.step HBwt_16.out bt_26)
        replace kb_0_0 := cell_below bt_26 kb_0_0
        clear bt_26
        cases ret_hid H
        go_wp2_with fail
        go_ret2
        exact ⟨At_26, ct_26, rfl, Ot_26.out, HBwt_26.out⟩
end Go.Proofs.Ytaepibmmpdfjcaa.GsLayBlock

